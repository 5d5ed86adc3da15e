import PyProof.Rows.All
import Wide.All
import OpenK.AllK
import Wide.FinOn
import PyProof.EqAt
import PyProof.EqKinds
import PyProof.TupleCall
import KE.KIsAll
import KE.KTryMore
import HandS.ForMost
import HandS.Exc
import HandS.ExcIs
import HandS.ExcInit
import HandS.ExcField
import HandS.ExcValue
import HandS.Defaults
import HandS.IsInst
import HandS.WideBits
import HandS.Wide
import PyProof.ReprRoads
import PyProof.ReprText
import HandS.Set
import HandS.SetFor
import HandS.Strs
import HandS.Zip
import HandS.SetBool
import HandS.Comp
import HandS.OwnEq
import HandS.Property
import HandS.Rev
import HandS.DictComp
import HandS.Walk
import PyProof.DictFindH
import PyProof.DictMoreH
import KE.KeyNested
import PyProof.DictRoadsH
import PyProof.Rows.TupTab
import HandS.Call
import HandS.Iter
import HandS.Dict
import HandS.Star
import HandS.Style
import HandS.TupAny
import PyProof.NeKinds
import KE.DataMinMax
import KE.SortData
import HandS.TupSets
import HandS.Deep
import PySem.Challenge.RW_elderlink_k11_whole_rank_among_givings
set_option Elab.async false
set_option linter.all false
set_option maxRecDepth 100000
set_option maxHeartbeats 4000000
namespace PySem
namespace EldX
open PySem.W PySem.Calls PyProof.Rows PySem.HandSPX
open Builtin Builtin.ObjectAttr
section
variable {prog : Program} {w : World} {A : Around} {E : Value → Shared → Prop} {R : Result → Shared → Prop} {h : Heap} {g : Array GenState} {d : Drawn} {t : Nat} {os : OsState}
variable {nm q : Str} {C N : Addr} {bs bm bmB : List Value} {hdct : Bool} {sn : List Str} {sub : List Value} {ab : Bool} {col : Option Bool} {dd : Option Addr} {k0 k1 k2 k3 k5 : Option Value} {B newId initId : String}
/-- a keyword beside the class is let through by the maker's look -/
theorem chk_kw {M : Model} (F : ExcBaseFacts B newId initId bmB) (hT : ∀ X : String, bm.contains (.type X) = bmB.contains (.type X)) {x : Str} {v : Value} {Q : Unit → Shared → Prop}
    (hC : h.get? C = some (excClassObj nm q C N bs bm hdct sn sub ab col dd k0 k1 k2 k3 k5 newId)) (hq : Q () ⟨h, g, d, t, os⟩) :
    wpAny M A (checkBuiltinCall newId ⟨[.ref C], [(x, v)]⟩) Q E ⟨h, g, d, t, os⟩ := by
  have hB : (Value.ref C :: bm).contains (.type B) = true := by
    rw [List.contains_cons, hT, F.hasB, Bool.or_true]
  have hs := F.noStar
  simp only [checkBuiltinCall, F.newKind, F.newSplit, F.newRow]
  repeat (first
    | refine wpAny_loadPart_at hC ?_
    | (refine wpAny_isSubtype_exc hC ?_; rw [hB])
    | refine wpAny_staticBase_exc hC ?_
    | refine wpAny_madeBy_exc hC ?_
    | simp only [bne_self_eq_false, Bool.false_eq_true, if_false]
    | wp_step)
  exact hq
/-- the maker's own run with one keyword: it sees the class alone -/
theorem new_kw (F : ExcBaseFacts B newId initId bmB) (hT : ∀ X : String, bm.contains (.type X) = bmB.contains (.type X)) {x : Str} {v : Value}
    (hC : h.get? C = some (excClassObj nm q C N bs bm hdct sn sub ab col dd k0 k1 k2 k3 k5 newId))
    (hq : R (.ok (.ret (.ref (h.objs.size + 1)))) ⟨(h.push (W.kdv_tup [])).push (excO C h.objs.size), g, d, t, os⟩) :
    codeAny (model prog w) A (.builtin newId ⟨[.ref C], [(x, v)]⟩) R ⟨h, g, d, t, os⟩ := by
  have he := F.ends
  have cB : (Value.ref C :: bm).contains (.type B) = true := by
    rw [List.contains_cons, hT, F.hasB, Bool.or_true]
  have cA : (Value.ref C :: bm).contains (.type "AttributeError") = false := by
    rw [List.contains_cons, hT, F.noAttr]
    rfl
  have cN : (Value.ref C :: bm).contains (.type "NameError") = false := by
    rw [List.contains_cons, hT, F.noName]
    rfl
  refine codeAny_builtinAt F.entry ?_
  unfold Builtin.«BaseException.__new__»
  refine wpAt_bind ?_
  show wpAt _ _ _ (stack >>= _) _ _ _
  refine wpAt_bind (wpAt_stack fun _ _ => wpAt_of_wpAny ?_)
  wp_walk
  refine wpAt_of_wpAny ?_
  rw [F.owner]
  repeat (first
    | with_reducible refine wpAny_madeHere_exc F.canon hC ?_
    | with_reducible refine wpAny_loadPart_at hC ?_
    | (with_reducible refine wpAny_isSubtype_exc hC ?_; first | rw [cB] | rw [cA] | rw [cN])
    | wp_step)
  show R _ _
  rw [Heap.size_push]
  exact hq
theorem type_call_kw (F : ExcBaseFacts B newId initId bmB) (hT : ∀ X : String, bm.contains (.type X) = bmB.contains (.type X)) {x : Str} {v : Value} {fI : Addr} {Q : Fin → Shared → Prop}
    (hC : h.get? C = some (excClassObj nm q C N bs bm hdct sn sub ab col dd k0 k1 k2 k3 k5 newId))
    (hi : W.Looks (model prog w) h (typeLookup (.ref C) "__init__") (some (.ref fI))) (hb : ∀ self, W.Looks (model prog w) h (bindSpecial (.ref fI) self) (.ref fI, [self]))
    (hq : codeAny (model prog w) A (.call (.ref fI) ⟨[.ref (h.objs.size + 1)], [(x, v)]⟩)
      (fun r s' => match r with | .ok (.ret u) => u = .none ∧ Q (.done (.ret (.ref (h.objs.size + 1)))) s' | .ok _ => False | .error e => E e s')
      ⟨(h.push (W.kdv_tup [])).push (excO C h.objs.size), g, d, t, os⟩) :
    wpAny (model prog w) A (Builtin.«type.__call__» ⟨[.ref C], [(x, v)]⟩) Q E ⟨h, g, d, t, os⟩ := by
  repeat (first
    | with_reducible refine wpAny_loadPart_at hC ?_
    | with_reducible refine wpAny_madeBy_exc hC ?_
    | wp_step)
  refine codeAny_call_builtin_code (Code.quiet_builtin _ F.quiet) (chk_kw F hT hC ?_)
  refine new_kw F hT hC ?_
  show wpAny _ _ _ _ _ _
  have keep : ∀ b o, h.get? b = some o → ((h.push (W.kdv_tup [])).push (excO C h.objs.size)).get? b = some o := fun b o e =>
    Heap.get?_push_of_some _ (Heap.get?_push_of_some _ e)
  have hC' := keep _ _ hC
  have new : ((h.push (W.kdv_tup [])).push (excO C h.objs.size)).get? (h.objs.size + 1) = some (excO C h.objs.size) := by heap_get
  have self : (Value.ref C :: bm).contains (.ref C) = true := by simp
  have i' := hi.keeps keep
  have b' := (hb (.ref (h.objs.size + 1))).keeps keep
  unfold isInstance
  repeat (first
    | with_reducible refine wpAny_loadPart_at new ?_
    | (with_reducible refine wpAny_isSubtype_exc hC' ?_; rw [self])
    | wp_step)
  show wpAny _ _ (typeLookup (.ref C) _) _ _ _
  refine i'.at ?_
  refine wpAny_holding (wpAny_bind (b'.at ?_))
  refine wpAny_bind (wpAny_call (codeAny_mono hq fun r s' z => ?_))
  rcases r with e | (u | _ | _ | _) <;> first | exact z | exact z.elim | skip
  obtain ⟨rfl, z⟩ := z
  first
    | exact wpAny_pure (wpAny_pure z)
    | (wp_walk; exact z)
/-- C(x = v) for an own exception class with its own __init__ -/
theorem call_kw (F : ExcBaseFacts B newId initId bmB) (hT : ∀ X : String, bm.contains (.type X) = bmB.contains (.type X)) {x : Str} {v : Value} {fI : Addr}
    (hC : h.get? C = some (excClassObj nm q C N bs bm hdct sn sub ab col dd k0 k1 k2 k3 k5 newId))
    (hi : W.Looks (model prog w) h (typeLookup (.ref C) "__init__") (some (.ref fI))) (hb : ∀ self, W.Looks (model prog w) h (bindSpecial (.ref fI) self) (.ref fI, [self]))
    (hq : codeAny (model prog w) (A.under (.builtin "type.__call__" ⟨[.ref C], [(x, v)]⟩)) (.call (.ref fI) ⟨[.ref (h.objs.size + 1)], [(x, v)]⟩) (W.InitBack (h.objs.size + 1) R)
      ⟨(h.push (W.kdv_tup [])).push (excO C h.objs.size), g, d, t, os⟩) :
    codeAny (model prog w) A (.call (.ref C) ⟨[], [(x, v)]⟩) R ⟨h, g, d, t, os⟩ := by
  have f1 := tc_lookup
  have f2 := tc_bind (.ref C)
  have ty : (⟨h, g, d, t, os⟩ : Shared).TypeIs (.ref C) "type" := ⟨_, hC, rfl⟩
  refine codeAny_of_tree ?_
  show wpAny _ _ (callAny (.ref C) _) _ _ _
  repeat (any_goals (first
    | assumption
    | with_reducible refine wpAny_loadPart_at hC ?_
    | wp_step))
  refine ⟨rfl, ?_⟩
  refine codeAny_call_builtin_at (Code.quiet_builtin _ (by decide +kernel)) entry_typeCall (wpAny_check_type_call_sub hC (type_call_kw F hT hC hi hb ?_))
  refine codeAny_mono hq fun r s' z => ?_
  rcases r with e | (u | _ | _ | _) <;> exact z
end
end EldX
end PySem

set_option Elab.async false
set_option linter.all false
set_option maxRecDepth 100000
set_option maxHeartbeats 4000000
namespace PySem
namespace EldX
open PySem.W PySem.Calls PyProof.Rows PySem.HandSPX
/-! ### the text of an error's __init__(self, value=None): self.value = value -/
def eA (p1 p2 p3 : Pos) (k : Nat) : Arguments :=
  { posonlyargs := [], args := [{ arg := "self", annotation := none, pos := p1 }, { arg := "value", annotation := none, pos := p2 }],
    vararg := none, kwonlyargs := [], kw_defaults := [], kwarg := none, defaults := [.Constant .none k p3] }
def eB (q1 q2 q3 q4 : Pos) : List Stmt :=
  [.Assign [.Attribute (.Name "self" q1) "value" q2] (.Name "value" q3) q4]
def eS : Scope :=
  { kind := .function, names := [(PySem.Str.ofString "self", .local), (PySem.Str.ofString "value", .local)],
    isGenerator := false, isCoroutine := false, more := [] }
/-- what the written part says of an error's class at C -/
structure ErrC (K : Frag) (C : Addr) : Prop where
  cls : ∃ nm q N bs bm sn sub ab col dd k0 k1 k2 k3 k5,
    K.lookup C = some (excClassObj nm q C N bs bm true sn sub ab col dd k0 k1 k2 k3 k5 "ValueError.__new__") ∧ refsVE bm = true
  sa : findIn K (.ref C) "__setattr__" = some (some (.builtin "object.__setattr__"))
  ga : findIn K (.ref C) "__getattribute__" = some (some (.builtin "BaseException.__getattribute__"))
  gg : findIn K (.ref C) "__getattr__" = some none
  ex : subIn K (.ref C) (.type "BaseException") = some true
  ha : findIn K (.ref C) "__class__" = some (some (.builtin "object.__class__"))
  ob : mroIn K C (.type "object") = some true
  hd : hasDictIn K C = true
  kp : keepIn K (.ref C) = true
/-- .. and of its own __init__ -/
structure ErrI (K : Frag) (C : Addr) : Prop where
  no : findIn K (.ref C) "value" = some none
  fn : ∃ (f : Addr) (q : Str) (oc : Value) (od : Option Addr) (T : Addr) (oT : Obj) (n : Nat) (kV doc pm : Value) (an : Option Addr) (cdv ct : Value) (osl : Array (Option Value)) (p1 p2 p3 q1 q2 q3 q4 : Pos) (kk : Nat),
    findIn K (.ref C) "__init__" = some (some (.ref f)) ∧ typeIn K (.ref f) = some (.type "function") ∧
    K.lookup f = some ⟨oc, od, .func (fnOf "__init__" q (eA p1 p2 p3 kk) (eB q1 q2 q3 q4) eS (.ref T) kV doc pm an cdv ct), osl⟩ ∧
    codeIn K cdv q = true ∧ K.lookup T = some oT ∧ oT.data = .seq #[.none] n
/-- how the two parameters may be bound: by place, by name, not at all -/
inductive Given (v : Value) : List Value → List (Str × Value) → Prop where
  | place : Given v [v] []
  | name : Given v [] [("value", v)]
  | none (h : v = .none) : Given v [] []
section
variable {s : Shared} {K : Frag} {T : Addr} {oT : Obj} {n : Nat} {q : Str} {kV doc pm cdv ct self v : Value} {an : Option Addr} {p1 p2 p3 q1 q2 q3 q4 : Pos} {kk : Nat}
theorem binds_given (X : K.In s.heap) (lT : K.lookup T = some oT) (eT : oT.data = .seq #[.none] n) {us : List Value} {kw : List (Str × Value)} (g : Given v us kw) :
    BindsTo s (fnOf "__init__" q (eA p1 p2 p3 kk) (eB q1 q2 q3 q4) eS (.ref T) kV doc pm an cdv ct) ⟨self :: us, kw⟩ [("self", self), ("value", v)] := by
  refine L2.BindsTo.of_looks fun M => ?_
  cases g with
  | place =>
    have e : ∃ k, bindArgs (fnOf "__init__" q (eA p1 p2 p3 kk) (eB q1 q2 q3 q4) eS (.ref T) kV doc pm an cdv ct) ⟨[self, v], []⟩ = seqItems? (.ref T) >>= k ∧
        k (some #[.none]) = (pure [(("self" : Str), self), ("value", v)] : Sem (List (Str × Value))) := by
      refine ⟨_, rfl, ?_⟩
      first | rfl | with_unfolding_all rfl | kernel_rfl
    obtain ⟨k, e1, e2⟩ := e
    rw [e1]
    exact L2.looks_items X lT eT (.of_pure e2)
  | name =>
    have e : ∃ k, bindArgs (fnOf "__init__" q (eA p1 p2 p3 kk) (eB q1 q2 q3 q4) eS (.ref T) kV doc pm an cdv ct) ⟨[self], [("value", v)]⟩ = seqItems? (.ref T) >>= k ∧
        k (some #[.none]) = (pure [(("self" : Str), self), ("value", v)] : Sem (List (Str × Value))) := by
      refine ⟨_, rfl, ?_⟩
      first | rfl | with_unfolding_all rfl | kernel_rfl
    obtain ⟨k, e1, e2⟩ := e
    rw [e1]
    exact L2.looks_items X lT eT (.of_pure e2)
  | none h =>
    subst h
    have e : ∃ k, bindArgs (fnOf "__init__" q (eA p1 p2 p3 kk) (eB q1 q2 q3 q4) eS (.ref T) kV doc pm an cdv ct) ⟨[self], []⟩ = seqItems? (.ref T) >>= k ∧
        k (some #[.none]) = (pure [(("self" : Str), self), ("value", Value.none)] : Sem (List (Str × Value))) := by
      refine ⟨_, rfl, ?_⟩
      first | rfl | with_unfolding_all rfl | kernel_rfl
    obtain ⟨k, e1, e2⟩ := e
    rw [e1]
    exact L2.looks_items X lT eT (.of_pure e2)
end
/-- what is made: a new error at e, its dict at d -/
structure Made (h h' : Heap) (e C d : Addr) (v : Value) : Prop where
  keep : ∀ b o, h.get? b = some o → h'.get? b = some o
  new : h.get? e = none
  dnew : h.get? d = none
  ne : d ≠ e
  obj : ∃ t, h'.get? e = some { cls := .ref C, dict := some d, data := .fields #[.ref t, .none, .none, .none, .bool false, .none] }
  ns : h'.Ns1 d (fun y => if y = "value" then some v else none)
section
variable {prog : Program} {w : World} {A : Around} {E : Value → Shared → Prop} {R : Result → Shared → Prop} {s : Shared} {K : Frag} {C : Addr}
theorem load_local {M : Model} {s : Shared} {name : Str} {scope : Scope} {L a : Addr} {cd : Value} {m : Str → Option Value} {x : Str} {pos : Pos} {v : Value} {Q : Value → Shared → Prop} {A : Around} {E : Value → Shared → Prop}
    (hn : s.heap.Ns L m) (hv : m x = some v) (h : Q v s) (hk : scope.kind = .function := by rfl) (hl : (envOfC name scope L a cd).kindOf x = some .local := by rfl) (hd : (x == ("__debug__" : Str)) = false := by decide) :
    wpAny M A (eval (.Name x pos) (envOfC name scope L a cd)) Q E s :=
  wpAny_Name (wpAny_loadName_local hk hl hn hv h) hd
/-- __init__ runs on a fresh error at x -/
theorem init_run (T : ErrC K C) {f T0 : Addr} {oT : Obj} {n : Nat} {q : Str} {oc kV doc pm cdv ct : Value} {od an : Option Addr} {osl : Array (Option Value)} {p1 p2 p3 q1 q2 q3 q4 : Pos} {kk : Nat}
    (ho : K.lookup f = some ⟨oc, od, .func (fnOf "__init__" q (eA p1 p2 p3 kk) (eB q1 q2 q3 q4) eS (.ref T0) kV doc pm an cdv ct), osl⟩) (hcd : codeIn K cdv q = true) (lT : K.lookup T0 = some oT) (eT : oT.data = .seq #[.none] n)
    (hno : findIn K (.ref C) "value" = some none) {x t0 : Addr} {v : Value} {us : List Value} {kw : List (Str × Value)} (gv : Given v us kw) (X : K.In s.heap) (hlim : s.heap.NoLimit) (hx : s.heap.get? x = some (excO C t0)) (hroom : A.depth < recursionLimit)
    (hq : ∀ h' tk dx, (∀ b o, b ≠ x → s.heap.get? b = some o → h'.get? b = some o) → s.heap.objs.size ≤ dx → dx ≠ x →
      h'.get? x = some { cls := .ref C, dict := some dx, data := .fields #[.ref t0, .none, .none, .none, .bool false, .none] } → h'.Ns1 dx (fun y => if y = "value" then some v else none) → R (.ok (.ret .none)) { s with heap := h', toks := tk }) :
    codeAny (model prog w) A (.call (.ref f) ⟨.ref x :: us, kw⟩) R s := by
  obtain ⟨nm, qq, N, bs, bm, sn, sub, ab, col, dd, k0, k1, k2, k3, k5, hC, hbm⟩ := T.cls
  have hcl : clsIn K C = some { name := nm, bases := bs, mro := .ref C :: bm, ns := N, qualname := qq, hasDict := true, slotNames := sn, subclasses := sub, abstract := ab, collection := col, hasDel := false } := by
    unfold clsIn
    rw [hC] <;> rfl
  refine Att.call_fn (binds := [("self", .ref x), ("value", v)]) X hlim ho hcd hroom (binds_given X lT eT gv) (by first | rfl | decide | with_unfolding_all rfl) (fun s₁ IC => ?_) rfl rfl rfl
  obtain ⟨h₁, tk₁, rfl⟩ := IC.toInCall.same
  have keep : ∀ b o, s.heap.get? b = some o → h₁.get? b = some o := IC.toInCall.keep
  have hn := IC.toInCall.ns
  have hne : s.heap.objs.size ≠ x := Nat.ne_of_gt (Heap.lt_size hx)
  have X₁ : K.In h₁ := X.keeps keep
  have hx₁ := keep _ _ hx
  show wpAny _ _ (execs _ _) _ _ _
  refine wpAny_execs_cons (plainObj_wpAny_Assign_Attribute ?_)
  refine load_local (v := v) hn (by first | rfl | with_unfolding_all rfl | kernel_rfl) (load_local (v := .ref x) hn (by first | rfl | with_unfolding_all rfl | kernel_rfl) ?_)
  refine set_plain X₁ (ox := excO C t0) (od := none) ⟨hx₁, rfl, rfl, trivial⟩ T.sa ?_
  refine exc_osa X₁ hx₁ hcl (show refsVE (.ref C :: bm) = true from hbm) rfl hno (fun h₃ tk₃ dx k₃ dn dne hx₃ hn₃ => ?_)
  show wpAny _ _ (execs _ _) _ _ _
  have lt : s.heap.objs.size < h₁.objs.size := hn.lt
  exact wpAny_execs_nil (hq h₃ tk₃ dx (fun b o hb e => k₃ b o hb (keep b o e)) (Nat.le_of_lt (Nat.lt_of_lt_of_le lt dn)) dne hx₃ hn₃)
/-- an error's class is called -/
theorem made_run (T : ErrC K C) (TI : ErrI K C) {v : Value} {us : List Value} {kw : List (Str × Value)} (gv : Given v us kw) (X : K.In s.heap) (hlim : s.heap.NoLimit) (hroom : A.depth + 1 < recursionLimit)
    (hq : ∀ h' tk e d, Made s.heap h' e C d v → R (.ok (.ret (.ref e))) { s with heap := h', toks := tk }) :
    codeAny (model prog w) A (.call (.ref C) ⟨us, kw⟩) R s := by
  obtain ⟨nm, qq, N, bs, bm, sn, sub, ab, col, dd, k0, k1, k2, k3, k5, hC, hbm⟩ := T.cls
  obtain ⟨f, q, oc, od, T0, oT, n, kV, doc, pm, an, cdv, ct, osl, p1, p2, p3, q1, q2, q3, q4, kk, iC, tf, ho, hcd, lT, eT⟩ := TI.fn
  obtain ⟨hp, g, dr, tk, os⟩ := s
  have fin : ∀ (xs : List Value) (A' : Around), A'.depth < recursionLimit →
      codeAny (model prog w) A' (.call (.ref f) ⟨.ref (hp.objs.size + 1) :: us, kw⟩) (W.InitBack (hp.objs.size + 1) R) ⟨(hp.push (W.kdv_tup xs)).push (excO C hp.objs.size), g, dr, tk, os⟩ := by
    intro xs A' hA
    have keep : ∀ b o, hp.get? b = some o → ((hp.push (W.kdv_tup xs)).push (excO C hp.objs.size)).get? b = some o := fun b o e =>
      Heap.get?_push_of_some _ (Heap.get?_push_of_some _ e)
    have new : ((hp.push (W.kdv_tup xs)).push (excO C hp.objs.size)).get? (hp.objs.size + 1) = some (excO C hp.objs.size) := by heap_get
    refine init_run (s := ⟨(hp.push (W.kdv_tup xs)).push (excO C hp.objs.size), g, dr, tk, os⟩) T ho hcd lT eT TI.no gv (X.keeps keep) (hlim.keeps keep) new hA fun h' tk' dx k' dn dne hx hns => ?_
    have big : hp.objs.size + 1 + 1 ≤ dx := by
      have z := dn
      first
        | exact z
        | (rw [Heap.size_push, Heap.size_push] at z; exact z)
    have old : ∀ b o, hp.get? b = some o → h'.get? b = some o := fun b o e => k' b o (Nat.ne_of_lt (Nat.lt_succ_of_lt (Heap.lt_size e))) (keep b o e)
    have none_of : ∀ b, hp.objs.size ≤ b → hp.get? b = none := fun b hb => by
      cases e : hp.get? b with
      | none => rfl
      | some o => exact absurd (Heap.lt_size e) (Nat.not_lt.mpr hb)
    exact ⟨rfl, hq h' tk' (hp.objs.size + 1) dx ⟨old, none_of _ (Nat.le_succ _), none_of _ (by omega), dne, ⟨_, hx⟩, hns⟩⟩
  have hi := looks_findIn (M := model prog w) X iC
  have hb : ∀ self, W.Looks (model prog w) hp (bindSpecial (.ref f) self) (.ref f, [self]) := fun self => bind_fn X self tf
  cases gv with
  | place =>
    refine HandSPX.call_own F.excBase_ValueError (fun X => refsVE_contains X bm hbm) (X _ _ hC) hi hb (by rw [sizeLine_eq]; exact (by decide : 1 ≤ 16777216)) ?_
    exact fin [v] _ (by show A.depth + 1 < recursionLimit; exact hroom)
  | name =>
    refine call_kw F.excBase_ValueError (fun X => refsVE_contains X bm hbm) (X _ _ hC) hi hb ?_
    exact fin [] _ (by show A.depth + 1 < recursionLimit; exact hroom)
  | none h =>
    refine HandSPX.call_own F.excBase_ValueError (fun X => refsVE_contains X bm hbm) (X _ _ hC) hi hb (Nat.zero_le _) ?_
    exact fin [] _ (by show A.depth + 1 < recursionLimit; exact hroom)
end
end EldX
end PySem

set_option Elab.async false
set_option linter.all false
set_option maxRecDepth 100000
set_option maxHeartbeats 4000000
/-! ## errors as tracked values -/
namespace L2
namespace Eld
open PySem PySem.Spec PyProof.Rows PySem.EldX
section
variable {X : Cx} {pins : List (Addr × Obj)} {σ : St} {H : Hp} {s : Shared} {h' : Heap} {d e : Addr} {od oe : HO}
theorem un_two {fs ex : List Addr} {h : Heap} (k : ∀ b u, h.get? b = some u → h'.get? b = some u) (gd : h.get? d = none) (ge : h.get? e = none) (nd : H d = none) (ne : H e = none) :
    Un fs ex H (upd (upd H d od) e oe) h h' where
  keep := fun b u q _ _ _ => k b u q
  slot := fun b u q _ _ _ => ⟨u.slots, k b u q⟩
  free := fun b u q n _ => by
    rw [upd_ne (fun z => by rw [z, ge] at q; cases q), upd_ne (fun z => by rw [z, gd] at q; cases q)]
    exact n
  there := fun b u q _ => ⟨u, k b u q⟩
  tups := fun b xs q => by
    rw [upd_ne (ne_of_none q ne), upd_ne (ne_of_none q nd)]
    exact q
  frzs := fun b u xs q => by
    rw [upd_ne (ne_of_none q ne), upd_ne (ne_of_none q nd)]
    exact q
  tbls := fun b ps q => ⟨#[], by rw [upd_ne (ne_of_none q ne), upd_ne (ne_of_none q nd), q]; simp⟩
theorem inv_two {t' : Nat} (I : Inv X pins σ H s) (k : ∀ b u, s.heap.get? b = some u → h'.get? b = some u) (gd : s.heap.get? d = none) (ge : s.heap.get? e = none)
    (od_ok : ObjOk X.prog X.w (upd (upd H d od) e oe) h' d od) (oe_ok : ObjOk X.prog X.w (upd (upd H d od) e oe) h' e oe) :
    Inv X pins σ (upd (upd H d od) e oe) { s with heap := h', toks := t' } := by
  have nd := I.hok.gone gd
  have ne := I.hok.gone ge
  refine I.un (un_two k gd ge nd ne) fun b u q => ?_
  by_cases hb : b = e
  · subst hb
    rw [upd_same] at q
    cases q
    exact oe_ok
  · rw [upd_ne hb] at q
    by_cases hd : b = d
    · subst hd
      rw [upd_same] at q
      cases q
      exact od_ok
    · rw [upd_ne hd] at q
      exact (I.hok b u q).stay (fun c v _ z => k c v z) (fun c z => by rw [upd_ne (ne_of_none z ne), upd_ne (ne_of_none z nd)]; exact z)
        fun c xs z => by rw [upd_ne (ne_of_none z ne), upd_ne (ne_of_none z nd)]; exact z
end
/-- the field's dict -/
abbrev fld (v : V) : List (Str × V) := [(("value" : Str), v)]
/-- the heap with a new error of the class at C, its dict at d -/
def mkErr (H : Hp) (C e d : Addr) (v : V) : Hp := upd (upd H d (exd d (fld v))) e (exo e C (some d))
/-- what is asked of the making of C(v) -/
def rErr (C : Addr) (v : V) (H : Hp) (Q : VK) : Prop := ∀ e d : Addr, H e = none → H d = none → d ≠ e → Q (.ref e) (mkErr H C e d v)
section
variable {X : Cx} {pins : List (Addr × Obj)} {σ : St} {H : Hp} {s : Shared} {C : Addr}
theorem err_end {Q : VK} {e d : Addr} {h' : Heap} {tk : Nat} {v : V} {u : Value} (I : Inv X pins σ H s) (rv : RelV v u) (M : Made s.heap h' e C d u) (q : rErr C v H Q) :
    EP X pins σ Q (.ref e) { s with heap := h', toks := tk } := by
  obtain ⟨t, ho⟩ := M.obj
  have ne := I.hok.gone M.new
  have nd := I.hok.gone M.dnew
  exact ⟨.ref e, mkErr H C e d v, inv_two I M.keep M.dnew M.new (exd_ok M.ns (relO_put (fs := []) rv fun g => True.intro)) (exo_ok ho), rfl, q e d ne nd M.ne⟩
variable {x : Str} {a : Expr} {ta : TA} {p pos : Pos} {k : Nat}
/-- C(e) -/
theorem pe_err1 (T : ErrC X.K C) (TI : ErrI X.K C) (hr : Room k X.A) (hm : X.mg x = some (.ref C)) (ha : PA X [a] ta) (hg : Gl X x := by rfl)
    (hdb : (x == ("__debug__" : Str)) = false := by decide) (he : starEach (a :: []) X.env = (false, eval a X.env) :: starEach [] X.env := by rfl) (hpl : (backTo pos (starEach [] X.env)).any (·.1) = false := by rfl) :
    PE X (.Call (.Name x p) [a] [] pos) (fun σ H Q => ta σ H fun vs H1 => ∃ v, vs = [v] ∧ rErr C v H1 Q) := by
  refine ⟨fun pins s σ H Q I h => ?_⟩
  refine wpAny_Call_Name_kw (ld_glob I hg hm ?_ hdb)
  refine PySem.W.callWith_K (h₀ := X.base) I.ok.mod.kin T.kp (thn (ha.run pos pins s σ H _ I h) fun us s1 ⟨vs, H1, I1, r1, v, ev, q1⟩ => ⟨I1.kIn, ?_⟩) he hpl
  subst ev
  cases r1 with
  | cons rv rn =>
    cases rn
    show wpAny _ _ (call (.ref C) [_]) _ _ _
    exact wpAny_call (made_run T TI .place I1.kIn I1.nolimit (by have := hr.dp; omega) fun h' tk e d M => err_end I1 rv M q1)
/-- C() -/
theorem pe_err0 (T : ErrC X.K C) (TI : ErrI X.K C) (hr : Room k X.A) (hm : X.mg x = some (.ref C)) (hg : Gl X x := by rfl) (hdb : (x == ("__debug__" : Str)) = false := by decide) :
    PE X (.Call (.Name x p) [] [] pos) (fun σ H Q => rErr C .non H Q) := by
  refine ⟨fun pins s σ H Q I h => ?_⟩
  refine wpAny_Call_Name_kw (ld_glob I hg hm ?_ hdb)
  refine PySem.W.callWith_K0 I.kIn T.kp ?_
  show wpAny _ _ (call (.ref C) []) _ _ _
  exact wpAny_call (made_run T TI (.none rfl) I.kIn I.nolimit (by have := hr.dp; omega) fun h' tk e d M => err_end (v := .non) I rfl M h)
/-- C(value = e) -/
theorem pe_errK {kws : List Keyword} {tk : TA} (T : ErrC X.K C) (TI : ErrI X.K C) (hr : Room k X.A) (hm : X.mg x = some (.ref C)) (hkw : PK X kws tk) (hg : Gl X x := by rfl)
    (hall : (backToKw pos (keywordEach kws X.env)).all (·.1.isSome) = true := by rfl) (hks : (backToKw pos (keywordEach kws X.env)).filterMap (·.1) = [("value" : Str)] := by rfl)
    (hdb : (x == ("__debug__" : Str)) = false := by decide)
    (hpl : ((backTo pos (starEach [] X.env)).any (·.1) || (backToKw pos (keywordEach kws X.env)).any (·.1.isNone)) = false := by rfl) :
    PE X (.Call (.Name x p) [] kws pos) (fun σ H Q => tk σ H fun vs H1 => ∃ v, vs = [v] ∧ rErr C v H1 Q) := by
  refine ⟨fun pins s σ H Q I h => ?_⟩
  refine wpAny_Call_Name_kw (ld_glob I hg hm ?_ hdb)
  refine PySem.W.callWith_KW0 (h₀ := X.base) I.ok.mod.kin T.kp hall (thn (hkw.run pos pins s σ H _ I h) fun us s1 ⟨vs, H1, I1, r1, v, ev, q1⟩ => ⟨I1.kIn, ?_⟩) hpl
  subst ev
  rw [hks]
  cases r1 with
  | cons rv rn =>
    cases rn
    show wpAny _ _ (call (.ref C) [] [(("value" : Str), _)]) _ _ _
    exact wpAny_call (made_run T TI .name I1.kIn I1.nolimit (by have := hr.dp; omega) fun h' tk e d M => err_end I1 rv M q1)
/-- C() where C has no __init__ of its own -/
theorem pe_errN {bmB : List Value} {B newId initId : String} (F : ExcBaseFacts B newId initId bmB) (q : PySem.W.excIn X.K C bmB newId = true) (kp : PySem.W.keepIn X.K (.ref C) = true) (hm : X.mg x = some (.ref C)) (hg : Gl X x := by rfl)
    (hdb : (x == ("__debug__" : Str)) = false := by decide) :
    PE X (.Call (.Name x p) [] [] pos) (fun σ H Q => ∀ e : Addr, H e = none → Q (.ref e) (upd H e (exo e C none))) := by
  refine ⟨fun pins s σ H Q I h => ?_⟩
  refine wpAny_Call_Name_kw (ld_glob I hg hm ?_ hdb)
  refine PySem.W.callWith_K0 I.kIn kp ?_
  show wpAny _ _ (call (.ref C) []) _ _ _
  obtain ⟨bm, N, nm, qn, bs, hdct, sn, sub, ab, col, dd, k0, k1, k2, k3, k5, mN, hC, hN, hni, T⟩ := exc_obj I.kIn q
  refine wpAny_call_exc_subT F T hC hN hni (fun h' e M => ?_) (Nat.zero_le _)
  have ne := I.hok.gone M.new
  obtain ⟨t, ht, _, _⟩ := M.there
  exact ⟨.ref e, upd H e (exo e C none), I.laidN M.keeps M.new ne (exo_ok ht), rfl, h e ne⟩
/-- err.value -/
theorem pe_value {te : TE} {n : Str} (en : n = "value" := by rfl) (he : PE X a te) (hb : attributeBase a n X.env (eval a X.env) = eval a X.env := by rfl) :
    PE X (.Attribute a n pos) (fun σ H Q => te σ H fun x H1 => ∃ (e C d : Addr) (v : V), x = .ref e ∧ ErrC X.K C ∧ ErrI X.K C ∧ H1 e = some (exo e C (some d)) ∧ H1 d = some (exd d (fld v)) ∧ Q v H1) := by
  refine ⟨fun pins s σ H Q I h => ?_⟩
  refine attr_of hb (thn (he.run pins s σ H _ I h) fun u s1 ⟨x, H1, I1, rx, e, C, d, v, ex, T, TI, ee, ed, q⟩ => ?_)
  subst ex
  obtain rfl : u = Value.ref e := rx
  obtain ⟨t1, ho⟩ := exo_at I1.hok ee
  obtain ⟨mA, hns, hr⟩ := exd_at I1.hok ed
  obtain ⟨od, hod, hl⟩ := lookIn_ns hns
  obtain ⟨u, hu, ru⟩ := RelO.some_of (v := v) (o := mA n) (by
    have z := hr n
    rw [en] at z ⊢
    exact z)
  have J : PySem.W.InstAt s1.heap e { cls := .ref C, dict := some d, data := .fields #[.ref t1, .none, .none, .none, .bool false, .none] } C (some od) := ⟨ho, rfl, rfl, hod⟩
  refine HandSPX.exc_get I1.kIn J T.ga T.gg T.ex (PySem.W.findObj_own T.hd (by rw [en]; exact TI.no) rfl (by rw [hl, hu])) (handed_of ru) ⟨v, H1, I1.tok _, ru, q⟩
end
end Eld
end L2

set_option Elab.async false
set_option linter.all false
set_option maxRecDepth 100000
set_option maxHeartbeats 4000000
namespace PySem
namespace EldX
open PySem PySem.Spec PySem.W PySem.Calls PyProof.Rows
section
variable {prog : Program} {w : World} {A : Around} {E : Value → Shared → Prop} {s : Shared} {K : Frag} {x D : Addr} {ox : Obj} {od : Option Obj}
theorem find_data {C : Addr} {n : Str} {a g : Value} (hc : (clsIn K C).isSome = true) (ha : findIn K (.ref C) n = some (some a)) (hg : specialIn K a "__get__" = some (some g)) (ht : takesIn K a = some true) :
    findObj K C od n = some (.bind g a) := by
  obtain ⟨cd, e⟩ := Option.isSome_iff_exists.mp hc
  unfold findObj
  rw [e, Option.bind_some, ha]
  rw [Option.bind_some]
  simp [hg, ht]
/-- an error's __class__ -/
theorem err_class {Q : Option Value → Shared → Prop} (T : ErrC K D) (hn : specialIn K (.builtin "object.__class__") "__get__" = some (some (.builtin "getset_descriptor.__get__"))) (htk : takesIn K (.builtin "object.__class__") = some true)
    (X : K.In s.heap) (I : InstAt s.heap x ox D od) (h : Q (some (.ref D)) { s with toks := s.toks + 1 }) : wpAny (model prog w) A (getAttr? (.ref x) "__class__") Q E s := by
  have hf : findObj K D od "__class__" = some (.bind (.builtin "getset_descriptor.__get__") (.builtin "object.__class__")) := by
    refine find_data ?_ T.ha hn htk
    obtain ⟨cd, hc, _⟩ := any_some T.hd
    rw [hc] <;> rfl
  obtain ⟨hp, g, d, t, os⟩ := s
  have l0 := I.type (M := model prog w)
  have l1 := looks_findIn (M := model prog w) X T.ga
  have l2 := looks_findIn (M := model prog w) X T.gg
  have l3 := looks_find (M := model prog w) X I hf
  have sub : Looks (model prog w) hp (isInstance (.ref x) (.type "BaseException")) true := l0.andThen (looks_subIn X T.ex)
  have n0 : (false && onTheHeap (Value.builtin "BaseException.__getattribute__")) = false := rfl
  have n2 : (Value.builtin "BaseException.__getattribute__" == Value.builtin "object.__getattribute__") = false := by decide +kernel
  have n1 : (onTheHeap (Value.ref D) && Value.builtin "BaseException.__getattribute__" == Value.builtin "object.__getattribute__") = false := by
    rw [n2]
    rfl
  unfold getAttr? getAttrBy? getAttrBy
  refine wpAny_bind (wpAny_mkText (wpAny_bind (wpAny_attempt (wpAny_holding (wpAny_bind (l0.at (wpAny_bind (l1.at ?_))))))))
  show wpAny _ _ (if (onTheHeap (Value.ref D) && Value.builtin "BaseException.__getattribute__" == Value.builtin "object.__getattribute__") = true then _ else _) _ _ _
  rw [n1, if_neg Bool.false_ne_true]
  unfold getAttrByItsOwn hookBefore
  refine wpAny_bind ?_
  rw [if_pos (show onTheHeap (Value.ref D) = true from rfl)]
  refine l2.at ?_
  refine wpAny_bind (wpAny_attempt (wpAny_holding ?_))
  unfold callGetattribute
  rw [n0, if_neg Bool.false_ne_true]
  unfold boundAndCalled
  rw [PySem.F.excAttr_ValueError.ga.bind (.ref x)]
  refine wpAny_bind (wpAny_pure ?_)
  show wpAny _ _ (call (.builtin "BaseException.__getattribute__") [.ref x, .str "__class__" t]) _ _ _
  refine wpAny_call (codeAny_call_builtin PySem.F.excAttr_ValueError.ga.plain PySem.F.entry_bexc_ga ?_)
  refine @check_slot (model prog w) _ _ ⟨hp, g, d, t + 1, os⟩ "BaseException.__getattribute__" "BaseException" "__getattribute__" (.ref x) [.str "__class__" t] [] _
    (by decide +kernel) (by decide +kernel) sub (PySem.F.args_bexc_ga (.ref x) (.str "__class__" t)) ?_
  unfold Builtin.«object.__getattribute__»
  refine wpAny_bind (wpAny_of_eq (a := ((Value.ref x : Value), [Value.str "__class__" t]))
    (by first | rfl | (simp only [slotArgs]; rfl)) ?_)
  refine wpAny_bind (wpAny_pure (wpAny_bind (l0.at (wpAny_bind (l3.at ?_)))))
  show wpAny _ _ (holding [Value.builtin "object.__class__"] (call (.builtin "getset_descriptor.__get__") [.builtin "object.__class__", .ref x, .ref D]) >>= ret) _ _ _
  refine wpAny_bind (wpAny_holding (wpAny_call (class_get (s := ⟨hp, g, d, t + 1, os⟩) (ox := ox) (od := od) X I T.ob ?_)))
  refine wpAny_pure ?_
  show wpAny _ _ (handedOut (.ref D)) _ _ _
  rw [handedOut_of (v := .ref D) rfl]
  first
    | exact wpAny_pure (wpAny_pure h)
    | exact wpAny_pure h
    | exact wpAny_pure (wpAny_bind (wpAny_pure (wpAny_pure h)))
theorem err_kit (T : ErrC K D) (hn : specialIn K (.builtin "object.__class__") "__get__" = some (some (.builtin "getset_descriptor.__get__"))) (htk : takesIn K (.builtin "object.__class__") = some true) :
    KitX K (.ref x) (.ref D) (fun h => InstAt h x ox D od) where
  ty := fun _ _ _ I => I.type
  it := fun _ _ X _ => by
    obtain ⟨cd, hc, _⟩ := any_some T.hd
    unfold clsIn at hc
    split at hc
    · rename_i c' d' cd' sl' ho
      intro A' Q' E' s' k q
      unfold isType loadHead
      refine wpAny_bind (wpAny_loadPart (k _ _ (X _ _ ho)) ?_)
      exact wpAny_pure q
    · cases hc
  ne := fun h tp dd its n sl X htp => by
    obtain ⟨cd, hc, _⟩ := any_some T.hd
    refine Bool.eq_false_iff.mpr fun q => ?_
    have e : D = tp := Value.ref.inj (beq_iff_eq.mp q)
    subst e
    unfold clsIn at hc
    split at hc
    · rename_i c' d' cd' sl' ho
      cases (X _ _ ho).symm.trans htp
    · cases hc
  ca := fun X I k => err_class T hn htk X I k
end
end EldX
end PySem
namespace L2
namespace Eld
open PySem PySem.Spec PyProof.Rows PySem.EldX
/-- the two words of the library that isinstance asks -/
structure KitW (K : PySem.W.Frag) : Prop where
  hn : PySem.W.specialIn K (.builtin "object.__class__") "__get__" = some (some (.builtin "getset_descriptor.__get__"))
  ht : PySem.W.takesIn K (.builtin "object.__class__") = some true
/-- an error at e of the class at C stands in H -/
def IsErr (H : Hp) (C e : Addr) : Prop := H e = some (exo e C none) ∨ ∃ (d : Addr) (v : V), H e = some (exo e C (some d)) ∧ H d = some (exd d (fld v))
/-- isinstance(err, D) -/
def rIsErr (K : PySem.W.Frag) : List V → Hp → VK → Prop := fun xs H Q => ∃ (e C D : Addr) (b : Bool), xs = [.ref e, .ref D] ∧ ErrC K C ∧ KitW K ∧ IsErr H C e ∧ PySem.W.kitOne K (.ref C) (.ref D) = some b ∧ Q (.bl b) H
/-- isinstance(err, T), T a built-in class -/
def rIsErrT (K : PySem.W.Frag) : List V → Hp → VK → Prop := fun xs H Q => ∃ (e C : Addr) (n : String) (b : Bool), xs = [.ref e, .ty n] ∧ ErrC K C ∧ KitW K ∧ IsErr H C e ∧ PySem.W.kitOne K (.ref C) (.type n) = some b ∧ Q (.bl b) H
section
variable {X : Cx}
theorem isErr_at {pins : List (Addr × Obj)} {σ : St} {H : Hp} {s : Shared} {C e : Addr} (I : Inv X pins σ H s) (h : IsErr H C e) : ∃ ox od, PySem.W.InstAt s.heap e ox C od := by
  rcases h with h | ⟨d, v, h, hd⟩
  · obtain ⟨t, ho⟩ := exo_at I.hok h
    exact ⟨_, none, ho, rfl, rfl, trivial⟩
  · obtain ⟨t, ho⟩ := exo_at I.hok h
    obtain ⟨mA, hns, _⟩ := exd_at I.hok hd
    obtain ⟨od, hod, _⟩ := lookIn_ns hns
    exact ⟨_, some od, ho, rfl, rfl, hod⟩
theorem call_isErr : CallR X (.builtin "isinstance") (rIsErr X.K) := by
  intro pins s σ H xs us Q I r h
  obtain ⟨e, C, D, b, rfl, T, W, he, k, q⟩ := h
  obtain ⟨u1, u2, rfl, r1, r2⟩ := vals2 r
  cases (show u1 = Value.ref e from r1)
  cases (show u2 = Value.ref D from r2)
  obtain ⟨ox, od, J⟩ := isErr_at I he
  exact PySem.W.kia_one (err_kit T W.hn W.ht) I.kIn J k (fun z => nomatch z) fun tk => ⟨.bl b, H, I.tok tk, rfl, q⟩
theorem call_isErrT : CallR X (.builtin "isinstance") (rIsErrT X.K) := by
  intro pins s σ H xs us Q I r h
  obtain ⟨e, C, n, b, rfl, T, W, he, k, q⟩ := h
  obtain ⟨u1, u2, rfl, r1, r2⟩ := vals2 r
  cases (show u1 = Value.ref e from r1)
  cases (show u2 = Value.type n from r2)
  obtain ⟨ox, od, J⟩ := isErr_at I he
  exact PySem.W.kia_one (err_kit T W.hn W.ht) I.kIn J k (fun z => nomatch z) fun tk => ⟨.bl b, H, I.tok tk, rfl, q⟩
end
end Eld
end L2

set_option Elab.async false
set_option linter.all false
set_option maxRecDepth 100000
set_option maxHeartbeats 4000000
/-! ## repr of data -/
namespace L2
namespace Eld
open PySem PySem.Spec PyProof.Rows PySem.EldX
mutual
/-- the value v, in H, is the datum d (dicts by texts, too) -/
inductive Dq (K : PySem.W.Frag) (H : Hp) : V → PyData → Prop
  | non : Dq K H .non .none
  | bl (b : Bool) : Dq K H (.bl b) (.bool b)
  | int (i : Int) : Dq K H (.int i) (.int i)
  | str (x : Str) : Dq K H (.str x) (.str x)
  | lst {a : Addr} {xs : List V} {ds : List PyData} : SqL K H a xs → DqAll K H xs ds → Dq K H (.ref a) (.list ds)
  | tup {a : Addr} {xs : List V} {ds : List PyData} : SqT K H a xs → DqAll K H xs ds → Dq K H (.ref a) (.tuple ds)
  | dct {a : Addr} {kvs : List (Key × V)} {ds : List (PyData × PyData)} : H a = some (.dK kvs) → DqKv K H kvs ds → Dq K H (.ref a) (.dict ds)
inductive DqAll (K : PySem.W.Frag) (H : Hp) : List V → List PyData → Prop
  | nil : DqAll K H [] []
  | cons {v : V} {vs : List V} {d : PyData} {ds : List PyData} : Dq K H v d → DqAll K H vs ds → DqAll K H (v :: vs) (d :: ds)
inductive DqKv (K : PySem.W.Frag) (H : Hp) : List (Key × V) → List (PyData × PyData) → Prop
  | nil : DqKv K H [] []
  | cons {x : Str} {v : V} {kvs : List (Key × V)} {d : PyData} {ds : List (PyData × PyData)} : Dq K H v d → DqKv K H kvs ds → DqKv K H ((.inr x, v) :: kvs) ((.str x, d) :: ds)
end
/-- what is known of a value that is read and shown -/
def Shw (P : Program) (w : World) (h : Heap) (u : Value) (d : PyData) : Prop :=
  (∃ as, Reads h u d as) ∧ ∃ bs, ReadAtMost h d.depth bs ∧ ReprK P w bs h d.depth u d.shown
def ShwAll (P : Program) (w : World) (h : Heap) (us : List Value) (ds : List PyData) : Prop :=
  (∃ as, ReadsAll h us ds as) ∧ ∃ bs, ReadAtMost h (PyData.depthAll ds) bs ∧ ReprAllK P w bs h (PyData.depthAll ds) us (PyData.shownAll ds)
theorem ShwAll.nil {P : Program} {w : World} {h : Heap} : ShwAll P w h [] [] :=
  ⟨⟨_, .nil⟩, [], (fun _ z => nomatch z), by simp only [PyData.shownAll]; exact .nil⟩
theorem ShwAll.cons {P : Program} {w : World} {h : Heap} {u : Value} {us : List Value} {d : PyData} {ds : List PyData} (a : Shw P w h u d) (b : ShwAll P w h us ds) : ShwAll P w h (u :: us) (d :: ds) := by
  obtain ⟨⟨as, r⟩, b1, hb1, k1⟩ := a
  obtain ⟨⟨bs, q⟩, b2, hb2, k2⟩ := b
  refine ⟨⟨_, .cons r q⟩, b1 ++ b2, fun b hm => ?_, ?_⟩
  · simp only [PyData.depthAll]
    rcases List.mem_append.mp hm with z | z
    · obtain ⟨d', a', r', l⟩ := hb1 b z
      exact ⟨d', a', r', Nat.le_trans l (Nat.le_max_left _ _)⟩
    · obtain ⟨d', a', r', l⟩ := hb2 b z
      exact ⟨d', a', r', Nat.le_trans l (Nat.le_max_right _ _)⟩
  · simp only [PyData.depthAll, PyData.shownAll]
    exact .cons ((k1.more fun b hb => List.mem_append_left _ hb).level_le (Nat.le_max_left _ _)) (k2.more_le (fun b hb => List.mem_append_right _ hb) (Nat.le_max_right _ _))
/-- a dict's entries -/
def ShwKv (P : Program) (w : World) (h : Heap) (es : List DictEntry) (ds : List (PyData × PyData)) : Prop :=
  ShwAll P w h (es.map (·.key)) (ds.map (·.1)) ∧ ShwAll P w h (es.map (·.val)) (ds.map (·.2))
section
variable {X : Cx} {pins : List (Addr × Obj)} {σ : St} {H : Hp} {s : Shared}
theorem shw_str {P : Program} {w : World} {h : Heap} (x : Str) (t : Tok) (hz : (reprText x).length ≤ sizeLine) : Shw P w h (.str x t) (.str x) :=
  ⟨⟨_, .str x t⟩, [], (fun _ z => nomatch z), by simp only [PyData.shown]; exact .of_is (ReprIs.str x t hz) _ _ _⟩
mutual
theorem Dq.shw (I : Inv X pins σ H s) : ∀ (d : PyData) (v : V) (u : Value), Dq X.K H v d → RelV v u → d.showable = true → d.shown.length ≤ sizeLine → Shw X.prog X.w s.heap u d
  | .none, _, _, h, r, _, _ => by
    cases h
    cases r
    exact ⟨⟨_, .none⟩, [], (fun _ z => nomatch z), by simp only [PyData.shown]; exact .of_is ReprIs.none _ _ _⟩
  | .bool b, _, _, h, r, _, _ => by
    cases h
    cases r
    exact ⟨⟨_, .bool b⟩, [], (fun _ z => nomatch z), by simp only [PyData.shown]; exact .of_is (ReprIs.bool b) _ _ _⟩
  | .int i, _, _, h, r, hs, _ => by
    cases h
    obtain ⟨t, rfl⟩ := r
    exact ⟨⟨_, .int i t⟩, [], (fun _ z => nomatch z), by simp only [PyData.shown]; exact .of_is (ReprIs.int t (by simpa [PyData.showable] using hs)) _ _ _⟩
  | .str x, _, _, h, r, _, hz => by
    cases h
    obtain ⟨t, rfl⟩ := r
    exact shw_str x t (by simpa only [PyData.shown] using hz)
  | .list ds, _, _, h, r, hs, hz => by
    cases h with
    | @lst a xs _ hS hA =>
      obtain rfl : _ = Value.ref a := r
      obtain ⟨its, rv, ⟨o, n, ho, hc, _, hd⟩, _⟩ := I.list hS
      have hz' : (listText (PyData.shownAll ds)).length ≤ sizeLine := by simpa only [PyData.shown] using hz
      obtain ⟨⟨as, q⟩, bs, hb, hk⟩ := Dq.shwAll I ds xs its hA rv (by simpa [PyData.showable] using hs) (fun t ht => Nat.le_trans (listText_mem_le ht) hz')
      have rd : Reads s.heap (.ref a) (.list ds) (a :: as) := .list ho hc hd q
      have hna : a ∉ bs := not_mem_of_deeper rd (by simp only [PyData.depth]; omega) hb
      refine ⟨⟨_, rd⟩, a :: bs, ReadAtMost.cons rd (by simp only [PyData.depth]; omega) hb, ?_⟩
      simp only [PyData.depth, PyData.shown]
      cases its with
      | nil =>
        cases q
        simp only [PyData.shownAll, listText_nil]
        exact ReprK.listEmpty ho hc hd
      | cons y l => exact ReprK.list ho hc hd hna (by simpa using hk.length_eq) (fun i y e => hk.item i y (by simpa using e))
  | .tuple ds, _, _, h, r, hs, hz => by
    cases h with
    | @tup a xs _ hS hA =>
      obtain rfl : _ = Value.ref a := r
      obtain ⟨its, rv, ⟨o, ho, hc, n, hd⟩, _⟩ := I.tuple hS
      have hz' : (tupleText (PyData.shownAll ds)).length ≤ sizeLine := by simpa only [PyData.shown] using hz
      obtain ⟨⟨as, q⟩, bs, hb, hk⟩ := Dq.shwAll I ds xs its hA rv (by simpa [PyData.showable] using hs) (fun t ht => Nat.le_trans (tupleText_mem_le ht) hz')
      have rd : Reads s.heap (.ref a) (.tuple ds) as := .tuple ho hc hd q
      have hna : a ∉ bs := not_mem_of_deeper rd (by simp only [PyData.depth]; omega) hb
      refine ⟨⟨_, rd⟩, a :: bs, ReadAtMost.cons rd (by simp only [PyData.depth]; omega) hb, ?_⟩
      simp only [PyData.depth, PyData.shown]
      exact ReprK.tuple ho hc hd hna hk
  | .dict ds, _, _, h, r, hs, hz => by
    cases h with
    | @dct a kvs _ ha hA =>
      obtain rfl : _ = Value.ref a := r
      obtain ⟨_, hsys, vs, rv, o, es, ep, ho, hx, hd, _, hp, _⟩ := (show ObjOk X.prog X.w H s.heap a (.dK kvs) from I.hok a _ ha)
      have hz' : (dictText (PyData.shownKv ds)).length ≤ sizeLine := by simpa only [PyData.shown] using hz
      obtain ⟨s1, s2⟩ := PyData.showableKv_split ds (by simpa [PyData.showable] using hs)
      have hK : ∀ t ∈ PyData.shownAll (ds.map (·.1)), t.length ≤ sizeLine := fun t ht =>
        let ⟨p, hp, hl⟩ := PyData.shownKv_key_le ds t ht
        Nat.le_trans hl (Nat.le_trans (dictText_mem_le hp) hz')
      have hV : ∀ t ∈ PyData.shownAll (ds.map (·.2)), t.length ≤ sizeLine := fun t ht =>
        let ⟨p, hp, hl⟩ := PyData.shownKv_val_le ds t ht
        Nat.le_trans hl (Nat.le_trans (dictText_mem_le hp) hz')
      obtain ⟨⟨⟨as, q1⟩, b1, hb1, k1⟩, ⟨bs, q2⟩, b2, hb2, k2⟩ := Dq.shwKv I ds kvs vs es.toList hA rv hp s2 hK hV
      have rd : Reads s.heap (.ref a) (.dict ds) (a :: as ++ bs) := .dict ho hx.1 hd q1 q2
      have hb : ReadAtMost s.heap (PyData.depthKv ds) (b1 ++ b2) := (hb1.mono (PyData.depthAll_keys_le ds)).append (hb2.mono (PyData.depthAll_vals_le ds))
      have hna : a ∉ b1 ++ b2 := not_mem_of_deeper rd (by simp only [PyData.depth]; omega) hb
      refine ⟨⟨_, rd⟩, a :: (b1 ++ b2), ReadAtMost.cons rd (by simp only [PyData.depth]; omega) hb, ?_⟩
      simp only [PyData.depth, PyData.shown, PyData.shownKv_eq]
      exact ReprK.dict ho hx.1 hd hsys hna (ReprEntriesK.of_two es.toList _ _
        (k1.more_le (fun b hb => List.mem_append_left _ hb) (PyData.depthAll_keys_le ds))
        (k2.more_le (fun b hb => List.mem_append_right _ hb) (PyData.depthAll_vals_le ds)))
theorem Dq.shwAll (I : Inv X pins σ H s) : ∀ (ds : List PyData) (vs : List V) (us : List Value), DqAll X.K H vs ds → Vals vs us → PyData.showableAll ds = true → (∀ t ∈ PyData.shownAll ds, t.length ≤ sizeLine) → ShwAll X.prog X.w s.heap us ds
  | [], _, _, h, r, _, _ => by
    cases h
    cases r
    exact ShwAll.nil
  | d :: ds, _, _, h, r, hs, hz => by
    cases h with
    | cons h1 h2 =>
      cases r with
      | cons r1 r2 =>
        have hs' : d.showable = true ∧ PyData.showableAll ds = true := by simpa [PyData.showableAll] using hs
        have z1 : d.shown.length ≤ sizeLine := hz _ (by simp only [PyData.shownAll]; exact List.mem_cons_self ..)
        have z2 : ∀ t ∈ PyData.shownAll ds, t.length ≤ sizeLine := fun t ht => hz t (by simp only [PyData.shownAll]; exact List.mem_cons_of_mem _ ht)
        exact ShwAll.cons (Dq.shw I d _ _ h1 r1 hs'.1 z1) (Dq.shwAll I ds _ _ h2 r2 hs'.2 z2)
theorem Dq.shwKv (I : Inv X pins σ H s) : ∀ (ds : List (PyData × PyData)) (kvs : List (Key × V)) (ws : List (Key × Value)) (es : List DictEntry), DqKv X.K H kvs ds → KV kvs ws → Pairs (mixKind X.prog X.w) es ws →
    PyData.showableAll (ds.map (·.2)) = true → (∀ t ∈ PyData.shownAll (ds.map (·.1)), t.length ≤ sizeLine) → (∀ t ∈ PyData.shownAll (ds.map (·.2)), t.length ≤ sizeLine) → ShwKv X.prog X.w s.heap es ds
  | [], _, _, _, h, r, p, _, _, _ => by
    cases h
    cases r
    cases p
    exact ⟨ShwAll.nil, ShwAll.nil⟩
  | (k, d) :: ds, _, _, _, h, r, p, hs, hk, hv => by
    cases h with
    | @cons x v kvs _ _ h1 h2 =>
      cases r with
      | cons r1 r2 =>
        cases p with
        | cons p1 p2 p3 =>
          rename_i w ws e es
          obtain ⟨rk, rv⟩ := r1
          have hs' : d.showable = true ∧ PyData.showableAll (ds.map (·.2)) = true := by simpa [PyData.showableAll] using hs
          simp only [List.map_cons, PyData.shownAll] at hk hv
          have hk1 : (PyData.shown (.str x)).length ≤ sizeLine := hk _ (List.mem_cons_self ..)
          have hv1 : d.shown.length ≤ sizeLine := hv _ (List.mem_cons_self ..)
          obtain ⟨a, b⟩ := Dq.shwKv I ds kvs ws es h2 r2 p3 hs'.2 (fun t ht => hk t (List.mem_cons_of_mem _ ht)) (fun t ht => hv t (List.mem_cons_of_mem _ ht))
          have ek : ∃ t, e.key = Value.str x t := by
            have z : keyIs w.1 e.key = true := p1
            rw [← rk] at z
            rcases keyIs_shape z with ⟨i, t, q, _⟩ | ⟨y, t, q, q'⟩
            · cases q
            · cases q
              exact ⟨t, q'⟩
          obtain ⟨t, ek⟩ := ek
          have rv' : RelV v e.val := by
            rw [p2]
            exact rv
          refine ⟨?_, ?_⟩
          · simp only [List.map_cons, ek]
            exact ShwAll.cons (shw_str x t (by simpa only [PyData.shown] using hk1)) a
          · simp only [List.map_cons]
            exact ShwAll.cons (Dq.shw I d _ _ h1 rv' hs'.1 hv1) b
end
end
end Eld
end L2

set_option Elab.async false
set_option linter.all false
set_option maxRecDepth 100000
set_option maxHeartbeats 4000000
namespace L2
namespace Eld
open PySem PySem.Spec PyProof.Rows PySem.EldX
/-! ## repr(x) as a rule: where nothing is being shown -/
/-- what is asked: data, whose text is laid -/
def rRepr (K : PySem.W.Frag) : List V → Hp → VK → Prop := fun xs H Q => ∃ (x : V) (d : PyData), xs = [x] ∧ Dq K H x d ∧ d.showable = true ∧ d.shown.length ≤ sizeLine ∧ d.depth ≤ 100 ∧ Q (.str d.shown) H
section
variable {X : Cx}
theorem call_repr {k : Nat} (hg : X.A.guards = some []) (hr : Room k X.A) : CallR X (.builtin "repr") (rRepr X.K) := by
  intro pins s σ H xs us Q I r h
  obtain ⟨x, d, rfl, hd, hs, hz, hp, q⟩ := h
  obtain ⟨u, rfl, rx⟩ := vals1 r
  have hu : X.A.units + 1 < cLine := hu_of hr
  have hu2 : X.A.in1.units + d.depth < cLine := by
    have z := hr.un
    show X.A.units + 1 + d.depth < cLine
    omega
  have fin : ∀ {h' : Heap} {t : Tok} {tk : Nat}, (∀ b o, s.heap.get? b = some o → h'.get? b = some o) → EP X pins σ Q (.str d.shown t) { s with heap := h', toks := tk } :=
    fun {h' t tk} kp => ⟨.str d.shown, H, I.kept (t' := tk) kp, ⟨t, rfl⟩, q⟩
  cases hd with
  | non =>
    cases (show u = Value.none from rx)
    have e : PyData.none.shown = ("None" : Str) := by simp only [PyData.shown]
    rw [e] at fin
    exact PySem.P.repr_of_none (fin fun _ _ z => z)
  | bl b =>
    cases (show u = Value.bool b from rx)
    have e : (PyData.bool b).shown = ((if b then "True" else "False" : Str)) := by simp only [PyData.shown]
    rw [e] at fin
    exact PySem.P.repr_of_bool (fin fun _ _ z => z)
  | int i =>
    obtain ⟨t, rfl⟩ := (show ∃ t, u = Value.int i t from rx)
    have e : (PyData.int i).shown = toString i := by simp only [PyData.shown]
    rw [e] at fin
    exact PySem.P.repr_of_int (by simpa [PyData.showable] using hs) (fin fun _ _ z => z)
  | str y =>
    obtain ⟨t, rfl⟩ := (show ∃ t, u = Value.str y t from rx)
    have e : (PyData.str y).shown = reprText y := by simp only [PyData.shown]
    rw [e] at fin hz
    exact PySem.P.repr_of_str (fin fun _ _ z => z) hz
  | @lst a ys ds hS hA =>
    cases (show u = Value.ref a from rx)
    obtain ⟨its, rv, ⟨o, n, ho, hc, _, hd⟩, _⟩ := I.list hS
    have hz' : (listText (PyData.shownAll ds)).length ≤ sizeLine := by simpa only [PyData.shown] using hz
    obtain ⟨⟨as, q1⟩, bs, hb, hk⟩ := Dq.shwAll I ds ys its hA rv (by simpa [PyData.showable] using hs) (fun t ht => Nat.le_trans (listText_mem_le ht) hz')
    have rd : Reads s.heap (.ref a) (.list ds) (a :: as) := .list ho hc hd q1
    have hna : a ∉ bs := not_mem_of_deeper rd (by simp only [PyData.depth]; omega) hb
    have e : (PyData.list ds).shown = listText (PyData.shownAll ds) := by simp only [PyData.shown]
    rw [e] at fin
    simp only [PyData.depth] at hu2
    refine call_repr_slot hu ⟨o, ho, hc⟩ F.slot_list_repr.toG ?_
    cases its with
    | nil =>
      cases q1
      simp only [PyData.shownAll, listText_nil] at fin
      exact call_list_repr_empty ⟨o, ho, hc⟩ ho hd ⟨_, _, rfl, fin fun _ _ z => z⟩
    | cons y l =>
      exact call_list_reprK ho hc hd hna (by simpa using hk.length_eq) (fun i y e => hk.item i y (by simpa using e)) hg (fun b _ => Clear.nil b) hu2 (fun _ _ z => z)
        (fun h' u tk kp => ⟨_, _, rfl, fin kp⟩) hz'
  | @tup a ys ds hS hA =>
    cases (show u = Value.ref a from rx)
    obtain ⟨its, rv, ⟨o, ho, hc, n, hd⟩, _⟩ := I.tuple hS
    have hz' : (tupleText (PyData.shownAll ds)).length ≤ sizeLine := by simpa only [PyData.shown] using hz
    obtain ⟨⟨as, q1⟩, bs, hb, hk⟩ := Dq.shwAll I ds ys its hA rv (by simpa [PyData.showable] using hs) (fun t ht => Nat.le_trans (tupleText_mem_le ht) hz')
    have rd : Reads s.heap (.ref a) (.tuple ds) as := .tuple ho hc hd q1
    have hna : a ∉ bs := not_mem_of_deeper rd (by simp only [PyData.depth]; omega) hb
    have e : (PyData.tuple ds).shown = tupleText (PyData.shownAll ds) := by simp only [PyData.shown]
    rw [e] at fin
    simp only [PyData.depth] at hu2
    refine call_repr_slot hu ⟨o, ho, hc⟩ F.slot_tuple_repr ?_
    exact call_tuple_reprK ho hc hd hna hk hg (fun b _ => Clear.nil b) hu2 (fun _ _ z => z) (fun h' u tk kp => ⟨_, _, rfl, fin kp⟩) hz'
  | @dct a kvs ds ha hA =>
    cases (show u = Value.ref a from rx)
    obtain ⟨_, hsys, vs, rv, o, es, ep, ho, hx, hd, _, hp', _⟩ := (show ObjOk X.prog X.w H s.heap a (.dK kvs) from I.hok a _ ha)
    have hz' : (dictText (PyData.shownKv ds)).length ≤ sizeLine := by simpa only [PyData.shown] using hz
    obtain ⟨s1, s2⟩ := PyData.showableKv_split ds (by simpa [PyData.showable] using hs)
    have hK : ∀ t ∈ PyData.shownAll (ds.map (·.1)), t.length ≤ sizeLine := fun t ht =>
      let ⟨p, hp, hl⟩ := PyData.shownKv_key_le ds t ht
      Nat.le_trans hl (Nat.le_trans (dictText_mem_le hp) hz')
    have hV : ∀ t ∈ PyData.shownAll (ds.map (·.2)), t.length ≤ sizeLine := fun t ht =>
      let ⟨p, hp, hl⟩ := PyData.shownKv_val_le ds t ht
      Nat.le_trans hl (Nat.le_trans (dictText_mem_le hp) hz')
    obtain ⟨⟨⟨as, q1⟩, b1, hb1, k1⟩, ⟨bs, q2⟩, b2, hb2, k2⟩ := Dq.shwKv I ds kvs vs es.toList hA rv hp' s2 hK hV
    have rd : Reads s.heap (.ref a) (.dict ds) (a :: as ++ bs) := .dict ho hx.1 hd q1 q2
    have hb : ReadAtMost s.heap (PyData.depthKv ds) (b1 ++ b2) := (hb1.mono (PyData.depthAll_keys_le ds)).append (hb2.mono (PyData.depthAll_vals_le ds))
    have hna : a ∉ b1 ++ b2 := not_mem_of_deeper rd (by simp only [PyData.depth]; omega) hb
    have e : (PyData.dict ds).shown = dictText (List.zipWith (fun k v : Str => k ++ ": " ++ v) (PyData.shownAll (ds.map (·.1))) (PyData.shownAll (ds.map (·.2)))) := by
      simp only [PyData.shown, PyData.shownKv_eq]
    rw [e] at fin
    simp only [PyData.depth] at hu2
    refine call_repr_slot hu ⟨o, ho, hx.1⟩ F.slot_dict_repr ?_
    exact call_dict_reprK ho hx.1 hd hsys hna (ReprEntriesK.of_two es.toList _ _
      (k1.more_le (fun b hb => List.mem_append_left _ hb) (PyData.depthAll_keys_le ds))
      (k2.more_le (fun b hb => List.mem_append_right _ hb) (PyData.depthAll_vals_le ds))) hg (fun b _ => Clear.nil b) hu2 (fun _ _ z => z)
      (fun h' u tk kp => ⟨_, _, rfl, fin kp⟩) (by rw [← PyData.shownKv_eq]; exact hz')
end
/-! ## promises of defs that are called where nothing is being shown -/
structure FnG (P : Program) (w : World) (K : PySem.W.Frag) (mg : Str → Option Value) (base : Heap) (CX : CXT) (k : Nat) (f : Addr) (fd : FuncData) (ps : List Str) (sp : Sp) : Prop where
  len : ∀ vs H Q E, sp vs H Q E → vs.length = ps.length
  run : ∀ (A : Around) (outer : List Env) (s : Shared) (H : Hp) (args : Args) (us : List Value) (vs : List V) (Q : VK) (E : XK), A.guards = some [] → Room k A →
    Env0 P w K mg base A outer s H → BindsTo s fd args (ps.zip us) → Vals vs us → sp vs H Q E → codeAny (model P w) A (.call (.ref f) args) (CR CX outer P w H s Q E) s
theorem FnG.of {P : Program} {w : World} {K : PySem.W.Frag} {mg : Str → Option Value} {base : Heap} {CX : CXT} {k : Nat} {f : Addr} {fd : FuncData} {ps : List Str} {sp : Sp} (F : FnOk P w K mg base CX k f fd ps sp) : FnG P w K mg base CX k f fd ps sp :=
  ⟨F.len, fun A outer s H args us vs Q E _ hr e b r h => F.run A outer s H args us vs Q E hr e b r h⟩
/-- a def by its body -/
theorem fnG_of {CX : CXT} {P : Program} {w : World} {K : PySem.W.Frag} {mg : Str → Option Value} {base : Heap} {k : Nat} {f : Addr} {name qual : Str} {params : Arguments} {body : List Stmt} {scope : Scope} {dV kV doc pm cdv ct oc : Value} {an od : Option Addr}
    {osl : Array (Option Value)} {N ps : List Str} {sp : Sp} (lk : K.lookup f = some ⟨oc, od, .func (PySem.W.fnOf name qual params body scope dV kV doc pm an cdv ct), osl⟩)
    (hcd : PySem.W.codeIn K cdv qual = true) (S : FnScope N ps scope) (len : ∀ vs H Q E, sp vs H Q E → vs.length = ps.length)
    (hbody : ∀ (A : Around) (outer : List Env) (s : Shared) (H : Hp) (vs : List V) (Q : VK) (E : XK), A.guards = some [] → Room k (A.deeper (envOfC qual scope s.heap.objs.size f cdv)) → sp vs H Q E →
      ∃ t, PSs (cxOf CX P w K mg base N qual scope f cdv A outer s H E) body t ∧ t { nx := fun _ H' => Q .non H', rt := Q } (start N vs) H) :
    FnG P w K mg base CX (k + 1) f (PySem.W.fnOf name qual params body scope dV kV doc pm an cdv ct) ps sp := by
  refine ⟨len, fun A outer s H args us vs Q E hG hr e0 hb r hsp => ?_⟩
  -- the promise «whatever is asked here»: of this one call, by the library's own rule
  let one : Sp := fun vs' H' Q' E' => vs' = vs ∧ H' = H ∧ Q' = Q ∧ E' = E ∧ sp vs H Q E
  have KX : K.In s.heap := e0.mod.kin.keeps fun b o e => (e0.bs b o e).1
  have lim : s.heap.NoLimit := e0.mod.nolimit.keeps fun b o e => (e0.bs b o e).1
  have hl := len _ _ _ _ hsp
  have hkind : ∀ y ∈ ps.zip us, scope.names.lookup y.1 = some .local ∨
      (scope.names.lookup y.1 = some .cell ∧ ((cellsFrom (s.heap.objs.size + 1) scope.names []).lookup y.1).isSome = true) := fun ⟨n, v⟩ hy => by
    rcases S.par n (List.of_mem_zip hy).1 with q | q
    · exact .inl q
    · exact .inr ⟨q, PySem.W.cellsFrom_some _ _ _ (.inl q)⟩
  refine codeAny_call_function hr.depth (KX _ _ lk) rfl S.co S.gen rfl (PySem.W.codeRec_of KX hcd)
    (hb _ _ _ _ ?_)
  refine wpAny_newFunctionEnv_cells S.kind hkind fun env he s1 x => ?_
  subst he
  refine ⟨lim.keeps x.toInCall.keep, codeAny_func ?_⟩
  obtain ⟨t, ht, hq⟩ := hbody A outer s H vs Q E hG (hr.deeper _) hsp
  have I := inv_start (CX := CX) (E := E) S hr.hd e0 hl r x
  refine wpAny_mono (ht.run [] s1 (start N vs) H _ I hq) (fun fl s' hs => ?_) fun e s' hs => hs
  cases fl with
  | ret u =>
    obtain ⟨v, σ', H', J, rv, q⟩ := hs
    exact ⟨v, H', J.os, J.bare, J.base, J.hok, rv, q⟩
  | next =>
    obtain ⟨σ', H', J, q⟩ := hs
    exact ⟨.non, H', J.os, J.bare, J.base, J.hok, rfl, q⟩
  | brk =>
    obtain ⟨_, _, _, q⟩ := hs
    exact q.elim
  | cont =>
    obtain ⟨_, _, _, q⟩ := hs
    exact q.elim
theorem FunG {P : Program} {w : World} {K : PySem.W.Frag} {mg : Str → Option Value} {base : Heap} {x qual : Str} {st : Stmt} {f : Addr} {fd : FuncData} {N ps : List Str} {k : Nat} {sp : Sp} (F : Fun K x qual st f fd) (S : FnScope N ps (defScope st))
    (len : ∀ vs H Q E, sp vs H Q E → vs.length = ps.length)
    (hbody : ∀ (cdv : Value) (A : Around) (outer : List Env) (s : Shared) (H : Hp) (vs : List V) (Q : VK) (E : XK), A.guards = some [] → Room k (A.deeper (envOfC qual (defScope st) s.heap.objs.size f cdv)) → sp vs H Q E →
      ∃ t, PSs (cxOf CX0 P w K mg base N qual (defScope st) f cdv A outer s H E).nox (defBody st) t ∧ t { nx := fun _ H' => Q .non H', rt := Q } (start N vs) H) : FnG P w K mg base CX0 (k + 1) f fd ps sp := by
  obtain ⟨oc, od, kV, doc, pm, an, cdv, ct, osl, rfl, lk, hcd⟩ := F.ex
  refine fnG_of lk hcd S len fun A outer s H vs Q E hG hr hsp => ?_
  obtain ⟨t, h, q⟩ := hbody cdv A outer s H vs Q E hG hr hsp
  exact ⟨t, h.nox, q⟩
section
variable {X : Cx} {CX : CXT} {k : Nat} {f : Addr} {fd : FuncData} {ps : List Str} {sp : Sp} {dvs : List V} {ds : List Value} {E : XK} {x : Str} {p pos : Pos} {e : Expr} {es : List Expr} {t : TA}
theorem run_fnG {pins : List (Addr × Obj)} {σ : St} {H : Hp} {s : Shared} {Q : VK} {us : List Value} {vs : List V} (F : FnG X.prog X.w X.K X.mg X.base CX k f fd ps sp) (hG : X.A.guards = some []) (hr : Room k X.A) (hb : Binds X.K fd ps ds) (hd : Vals dvs ds)
    (hx : Passes CX X E) (I : Inv X pins σ H s) (r : Vals vs us) (h : sp (vs ++ dvs) H Q E) : wpAny (model X.prog X.w) X.A (call (.ref f) us) (EP X pins σ Q) X.xe s := by
  have r2 : Vals (vs ++ dvs) (us ++ ds) := r.append hd
  have hl : (us ++ ds).length = ps.length := r2.length.symm.trans (F.len _ _ _ _ h)
  refine wpAny_call (codeAny_mono (F.run X.A X.stack s H ⟨us, []⟩ (us ++ ds) (vs ++ dvs) Q E hG hr I.env0 (hb s us I.kIn hl) r2 h) fun r s' hq => ?_)
  rcases r with e | fl
  · exact hx pins σ H s e s' I hq
  · cases fl <;> first | exact I.after hq | exact False.elim hq
theorem pe_callG (F : FnG X.prog X.w X.K X.mg X.base CX k f fd ps sp) (hG : X.A.guards = some []) (hr : Room k X.A) (hm : X.mg x = some (.ref f)) (hk : PySem.W.keepIn X.K (.ref f) = true) (hb : Binds X.K fd ps ds) (hd : Vals dvs ds) (hx : Passes CX X E)
    (ha : PA X (e :: es) t) (hg : Gl X x := by rfl) (hdb : (x == ("__debug__" : Str)) = false := by decide) (he : starEach (e :: es) X.env = (false, eval e X.env) :: starEach es X.env := by rfl) (hpl : (backTo pos (starEach es X.env)).any (·.1) = false := by rfl) :
    PE X (.Call (.Name x p) (e :: es) [] pos) (tCall sp dvs E t) := by
  refine ⟨fun pins s σ H Q I h => ?_⟩
  refine wpAny_Call_Name_kw (ld_glob I hg hm ?_ hdb)
  refine PySem.W.callWith_K (h₀ := X.base) I.ok.mod.kin hk (thn (ha.run pos pins s σ H _ I h) fun us s1 ⟨vs, H1, I1, r, q⟩ => ⟨I1.kIn, ?_⟩) he hpl
  exact run_fnG F hG hr hb hd hx I1 r q
end
/-! ## the law's own call -/
section
variable {P : Program} {w : World} {K : PySem.W.Frag} {mg mb : Str → Option Value} {CX : CXT} {k : Nat} {fa a : Addr} {fd : FuncData} {x : Str} {sp : Sp} {s₁ : Shared} {vs : List Value} {ns : List Int}
/-- from an abstract heap that tracks nothing but the script -/
theorem law_core (KX : K.In s₁.heap) (hns : s₁.heap.Ns mainGlobals mg) (hb : s₁.heap.Ns builtinsNs mb) (hbb : ∀ x : Str, x ≠ "__name__" → mb x = bootBuiltins x) (hlim : s₁.heap.NoLimit) (hg : s₁.gens = #[])
    (ha : s₁.heap.get? a = some { cls := .type "list", data := .seq vs.toArray }) (hr : Room k callerA)
    (F : ∀ base : Heap, K.In base → base.Ns mainGlobals mg → FnG P w K mg base CX k fa fd [x] sp) (hbind : ∀ (s : Shared) (u : Value), BindsTo s fd ⟨[u], []⟩ [(x, u)])
    (hCX : ∀ H e s', CX [] H s₁ (fun _ _ _ => False) e s' → False) (H : Hp) (hO : Only H) (hok : HOk P w H s₁.heap) (hA : ∀ b, H b ≠ none → b = a) (hK : H a ≠ none → K.lookup a = none)
    (hsp : sp [.ref a] H (fun v _ => v = .bl true) fun _ _ _ => False) :
    codeAny (model P w) callerA (.call (.ref fa) ⟨[.ref a], []⟩) (fun r s' => r = .ok (.ret (.bool true)) ∧ OldK s₁.heap s'.heap ∧ s'.os = s₁.os ∧ AllBare s'.gens) s₁ := by
  have there : ∀ {b : Addr} {o : Obj}, s₁.heap.get? b = some o → H b = none → (hidT s₁.heap H).get? b = some o := fun e n => hidT_get e n
  have free : ∀ {b : Addr} {o : Obj}, s₁.heap.get? b = some o → (b = a → False) → H b = none := fun {b o} e n => by
    cases q : H b with
    | none => rfl
    | some u => exact (n (hA b (by rw [q]; simp))).elim
  have ns_of : ∀ {b : Addr} {m : Str → Option Value}, s₁.heap.Ns b m → (hidT s₁.heap H).Ns b m := fun {b m} ⟨o, es, ep, e, d, r⟩ =>
    ⟨o, es, ep, there e (free e fun z => by
      subst z
      rw [ha] at e
      cases e
      cases (show Data.seq vs.toArray _ = Data.dict es ep from d)), d, r⟩
  have kin : K.In (hidT s₁.heap H) := fun b o e => there (KX b o e) (by
    cases q : H b with
    | none => rfl
    | some u =>
      obtain rfl := hA b (by rw [q]; simp)
      rw [hK (by rw [q]; simp)] at e
      cases e)
  have mod : Mod K mg (hidT s₁.heap H) :=
    ⟨kin, ns_of hns, ⟨mb, ns_of hb, hbb⟩, let ⟨mc, h1, h2⟩ := hlim; ⟨mc, ns_of h1, h2⟩⟩
  have env : Env0 P w K mg (hidT s₁.heap H) callerA [] s₁ H :=
    ⟨rfl, mod, fun b o e => of_hidT e, Nat.le_of_eq (hidT_size _ _), trivial, fun b hb => absurd (show b ∈ ([] : List Addr) from hb) (by simp), hok, .of_eq hg⟩
  refine codeAny_mono ((F _ kin (ns_of hns)).run callerA [] s₁ H ⟨[.ref a], []⟩ [.ref a] [.ref a] _ _ rfl hr env (hbind s₁ (.ref a)) (.cons rfl .nil) hsp) fun r s' h => ?_
  rcases r with e | fl
  · exact (hCX H e s' h).elim
  · cases fl with
    | next => exact False.elim h
    | brk => exact False.elim h
    | cont => exact False.elim h
    | ret u =>
      obtain ⟨v, H', os, bare, un, hok', r', q⟩ := h
      obtain rfl : v = .bl true := q
      obtain rfl : u = Value.bool true := r'
      refine ⟨rfl, OldK.of_keep fun b o e => ?_, os, bare⟩
      cases q : H b with
      | none => exact un.keep b o e q (by intro z; exact absurd (show b ∈ ([] : List Addr) from z) (by simp)) (by simp)
      | some u =>
        rcases hO b with z | ⟨ob, xs, z⟩
        · rw [q] at z
          cases z
        · obtain ⟨e1, _⟩ := hok b _ z
          obtain ⟨e2, _⟩ := hok' b _ (un.frzs b ob _ z)
          rw [e] at e1
          cases e1
          exact e2
theorem lawG_call (KX : K.In s₁.heap) (hns : s₁.heap.Ns mainGlobals mg) (hb : s₁.heap.Ns builtinsNs mb) (hbb : ∀ x : Str, x ≠ "__name__" → mb x = bootBuiltins x) (hlim : s₁.heap.NoLimit) (hg : s₁.gens = #[])
    (ha : s₁.heap.get? a = some { cls := .type "list", data := .seq vs.toArray }) (hi : IntsAre vs ns) (hl : ns.length ≤ sizeLine) (hr : Room k callerA)
    (F : ∀ base : Heap, K.In base → base.Ns mainGlobals mg → FnG P w K mg base CX k fa fd [x] sp) (hbind : ∀ (s : Shared) (u : Value), BindsTo s fd ⟨[u], []⟩ [(x, u)])
    (hsp : ∀ H : Hp, Only H → SqL K H a (ns.map V.int) → sp [.ref a] H (fun v _ => v = .bl true) fun _ _ _ => False) (hCX : ∀ H e s', CX [] H s₁ (fun _ _ _ => False) e s' → False) :
    codeAny (model P w) callerA (.call (.ref fa) ⟨[.ref a], []⟩) (fun r s' => r = .ok (.ret (.bool true)) ∧ OldK s₁.heap s'.heap ∧ s'.os = s₁.os ∧ AllBare s'.gens) s₁ := by
  have rv := vals_ints hi
  have len := hi.length
  cases hk : K.lookup a with
  | some o =>
    have e := KX a o hk
    rw [ha] at e
    cases e
    have hO : Only fun _ => none := fun _ => .inl rfl
    have hS : SqL K (fun _ => none) a (ns.map V.int) := .inr ⟨_, vs.toArray, _, hk, rfl, rfl, rfl, by rw [List.size_toArray, len]; exact hl, by simpa using rv⟩
    exact law_core KX hns hb hbb hlim hg ha hr F hbind hCX _ hO (fun b u z => by cases (show (none : Option HO) = some u from z)) (fun b z => absurd rfl z) (fun z => absurd rfl z) (hsp _ hO hS)
  | none =>
    let H : Hp := fun b => if b = a then some (.frz { cls := .type "list", data := .seq vs.toArray } (.lst (ns.map V.int))) else none
    have at_a : H a = some (.frz { cls := .type "list", data := .seq vs.toArray } (.lst (ns.map V.int))) := if_pos rfl
    have off : ∀ {b}, b ≠ a → H b = none := fun z => if_neg z
    have hO : Only H := fun b => by
      by_cases z : b = a
      · subst z
        exact .inr ⟨_, _, at_a⟩
      · exact .inl (off z)
    refine law_core KX hns hb hbb hlim hg ha hr F hbind hCX H hO (fun b u z => ?_) (fun b z => ?_) (fun _ => hk) (hsp H hO (.inl (.inr ⟨_, at_a⟩)))
    · by_cases hba : b = a
      · subst hba
        rw [at_a] at z
        cases z
        exact ⟨ha, by rw [List.length_map]; exact hl, vs, _, rv, ha⟩
      · rw [off hba] at z
        cases z
    · by_cases hba : b = a
      · exact hba
      · exact absurd (off hba) z
end
/-- the end of a law: k_head's goal from the promise of the law's def -/
theorem walkG {l : PySem.W.OpenLaw} {n k : Nat} {q : Program} {loose : List Str} {XP : (Str → Option Value) → Heap → Prop} {YP : World → Heap → Prop} {d : DefRec} {K : Params → PySem.W.Frag} {sp : World → Sp} {x : Str}
    (hn : l.most = some n) (hn2 : n ≤ sizeLine) (hdf : d.params.defaults = []) (hr : Room k callerA) (hY : ∀ (w : World) (h : Heap), YP w h → (K w.params).In h)
    (F : ∀ (w : World) (mg : Str → Option Value) (fa : Addr) (h : Heap), (K w.params).In h → h.Ns mainGlobals mg → mg d.name = some (.ref fa) →
      ∃ fd : FuncData, (∀ (s : Shared) (u : Value), BindsTo s fd ⟨[u], []⟩ [(x, u)]) ∧
        ∀ base : Heap, (K w.params).In base → base.Ns mainGlobals mg → FnG l.prog w (K w.params) mg base CX0 k fa fd [x] (sp w))
    (hsp : ∀ (w : World) (H : Hp) (a : Addr) (ns : List Int), ns.length ≤ n → Only H → SqL (K w.params) H a (ns.map V.int) → sp w [.ref a] H (fun v _ => v = .bl true) fun _ _ _ => False) :
    PySem.W.WalkO q loose XP YP l.row.toRowW d [] (fun f vs => PySem.call f vs) := by
  refine Att.attach_call hn hdf fun w s₀ s₁ mg mb fa o pm cd doc a vs ns G Y ho hd hcd hmg hobj hints hlen hg => ?_
  have KX := hY w _ Y
  obtain ⟨fd, hb, hF⟩ := F w mg fa _ KX G.T.g hmg
  exact lawG_call KX G.T.g G.T.b G.T.builtins G.T.nolimit hg hobj hints (Nat.le_trans hlen hn2) hr hF hb (fun H hO hS => hsp w H a ns hlen hO hS) fun _ _ _ h => h
end Eld
end L2

set_option Elab.async false
set_option linter.all false
set_option maxRecDepth 100000
set_option maxHeartbeats 4000000
/-! ## sets of texts: made of a list, counted, sorted -/
namespace L2
namespace Eld
open PySem PySem.Spec PyProof.Rows PySem.EldX
/-- the key of an entry -/
def keyS (e : Int × Value) : Str := match e.2 with
  | .str x _ => x
  | _ => ""
def GoodS (w : World) (e : Int × Value) : Prop := ∃ (x : Str) (t : Tok), e.2 = Value.str x t ∧ e.1 = hashStr w x
theorem strK_is {P : Program} {w : World} (x : Str) (t : Tok) : (PySem.strKind P w).is x (.str x t) = true := by
  show Value.isStrOf x (.str x t) = true
  simp [Value.isStrOf]
/-- at a: a set of texts, S its members, n their number -/
def SetS (w : World) (h : Heap) (a : Addr) (S : Str → Bool) (n : Nat) : Prop :=
  ∃ o es ep t, h.get? a = some o ∧ o.ExactSet ∧ o.data = .set es ep t ∧ (∀ e ∈ es.toList, GoodS w e) ∧ (es.toList.map keyS).Nodup ∧
    (∀ k, S k = true ↔ k ∈ es.toList.map keyS) ∧ es.size < scanBound ∧ t.fits es.size = true ∧ es.size = n ∧ Ris t.place.toList ∧
    (w.params.followText "set-order" = true ∨ t.led = true)
section
variable {P : Program} {w : World} {h h' : Heap} {a : Addr} {S : Str → Bool} {n : Nat}
theorem SetS.at (R : SetS w h a S n) (k : ∀ o, h.get? a = some o → h'.get? a = some o) : SetS w h' a S n := by
  obtain ⟨o, es, ep, t, ho, rest⟩ := R
  exact ⟨o, es, ep, t, k o ho, rest⟩
theorem SetS.congr {S' : Str → Bool} (R : SetS w h a S n) (e : ∀ k, S' k = S k) : SetS w h a S' n := by
  obtain rfl : S' = S := funext e
  exact R
theorem goodS_elems {l : List (Int × Value)} (g : ∀ e ∈ l, GoodS w e) : ElemsOf (PySem.strKind P w) l := fun e he => by
  obtain ⟨x, t, h1, h2⟩ := g e he
  refine ⟨⟨x, by rw [h1]; exact strK_is x t, h2⟩, ?_⟩
  rw [h1] <;> rfl
theorem goodS_is {e : Int × Value} (g : GoodS w e) (k : Str) : (PySem.strKind P w).is k e.2 = true ↔ keyS e = k := by
  obtain ⟨x, t, h1, _⟩ := g
  unfold keyS
  rw [h1]
  show Value.isStrOf k (.str x t) = true ↔ x = k
  simp [Value.isStrOf]
theorem goodS_mem {l : List (Int × Value)} (g : ∀ e ∈ l, GoodS w e) (k : Str) : k ∈ l.map keyS ↔ ∃ e ∈ l, (PySem.strKind P w).is k e.2 = true := by
  rw [List.mem_map]
  refine ⟨?_, ?_⟩
  · rintro ⟨e, he, q⟩
    exact ⟨e, he, (goodS_is (P := P) (g e he) k).2 q⟩
  · rintro ⟨e, he, q⟩
    exact ⟨e, he, (goodS_is (P := P) (g e he) k).1 q⟩
theorem SetS.setOf (R : SetS w h a S n) : h.SetOf (PySem.strKind P w) a S n := by
  obtain ⟨o, es, ep, t, ho, hx, hd, g, nd, hm, hb, hf, hn, _⟩ := R
  refine ⟨o, es, ep, t, ho, hx, hd, goodS_elems g, fun k => ?_, hb, hf, hn⟩
  exact (hm k).trans (goodS_mem g k)
end
section
variable {P : Program} {w : World} {A : Around} {E : Value → Shared → Prop} {s : Shared} {a : Addr} {S : Str → Bool} {n : Nat}
/-- the store behind an added member -/
theorem setS_tail {g : Bool → Sem Unit} (hg : ∀ (b : Bool) (s₁ : Shared) (Q' : Unit → Shared → Prop), Q' () s₁ → wpAny (model P w) A (g b) Q' E s₁) {o : Obj} {es : Array (Int × Value)} {ep : Nat} {t : SetTable}
    (ho : s.heap.get? a = some o) (hex : o.ExactSet) (hd : o.data = .set es ep t) {fs : Array (Int × Value)} {u : SetTable} {S' : Str → Bool} (gS : ∀ e ∈ fs.toList, GoodS w e) (nd : (fs.toList.map keyS).Nodup)
    (mS : ∀ k, S' k = true ↔ k ∈ fs.toList.map keyS) (hb : fs.size < scanBound) (hf : u.fits fs.size = true) (hr : Ris u.place.toList) (hl : w.params.followText "set-order" = true ∨ u.led = true) {dm : Bool}
    {R : Option Bool → Shared → Prop} (hR : ∀ h', Heap.SameBut a s.heap h' → SetS w h' a S' fs.size → R (some true) { s with heap := h' }) :
    wpAny (model P w) A (do
      storeSet a fs u
      if (!dm && u.tooFull) = true then do
          g (relayAll u fs (SetTable.grown fs.size)).2.2
          storeSet a (relayAll u fs (SetTable.grown fs.size)).1 (relayAll u fs (SetTable.grown fs.size)).2.1
          pure (some true)
        else pure (some true)) R E s := by
  refine wpAny_bind (wpAny_storeSet_of ho hd ?_ (fits_of_scanBound hb))
  have h1 := store_at (es' := fs) (t' := u) ho hd
  have sb := Heap.SameBut.update s.heap a (Obj.putSet fs u)
  split
  · have pm := relayAll_perm u fs (SetTable.grown fs.size)
    have f2 := relayAll_fits u fs (SetTable.grown fs.size)
    have r2 := relayAll_ris u fs (SetTable.grown fs.size)
    have l2 := relayAll_led u fs (SetTable.grown fs.size)
    generalize relayAll u fs (SetTable.grown fs.size) = Z at pm f2 r2 l2 ⊢
    obtain ⟨gs, v, gave⟩ := Z
    dsimp only at pm f2 r2 l2 ⊢
    have sz : gs.size = fs.size := by rw [← Array.length_toList, pm.length_eq, Array.length_toList]
    have b2 : gs.size < scanBound := by rw [sz]; exact hb
    refine wpAny_bind (hg _ _ _ ?_)
    refine wpAny_bind (wpAny_storeSet_of h1 rfl ?_ (fits_of_scanBound b2))
    have h2 := store_at (es' := gs) (t' := v) h1 rfl
    refine wpAny_pure (hR _ (sb.trans (Heap.SameBut.update _ a _)) ?_)
    refine ⟨_, gs, _, v, h2, hex, rfl, fun e he => gS e (pm.mem_iff.mp he), (pm.map keyS).nodup_iff.mpr nd, fun k => ?_, b2, f2, sz, r2, ?_⟩
    · exact (mS k).trans (pm.map keyS).mem_iff.symm
    · exact hl.imp id fun z => by rw [l2]; exact z
  · refine wpAny_pure (hR _ sb ?_)
    exact ⟨_, fs, _, u, h1, hex, rfl, gS, nd, mS, hb, hf, rfl, hr, hl⟩
theorem setS_hashed {x : Str} {tk : Tok} {Q : Bool → Shared → Prop} (R : SetS w s.heap a S n) (room : n + 1 < scanBound)
    (hQ : ∀ h', Heap.SameBut a s.heap h' → SetS w h' a (fun j => S j || decide (j = x)) (if S x = true then n else n + 1) → Q (!S x) { s with heap := h' }) :
    wpAny (model P w) A (setAddHashed a (.str x tk) ((PySem.strKind P w).hash x)) Q E s := by
  obtain ⟨o, es, ep, t, ho, hex, hd, g, nd, hm, hb, hf, hn, hr, hl⟩ := R
  have key : (PySem.strKind P w).is x (.str x tk) = true := strK_is x tk
  have sc : (Value.str x tk).scannable = true := rfl
  have el : ElemsOf (PySem.strKind P w) es.toList := goodS_elems g
  unfold setAddHashed setAddHashedIn
  refine wpAny_holding (wpAny_bind (wpAny_setState_of ho hd hf ?_))
  dsimp only
  rw [byScan_of sc hb el]
  simp only [↓reduceIte]
  unfold setAddByScan
  refine wpAny_bind ?_
  refine wpAny_bind (wpAny_rule ?_)
  refine wpAny_bind (wpAny_setScan_of key ho hd hf el ?_)
  cases hfi : List.findIdx? (fun e => (PySem.strKind P w).is x e.2) es.toList with
  | some j =>
    dsimp only
    obtain ⟨hj, pj, _⟩ := List.findIdx?_eq_some_iff_getElem.mp hfi
    have Sx : S x = true := (hm x).2 ((goodS_mem (P := P) g x).2 ⟨es.toList[j], List.getElem_mem hj, pj⟩)
    refine wpAny_pure (wpAny_pure ?_)
    have q := hQ s.heap (Heap.SameBut.refl a s.heap) ⟨o, es, ep, t, ho, hex, hd, g, nd, fun i => by
      rw [Bool.or_eq_true, decide_eq_true_eq, ← hm i]
      exact ⟨fun z => z.elim id (fun e => e ▸ Sx), .inl⟩, hb, hf, by rw [if_pos Sx]; exact hn, hr, hl⟩
    rw [Sx] at q
    exact q
  | none =>
    dsimp only
    have nx : x ∉ es.toList.map keyS := fun z => by
      obtain ⟨e, he, q⟩ := (goodS_mem (P := P) g x).1 z
      have y := List.findIdx?_eq_none_iff.mp hfi e he
      rw [q] at y
      cases y
    have Sx : S x = false := by
      cases q : S x with
      | false => rfl
      | true => exact absurd ((hm x).1 q) nx
    have gw : ∀ (b : Bool) {s₁ : Shared} {Q' : Unit → Shared → Prop}, Q' () s₁ → wpAny (model P w) A (match b with | true => rule "set.scan.the-table-gave-way" | false => pure ()) Q' E s₁ := fun b s₁ Q' q => by
      cases b <;> first | exact wpAny_pure q | exact wpAny_rule q
    have pm := layNew_perm t es ((PySem.strKind P w).hash x) (.str x tk)
    have f1 := layNew_fits t es ((PySem.strKind P w).hash x) (.str x tk)
    have r1 := layNew_ris t es ((PySem.strKind P w).hash x) (.str x tk) hr
    have l1 := layNew_led t es ((PySem.strKind P w).hash x) (.str x tk)
    generalize layNew t es ((PySem.strKind P w).hash x) (.str x tk) = Z at pm f1 r1 l1 ⊢
    obtain ⟨fs, u, dm, gave⟩ := Z
    dsimp only at pm f1 r1 l1 ⊢
    rw [Array.toList_push] at pm
    have pc : fs.toList.Perm (((PySem.strKind P w).hash x, Value.str x tk) :: es.toList) := pm.trans (List.perm_append_singleton _ _)
    have pk : (fs.toList.map keyS).Perm (x :: es.toList.map keyS) := pc.map keyS
    have gS : ∀ e ∈ fs.toList, GoodS w e := fun e he => by
      rcases List.mem_cons.mp (pc.mem_iff.mp he) with z | z
      · rw [z]
        exact ⟨x, tk, rfl, rfl⟩
      · exact g e z
    have nd1 : (fs.toList.map keyS).Nodup := pk.nodup_iff.mpr (List.nodup_cons.mpr ⟨nx, nd⟩)
    have m1 : ∀ i, (S i || decide (i = x)) = true ↔ i ∈ fs.toList.map keyS := fun i => by
      rw [Bool.or_eq_true, decide_eq_true_eq, hm i, pk.mem_iff, List.mem_cons]
      exact Or.comm
    have sz : fs.size = n + 1 := by rw [← Array.length_toList, pc.length_eq, List.length_cons, Array.length_toList, hn]
    have hb1 : fs.size < scanBound := by rw [sz]; exact room
    have led : w.params.followText "set-order" = true ∨ u.led = true := hl.imp id fun z => by rw [l1]; exact z
    have fin : ∀ h', Heap.SameBut a s.heap h' → SetS w h' a (fun j => S j || decide (j = x)) fs.size → Q true { s with heap := h' } := fun h' sb r => by
      have q := hQ h' sb
      rw [Sx] at q
      rw [sz] at r
      exact q r
    refine wpAny_bind (gw _ ?_)
    split
    · refine wpAny_bind ?_
      rw [hashByValue_scannable 8 sc]
      refine wpAny_pure ?_
      refine setS_tail ?_ ho hex hd gS nd1 m1 hb1 ?_ ?_ ?_ ?_
      · intro b s₁ Q' q
        cases b <;> first | exact wpAny_pure q | exact wpAny_rule q
      · first | (split <;> first | exact f1 | exact SetTable.fits_plain_off f1) | exact f1
      · first | (split <;> exact r1) | exact r1
      · first | (split <;> exact led) | exact led
      · intro h' sb r
        dsimp only
        exact wpAny_pure (fin h' sb r)
    · refine wpAny_bind (wpAny_pure ?_)
      simp only [↓reduceIte]
      refine setS_tail ?_ ho hex hd gS nd1 m1 hb1 f1 r1 led ?_
      · intro b s₁ Q' q
        cases b <;> first | exact wpAny_pure q | exact wpAny_rule q
      · intro h' sb r
        dsimp only
        exact wpAny_pure (fin h' sb r)
/-- a.add(x) -/
theorem setS_add {x : Str} {tk : Tok} {Q : Value → Shared → Prop} (R : SetS w s.heap a S n) (room : n + 1 < scanBound)
    (hQ : ∀ h', Heap.SameBut a s.heap h' → SetS w h' a (fun j => S j || decide (j = x)) (if S x = true then n else n + 1) → Q .none { s with heap := h', toks := s.toks + 1 }) :
    wpAny (model P w) A (call (.builtin "set.add") [.ref a, .str x tk]) Q E s := by
  have hS : s.heap.SetOf (PySem.strKind P w) a S n := R.setOf
  refine wpAny_call_entry F.slot_set_add hS.typeIs F.entry_set_add ?_ (F.args_set_add_2 _ _)
  unfold Builtin.«set.add» Builtin.Frozenset.oneOther
  simp only [List.isEmpty_nil, bind_assoc]
  unfold Builtin.Frozenset.addrOf setAdd
  refine wpAny_bind (wpAny_pure ?_)
  try dsimp only
  refine wpAny_bind (wpAny_pure ?_)
  try dsimp only
  refine wpAny_bind (wpAny_holding ?_)
  refine wpAny_bind ((PySem.strKind P w).pyHash (strK_is x tk) ?_)
  refine setS_hashed (s := { s with toks := s.toks + 1 }) R room fun h' sb r => ?_
  show wpAny _ _ (ret Value.none) _ _ _
  exact wpAny_pure ⟨_, rfl, hQ h' sb r⟩
/-- a new set, nothing in it -/
theorem setS_new_at {h : Heap} (ho : h.get? a = some { cls := .type "set", dict := none, data := .set #[] 0 (.fresh 0 0 (!w.params.followText "set-order")) }) : SetS w h a (fun _ => false) 0 := by
  refine ⟨_, #[], 0, _, ho, ⟨rfl, rfl, rfl⟩, rfl, (fun e he => by simp at he), (by simp), (fun k => by simp), (by decide), (by rfl), rfl, List.Pairwise.nil, ?_⟩
  show _ ∨ (!w.params.followText "set-order") = true
  cases w.params.followText "set-order"
  · exact .inr rfl
  · exact .inl rfl
/-- how many of the first i are unlike -/
theorem setS_update {I : Addr} {fp wr : List Addr} {G : Array GenState → Array GenState → Prop} {n : Nat} {Pv : Nat → Value → Prop} {St : Nat → Shared → Prop} {R : Result → Shared → Prop}
    (W : WalksS P w A.in1 I fp wr G n Pv St) (a : Addr) (ha : a ∉ fp) (xs : List Str) (hn : n = xs.length) (hb : xs.length + 1 < scanBound) (hval : ∀ i v, Pv i v → ∃ x t, xs[i]? = some x ∧ v = .str x t) :
    ∀ (k i : Nat) (s : Shared), n - i = k → i ≤ n → St i s → (∃ m, m ≤ i ∧ SetS w s.heap a (fun j => decide (j ∈ xs.take i)) m) →
      (∀ s' m, Moved (a :: wr) G s s' → SetS w s'.heap a (fun j => decide (j ∈ xs)) m → R (.ok (.ret .none)) s') →
      codeAny (model P w) A (.builtin "set.update.loop" ⟨[.ref a, .ref I], []⟩) R s := by
  have haw : a ∉ wr := fun h => ha (W.sub _ h)
  have sub : ∀ b ∈ wr, b ∈ a :: wr := fun b hb => List.mem_cons_of_mem _ hb
  intro k
  induction k with
  | zero =>
    intro i s hk hi hst ⟨m, hm, hS⟩ hR
    obtain rfl : i = n := by omega
    refine codeAny_builtin F.entry_set_update_loop ?_
    rw [Around.under_plainId F.plain_set_update_loop _]
    show wpAny _ A.in1 (pyNext (.ref I) >>= _) _ _ s
    refine wpAny_bind (W.done s _ _ hst fun s' mv => ?_)
    show wpAny _ A.in1 (ret Value.none) _ _ s'
    have e : xs.take i = xs := List.take_of_length_le (by omega)
    rw [e] at hS
    exact wpAny_pure (hR s' m (mv.mono sub) (hS.at fun o e => mv.heap a o haw e))
  | succ k ih =>
    intro i s hk hi hst ⟨m, hm, hS⟩ hR
    have lt : i < n := by omega
    refine codeAny_builtin F.entry_set_update_loop ?_
    rw [Around.under_plainId F.plain_set_update_loop _]
    show wpAny _ A.in1 (pyNext (.ref I) >>= _) _ _ s
    refine wpAny_bind (W.item i s _ _ lt hst fun v s' hP hst' mv => ?_)
    obtain ⟨x, t, hx, rfl⟩ := hval i v hP
    have hS' : SetS w s'.heap a (fun j => decide (j ∈ xs.take i)) m := hS.at fun o e => mv.heap a o haw e
    show wpAny _ A.in1 (holding [Value.str x t] (setAdd a (.str x t)) >>= _) _ _ s'
    refine wpAny_bind (wpAny_holding ?_)
    unfold setAdd
    refine wpAny_holding ?_
    refine wpAny_bind ((PySem.strKind P w).pyHash (k := x) (strK_is x t) ?_)
    refine setS_hashed (s := { s' with toks := s'.toks + 1 }) hS' (by omega) fun h' sb hS2 => ?_
    have hS3 : SetS w h' a (fun j => decide (j ∈ xs.take (i + 1))) (if decide (x ∈ xs.take i) = true then m else m + 1) := hS2.congr fun j => by
      rw [List.take_add_one, hx]
      simp [List.mem_append]
    have hm3 : (if decide (x ∈ xs.take i) = true then m else m + 1) ≤ i + 1 := by
      split <;> omega
    refine wpAny_pure ⟨plainId_quiet F.plain_set_update_loop _, ih (i + 1) _ (by omega) lt (W.frame _ s' _ _ hst' (Nat.le_succ _) fun b hb o e => ?_) ⟨_, hm3, hS3⟩ fun s'' m2 mv2 hS'' => ?_⟩
    · rw [sb.2 b (fun h : b = a => ha (by rw [← h]; exact hb))]
      exact e
    · refine hR s'' m2 (Moved.trans W.gtrans ((mv.mono sub).then_heap (Nat.le_succ _) fun b o hb e => ?_) mv2) hS''
      rw [sb.2 b (fun h : b = a => hb (by rw [h]; exact List.mem_cons_self))]
      exact e
end
end Eld
end L2

set_option Elab.async false
set_option linter.all false
set_option maxRecDepth 100000
set_option maxHeartbeats 4000000
namespace L2
namespace Eld
open PySem PySem.Spec PyProof.Rows PySem.EldX
/-- an empty set, just laid -/
abbrev set0 (w : World) : Obj := { cls := .type "set", dict := none, data := .set #[] 0 (.fresh 0 0 (!w.params.followText "set-order")) }
section
variable {P : Program} {w : World} {A : Around} {E : Value → Shared → Prop} {s : Shared}
/-- set(l), l a list of texts -/
theorem setS_call {l : Addr} {items : Array Value} (xs : List Str) {Q : Value → Shared → Prop} (hh : A.handled = none) (hl : s.heap.IsList l items) (hit : items.size = xs.length)
    (hval : ∀ (i : Nat) (v : Value), items[i]? = some v → ∃ x t, xs[i]? = some x ∧ v = .str x t) (hb : xs.length + 1 < scanBound)
    (h : ∀ (h' : Heap) (tk m : Nat), SetS w h' s.heap.objs.size (fun j => decide (j ∈ xs)) m → (∀ b o, s.heap.get? b = some o → h'.get? b = some o) → Q (.ref s.heap.objs.size) { s with heap := h', toks := tk }) :
    wpAny (model P w) A (call (.type "set") [.ref l]) Q E s := by
  obtain ⟨c, tl, hmro⟩ := F.called_set.mro
  have hmade := F.called_set.made
  have hsub := F.called_set.sub
  refine wpAny_call (codeAny_of_tree ?_)
  show wpAny _ _ (callAny (.type "set") _) _ _ _
  refine wpAny_pure ⟨Code.quiet_builtin _ (by decide +kernel), codeAny_builtin F.entry_type_call ?_⟩
  rw [Around.under_plain (weight_type_call_type "set" [.ref l] []) rfl]
  have h1 := F.called_set.notType
  have h2 := F.called_set.canCreate
  have hct := F.typeCall_set_1 (.ref l)
  repeat (any_goals (first | assumption | wp_step))
  refine codeAny_mono (code_set_led1 (.ref l) (E := E) (Q₁ := fun obj s₁ => obj = .ref s.heap.objs.size ∧ s₁ = { s with heap := s.heap.push (set0 w) }) ⟨rfl, rfl⟩) fun r s₁ hr => ?_
  cases r with
  | error e => exact hr
  | ok fl =>
    cases fl with
    | ret obj =>
      obtain ⟨rfl, rfl⟩ := hr
      have hS : (s.heap.push (set0 w)).get? s.heap.objs.size = some (set0 w) := Heap.get?_push_size _ rfl
      have hT : Shared.TypeIs { s with heap := s.heap.push (set0 w) } (.ref s.heap.objs.size) "set" := ⟨_, hS, rfl⟩
      have hli := F.called_set.init.lookup
      have hbi := F.called_set.init.bind (.ref s.heap.objs.size)
      repeat (any_goals (first | assumption | wp_step))
      refine codeAny_mono (codeAny_call_builtin (R := wants (fun r s₂ => r = .none ∧ ∃ h' tk m, s₂ = { s with heap := h', toks := tk } ∧ SetS w h' s.heap.objs.size (fun j => decide (j ∈ xs)) m ∧
          (∀ b o, s.heap.get? b = some o → h'.get? b = some o)) E) F.called_set.init.plain F.entry_set_init (check_set_init_1 hT ?_)) fun r₂ s₂ hr₂ => ?_
      · obtain ⟨ol, hol, hcl, nl, hdl⟩ := hl
        obtain ⟨ocls, odict, odata, oslots⟩ := ol
        simp only at hcl hdl
        subst hcl
        subst hdl
        have hol' : (s.heap.push (set0 w)).get? l = some { cls := .type "list", dict := odict, data := .seq items nl, slots := oslots } := Heap.get?_push_of_some _ hol
        have hsls := F.sub_list_set
        have hslf := F.sub_list_frozenset
        have hne : (Value.type "list" == Value.type "dict") = false := by decide
        have hl1 : (s.heap.push (set0 w)).IsList l items := ⟨_, hol', rfl, nl, rfl⟩
        unfold Builtin.«set.__init__» noKeywords Builtin.Frozenset.updateFrom
        generalize hPI : pyIter = PI
        wp_walk
        subst hPI
        refine wpAny_pyIter_list hl1 ?_
        refine wpAny_bind (wpAny_runValue ?_)
        have lS : l < s.heap.objs.size := Heap.lt_size hol
        have hh3 : A.in1.in1.in1.handled = none := by simp [hh]
        have z1 : (s.heap.push (set0 w)).objs.size = s.heap.objs.size + 1 := Heap.size_push ..
        have lI : l ≠ (s.heap.push (set0 w)).objs.size := by
          rw [Heap.size_push]
          exact Nat.ne_of_lt (Nat.lt_succ_of_lt lS)
        have aI : s.heap.objs.size ∉ [(s.heap.push (set0 w)).objs.size, l] := by
          rw [Heap.size_push]
          simp only [List.mem_cons, List.mem_singleton, List.not_mem_nil, or_false, not_or]
          exact ⟨Nat.ne_of_lt (Nat.lt_succ_self _), Nat.ne_of_gt lS⟩
        refine setS_update ((Walks.list hh3 _ l lI items).toS) s.heap.objs.size aI xs hit hb hval (items.size - 0) 0 _ (by omega) (Nat.zero_le _)
          ⟨⟨_, Heap.get?_push_size _ rfl, rfl, rfl⟩, (hl1.push _)⟩ ?hS0 ?hR
        case hS0 =>
          have hget : ((s.heap.push (set0 w)).push { cls := .type "list_iterator", data := .fields #[.ref l, .int 0 0] }).get? s.heap.objs.size = some (set0 w) := Heap.get?_push_of_some _ hS
          exact ⟨0, Nat.le_refl 0, (setS_new_at hget).congr fun j => by simp⟩
        case hR =>
          intro s' m mv hS'
          obtain ⟨h', g2, d', tk', os'⟩ := s'
          obtain rfl : g2 = s.gens := mv.gens
          obtain rfl : d' = s.drawn := mv.drawn
          obtain rfl : os' = s.os := mv.os
          show wpAny _ _ _ _ _ _
          refine wpAny_pure ?_
          show wpAny _ _ (ret Value.none) _ _ _
          refine wpAny_pure ⟨rfl, h', tk', m, rfl, hS', fun b o e => ?_⟩
          have b0 : b < s.heap.objs.size := Heap.lt_size e
          have b1 : b ≠ s.heap.objs.size := Nat.ne_of_lt b0
          have b2 : b ≠ (s.heap.push (set0 w)).objs.size := by
            rw [Heap.size_push]
            exact Nat.ne_of_lt (Nat.lt_succ_of_lt b0)
          refine mv.heap b o ?_ (Heap.get?_push_of_some _ (Heap.get?_push_of_some _ e))
          simp only [List.mem_cons, List.mem_singleton, List.not_mem_nil, or_false, not_or]
          exact ⟨b1, b2⟩
      · cases r₂ with
        | error e => exact hr₂
        | ok fl₂ =>
          cases fl₂ with
          | ret r =>
            obtain ⟨rfl, h', tk, m, rfl, hS', hk'⟩ := hr₂
            repeat (any_goals (first | assumption | wp_step))
            exact h _ _ _ hS' hk'
          | _ => exact hr₂.elim
    | _ => exact hr.elim
theorem strs_key {es : Array (Int × Value)} (g : ∀ e ∈ es.toList, GoodS w e) : ∀ v ∈ es.toList.map (·.2), ∃ x t, v = Value.str x t := fun v hv => by
  obtain ⟨e, he, rfl⟩ := List.mem_map.mp hv
  obtain ⟨x, t, h, _⟩ := g e he
  exact ⟨x, t, h⟩
end
/-! ### how many -/
theorem fewer_of_twice : ∀ l : List Str, ¬ l.Nodup → ∃ m : List Str, m.length < l.length ∧ ∀ y ∈ l, y ∈ m
  | [], h => absurd List.nodup_nil h
  | x :: l, h => by
    by_cases hx : x ∈ l
    · exact ⟨l, Nat.lt_succ_self _, fun y hy => (List.mem_cons.mp hy).elim (fun e => e ▸ hx) id⟩
    · have hn : ¬ l.Nodup := fun z => h (List.nodup_cons.mpr ⟨hx, z⟩)
      obtain ⟨m, h1, h2⟩ := fewer_of_twice l hn
      refine ⟨x :: m, Nat.succ_lt_succ h1, fun y hy => ?_⟩
      rcases List.mem_cons.mp hy with rfl | hy
      · exact List.mem_cons_self ..
      · exact List.mem_cons_of_mem _ (h2 y hy)
theorem nodup_le : ∀ (l m : List Str), l.Nodup → (∀ y ∈ l, y ∈ m) → l.length ≤ m.length
  | [], _, _, _ => Nat.zero_le _
  | x :: l, m, hn, hm => by
    obtain ⟨a, b, rfl⟩ := List.append_of_mem (hm x (List.mem_cons_self ..))
    obtain ⟨h1, h2⟩ := List.nodup_cons.mp hn
    have z := nodup_le l (a ++ b) h2 fun y hy => by
      have q := hm y (List.mem_cons_of_mem _ hy)
      rcases List.mem_append.mp q with q | q
      · exact List.mem_append_left _ q
      · rcases List.mem_cons.mp q with rfl | q
        · exact absurd hy h1
        · exact List.mem_append_right _ q
    rw [List.length_append] at z ⊢
    rw [List.length_cons, List.length_cons]
    omega
theorem count_iff {ks xs : List Str} (hn : ks.Nodup) (hm : ∀ k, k ∈ ks ↔ k ∈ xs) : ks.length = xs.length ↔ xs.Nodup := by
  refine ⟨fun e => ?_, fun h => ?_⟩
  · by_cases h : xs.Nodup
    · exact h
    · obtain ⟨m, h1, h2⟩ := fewer_of_twice xs h
      have z := nodup_le ks m hn fun y hy => h2 y ((hm y).1 hy)
      omega
  · have a := nodup_le ks xs hn fun y hy => (hm y).1 hy
    have b := nodup_le xs ks h fun y hy => (hm y).2 hy
    omega
theorem SetS.count {w : World} {h : Heap} {a : Addr} {xs : List Str} {n : Nat} (R : SetS w h a (fun j => decide (j ∈ xs)) n) : n ≤ xs.length ∧ (n = xs.length ↔ xs.Nodup) := by
  obtain ⟨o, es, ep, t, ho, hx, hd, g, nd, hm, hb, hf, hn, _⟩ := R
  have hm' : ∀ k, k ∈ es.toList.map keyS ↔ k ∈ xs := fun k => by
    rw [← hm k, decide_eq_true_eq]
  have e : (es.toList.map keyS).length = n := by
    rw [List.length_map, Array.length_toList]
    exact hn
  have c := count_iff nd hm'
  rw [e] at c
  refine ⟨?_, c⟩
  rw [← e]
  exact nodup_le _ _ nd fun y hy => (hm' y).1 hy
/-! ### as tracked things -/
def SetSO (w : World) (a : Addr) (S : Str → Bool) (n : Nat) : HO := .ext fun h => SetS w h a S n
theorem setSO_new {w : World} {P : Program} {H : Hp} {h : Heap} {a : Addr} {S : Str → Bool} {n : Nat} (R : SetS w h a S n) : ObjOk P w H h a (SetSO w a S n) := by
  have ⟨o, _, _, _, ho, _⟩ := R
  exact ⟨R, ⟨o, ho⟩, fun h1 h2 p k => SetS.at p k⟩
section
variable {X : Cx}
theorem setSO_get {pins : List (Addr × Obj)} {σ : St} {H : Hp} {s : Shared} {a : Addr} {S : Str → Bool} {n : Nat} (I : Inv X pins σ H s) (ha : H a = some (SetSO X.w a S n)) : SetS X.w s.heap a S n := (I.hok a _ ha).1
theorem vals_strs_at {xs : List Str} {us : List Value} (r : Vals (xs.map V.str) us) (i : Nat) (v : Value) (e : us[i]? = some v) : ∃ x t, xs[i]? = some x ∧ v = .str x t := by
  have hl : i < us.length := (List.getElem?_eq_some_iff.mp e).1
  have hx : i < xs.length := by
    have z := r.length
    rw [List.length_map] at z
    omega
  have q : (xs.map V.str)[i]? = some (V.str xs[i]) := by
    rw [List.getElem?_map, List.getElem?_eq_getElem hx]
    rfl
  obtain ⟨u, h1, t, h2⟩ := Vals.get r q
  rw [e] at h1
  exact ⟨xs[i], t, List.getElem?_eq_getElem hx, by rw [Option.some.inj h1]; exact h2⟩
/-- set(l), l a list of texts -/
def rSetS (K : PySem.W.Frag) (w : World) : List V → Hp → VK → Prop := fun xs H Q => ∃ (l : Addr) (ys : List Str), xs = [.ref l] ∧ SqL K H l (ys.map V.str) ∧ ys.length ≤ 1000 ∧
  ∀ (p : Addr) (m : Nat), H p = none → m ≤ ys.length → (m = ys.length ↔ ys.Nodup) → Q (.ref p) (upd H p (SetSO w p (fun j => decide (j ∈ ys)) m))
theorem cr_setS (hc : X.calm = true) : CallR X (.type "set") (rSetS X.K X.w) := by
  intro pins s σ H xs us Q I r h
  obtain ⟨l, ys, rfl, hs, hz, q⟩ := h
  rw [Vals.ref1 r]
  obtain ⟨its, rv, pl, _⟩ := I.list hs
  have hsz : its.toArray.size = ys.length := by
    rw [List.size_toArray, ← rv.length, List.length_map]
  refine setS_call ys (I.ok.hd hc) pl.isList hsz (fun i v e => vals_strs_at rv i v (by simpa using e)) (Nat.lt_of_le_of_lt (Nat.succ_le_succ hz) (by decide)) fun h' tk m R k => ?_
  obtain ⟨c1, c2⟩ := R.count
  have hn := I.hok.fresh (Nat.le_refl s.heap.objs.size)
  exact ⟨.ref s.heap.objs.size, upd H s.heap.objs.size (SetSO X.w s.heap.objs.size (fun j => decide (j ∈ ys)) m), I.laid (t' := tk) k (Nat.le_refl _) (setSO_new R), rfl, q _ m hn c1 c2⟩
/-- len(s), s such a set -/
def rLenS (w : World) : List V → Hp → VK → Prop := fun xs H Q => ∃ (a : Addr) (S : Str → Bool) (n : Nat), xs = [.ref a] ∧ H a = some (SetSO w a S n) ∧ Q (.int n) H
theorem cr_lenS : CallR X (.builtin "len") (rLenS X.w) := by
  intro pins s σ H xs us Q I r h
  obtain ⟨a, S, n, rfl, ha, q⟩ := h
  rw [Vals.ref1 r]
  obtain ⟨o, es, ep, t, ho, hex, hd, _, _, _, hb, hf, hn, _⟩ := setSO_get I ha
  have hsmall : scanBound < 2 ^ 62 := by decide
  exact call_len_set ho hex hd hf (by omega) ⟨.int n, H, I.tok _, ⟨_, by rw [hn]⟩, q⟩
end
end Eld
end L2

set_option Elab.async false
set_option linter.all false
set_option maxRecDepth 100000
set_option maxHeartbeats 4000000
/-! ## sorted(s) of a set of texts; {elt for a in .. for b in ..} of texts -/
namespace L2
namespace Eld
open PySem PySem.Spec PyProof.Rows PySem.EldX
theorem strsAre_of_all : ∀ (vs : List Value), (∀ v ∈ vs, ∃ x t, v = Value.str x t) → ∃ ys : List Str, StrsAre vs ys
  | [], _ => ⟨[], .nil⟩
  | v :: vs, h => by
    obtain ⟨x, t, rfl⟩ := h v (List.mem_cons_self ..)
    obtain ⟨ys, hy⟩ := strsAre_of_all vs fun u hu => h u (List.mem_cons_of_mem _ hu)
    exact ⟨x :: ys, .cons x t hy⟩
theorem sort_tree_strs {P : Program} {w : World} {A : Around} {E : Value → Shared → Prop} {s : Shared} {a : Addr} {vs : List Value} {zs : List Str} {n : Nat} {Q : Fin → Shared → Prop} (ho : s.heap.get? a = some (seqObj "list" vs.toArray n)) (hS : StrsAre vs zs) (h64 : vs.length < 64)
    (h : ∀ (out : Array Value) (ys : List Str), StrsAre out.toList ys → ys.Perm zs → sortedS ys = true → Q (.done (.ret .none)) { s with heap := sortedHeap s.heap a vs out }) :
    wpAny (model P w) A (Builtin.«list.sort» ⟨[.ref a], []⟩) Q E s :=
  list_sort_treeK strKind_oneLt ho hS.keysOf (fun v₁ v₂ rest e => keyKind_strs (by rw [← e]; exact hS)) h64 fun st' hp hs => by
    obtain ⟨ys, g1, g2, g3⟩ := sorted_out_str hS hp hs
    exact h _ ys g1 g2 g3
theorem strsAre_keys : ∀ {vs : List Value} {ys : List Str}, StrsAre vs ys → vs.map (fun v => keyS (0, v)) = ys
  | _, _, .nil => rfl
  | _, _, .cons x t h => by
    rw [List.map_cons, strsAre_keys h]
    rfl
section
variable {P : Program} {w : World} {A : Around} {E : Value → Shared → Prop} {s : Shared} {a : Addr} {S : Str → Bool} {n : Nat}
theorem sorted_setS {Q : Value → Shared → Prop} (R : SetS w s.heap a S n) (hh : A.handled = none) (h64 : n < 64)
    (hQ : ∀ s' p (out : Array Value) (c : Nat) (ys : List Str), (∀ b o, s.heap.get? b = some o → s'.heap.get? b = some o) → s'.gens = s.gens → s'.os = s.os → s.heap.objs.size ≤ p →
      s'.heap.get? p = some (seqObj "list" out c) → StrsAre out.toList ys → sortedS ys = true → ys.Nodup → (∀ k, k ∈ ys ↔ S k = true) → ys.length = n → Q (.ref p) s') :
    wpAny (model P w) A (call (.builtin "sorted") [.ref a]) Q E s := by
  obtain ⟨o, es, ep, t, ho, hex, hd, g, nd, hm, hb, hf, hn, hr, hl⟩ := R
  refine Calls.call_function_entry kind_sorted plain_sorted entry_sorted (args_sorted1 _) ?_
  unfold Builtin.«sorted»
  refine wpAny_bind (m := checkCount "sorted" 1 1 _) (wpAny_pure ?_)
  refine wpAny_bind (collect_set (A := A.in1) hh ⟨o, ho, hex.1, hd⟩ hf hb hr hl fun s1 vs k1 hz g1 o1 pm => ?_)
  have vl : vs.length = n := by
    rw [pm.length_eq, List.length_map, Array.length_toList]
    exact hn
  obtain ⟨zs, hS⟩ := strsAre_of_all vs fun v hv => strs_key g v (pm.mem_iff.mp hv)
  have pk : zs.Perm (es.toList.map keyS) := by
    have q := pm.map fun v => keyS (0, v)
    rw [List.map_map, strsAre_keys hS] at q
    exact q
  refine wpAny_bind (wpAny_newList ?_ (by rw [vl, sizeLine_eq]; omega))
  have hoL : (s1.heap.push (seqObj "list" vs.toArray 0)).get? s1.heap.objs.size = some (seqObj "list" vs.toArray 0) := Heap.get?_push_size _ rfl
  refine wpAny_bind (wpAny_holding (wpAny_call_entry slot_list_sort ⟨_, hoL, rfl⟩ entry_list_sort (sort_tree_strs hoL hS (by rw [vl]; exact h64) fun out ys a1 a2 a3 => ⟨_, rfl, ?_⟩) (args_list_sort _)))
  obtain ⟨c, hc⟩ := sortedHeap_at (vs := vs) (out := out) hoL
  have pn : ys.Perm (es.toList.map keyS) := a2.trans pk
  refine wpAny_pure ⟨_, rfl, hQ _ s1.heap.objs.size out c ys (fun b u e => ?_) g1 o1 hz hc a1 a3 (pn.nodup_iff.mpr nd) (fun k => by rw [pn.mem_iff, ← hm k]) ?_⟩
  · have q := k1 b u e
    have lt := Heap.lt_size q
    show (sortedHeap (s1.heap.push (seqObj "list" vs.toArray 0)) s1.heap.objs.size vs out).get? b = some u
    rw [sortedHeap_old (Nat.ne_of_lt lt) (by rw [size_push']; exact Nat.lt_succ_of_lt lt)]
    exact Heap.get?_push_of_some _ q
  · rw [pn.length_eq, List.length_map, Array.length_toList]
    exact hn
end
/-- sorted(s), s a set of texts -/
def rSortedS' (w : World) : List V → Hp → VK → Prop := fun xs H Q => ∃ (a : Addr) (S : Str → Bool) (n : Nat), xs = [.ref a] ∧ H a = some (SetSO w a S n) ∧ n < 64 ∧
  ∀ (ys : List Str) (p : Addr), sortedS ys = true → ys.Nodup → (∀ k, k ∈ ys ↔ S k = true) → ys.length = n → H p = none → Q (.ref p) (upd H p (.lst (ys.map V.str)))
section
variable {X : Cx}
theorem cr_sortedSetS (hc : X.calm = true) : CallR X (.builtin "sorted") (rSortedS' X.w) := by
  intro pins s σ H xs us Q I r h
  obtain ⟨a, S, n, rfl, ha, h64, q⟩ := h
  rw [Vals.ref1 r]
  refine sorted_setS (setSO_get I ha) (I.ok.hd hc) h64 fun s' p out c ys k g1 o1 hp hout a1 a2 a3 a4 a5 => ?_
  have hlen : (ys.map V.str).length ≤ sizeLine := by
    rw [List.length_map, a5, sizeLine_eq]
    omega
  have hn : H p = none := I.hok.fresh hp
  have J : Inv X pins σ (upd H p (.lst (ys.map V.str))) { s with heap := s'.heap, gens := s'.gens, drawn := s'.drawn, toks := s'.toks } :=
    I.call (ch := []) (Un.laid k hp hn) (I.hok.laid k hp (show ObjOk X.prog X.w _ _ p (.lst (ys.map V.str)) from ⟨hlen, out.toList, c, vals_of_strs a1, by rw [Array.toArray_toList]; exact hout⟩)) (by rw [g1]; exact I.bare) (fun _ z => nomatch z)
  have e : s' = { s with heap := s'.heap, gens := s'.gens, drawn := s'.drawn, toks := s'.toks } := by
    cases s'
    cases s
    cases o1
    rfl
  rw [e]
  exact ⟨.ref p, _, J, rfl, q ys p a2 a3 a4 a5 hn⟩
end
end Eld
end L2

set_option Elab.async false
set_option linter.all false
set_option maxRecDepth 100000
set_option maxHeartbeats 4000000
/-! ## a comprehension's clauses without tests, one rule for each of them; sets of texts made of two clauses -/
namespace L2
namespace Eld
open PySem PySem.Spec PyProof.Rows PySem.EldX
/-- no error comes -/
abbrev noE : Value → Shared → Prop := fun _ _ => False
theorem wpAny_ofNo {α : Type} {M : Model} {A : Around} {t : Sem α} {Q : α → Shared → Prop} {E : Value → Shared → Prop} {s : Shared} (h : wpAny M A t Q noE s) : wpAny M A t Q E s := wpAny_mono h (fun _ _ q => q) fun _ _ z => z.elim
/-- what the first slots know the second know -/
structure Knows (σ σ' : St) : Prop where
  len : σ.length = σ'.length
  has : ∀ (j : Nat) v, σ[j]? = some (some v) → σ'[j]? = some (some v)
theorem Knows.rfl' {σ : St} : Knows σ σ := ⟨rfl, fun _ _ h => h⟩
theorem Knows.trans {σ1 σ2 σ3 : St} (a : Knows σ1 σ2) (b : Knows σ2 σ3) : Knows σ1 σ3 := ⟨a.len.trans b.len, fun j v h => b.has j v (a.has j v h)⟩
theorem Knows.wiped {σ : St} {vs : List Nat} : Knows (wipe σ vs) σ := ⟨wipe_length σ vs, fun _ _ h => (wipe_some h).1⟩
theorem Knows.back {σ σ2 : St} {vs : List Nat} (h : wipe σ2 vs = wipe σ vs) : Knows (wipe σ vs) σ2 := by
  rw [← h]
  exact .wiped
theorem Knows.sub {σ σ2 : St} {vs vs1 : List Nat} (h : wipe σ2 vs = wipe σ vs) (hv : ∀ i ∈ vs1, i ∈ vs) : Knows (wipe σ vs) (wipe σ2 vs1) := by
  refine ⟨by rw [← h, wipe_length, wipe_length], fun j v e => ?_⟩
  rw [← h] at e
  obtain ⟨e1, e2⟩ := wipe_some e
  rw [wipe_out fun z => e2 (hv j z)]
  exact e1
/-- one turn of a clause: each item is stored, then body runs -/
abbrev clTurn (node : Expr) (k : Nat) (tg ie : Expr) (it acc : Value) (env : Env) (body : Sem Unit) : Sem Fin := do
  standAt ie.pos
  match ← pyNext it with
  | none => pure (.done .next)
  | some v => do
    letOwnedTupleGo tg it v
    assign tg env v
    body
    again (.compLoop node k it acc env)
section
variable {prog : Program} {w : World} {A : Around} {R : Result → Shared → Prop} {s : Shared} {node tg ie : Expr} {k : Nat} {it acc : Value} {env : Env} {body : Sem Unit}
theorem cl_loop (hu : A.under (.compLoop node k it acc env) = A) (hd : (model prog w).den (.compLoop node k it acc env) = (compTurn node k it acc env).onRaise fun x => do noteFrame x env; theTreesLotGoes x) (hq : (Code.compLoop node k it acc env).quiet = true) (eq : compTurn node k it acc env = clTurn node k tg ie it acc env body) (J : Nat → Shared → Prop)
    (turn : ∀ n s, J n s → wpAny (model prog w) A (pyNext it) (fun r s1 => (r = none ∧ R (.ok .next) s1) ∨ ∃ v, r = some v ∧ wpAny (model prog w) A (letOwnedTupleGo tg it v) (fun _ s2 =>
      wpAny (model prog w) A (assign tg env v) (fun _ s3 => wpAny (model prog w) A body (fun _ s4 => ∃ m, m < n ∧ J m s4) noE s3) noE s2) noE s1) noE s)
    (n : Nat) (h : J n s) : codeAny (model prog w) A (.compLoop node k it acc env) R s := by
  refine codeAny_loop hq J (fun n s hJ => ?_) n h
  rw [hu, hd]
  refine wpAny_noted ?_
  rw [eq]
  refine wpAny_bind (wpAny_standAt (wpAny_bind (thnF (turn n s hJ) fun r s1 h1 => ?_)))
  rcases h1 with ⟨rfl, q⟩ | ⟨v, rfl, q⟩
  · exact wpAny_pure q
  · refine wpAny_bind (thnF q fun _ s2 h2 => wpAny_bind (thnF h2 fun _ s3 h3 => wpAny_bind (thnF h3 fun _ s4 h4 => ?_)))
    exact wpAny_pure ⟨rfl, h4⟩
end
/-- a clause's loop over what its iterator tells -/
theorem cl_run {X : Cx} {pins : List (Addr × Obj)} {node tg ie : Expr} {k : Nat} {it : Addr} {acc : Value} {body : Sem Unit} {R : Result → Shared → Prop} {fp : List Addr} {tn : Nat → Heap → Prop} {J : It} {g : TG} {σ : St} {H : Hp} {s : Shared} {m : Nat} {W : Nat → Nat → Hp → Prop} {Done : Hp → Prop}
    (hxe : ∀ e s, X.xe e s → False) (hu : X.A.under (.compLoop node k (.ref it) acc X.env) = X.A) (hd : (model X.prog X.w).den (.compLoop node k (.ref it) acc X.env) = (compTurn node k (.ref it) acc X.env).onRaise fun x => do noteFrame x X.env; theTreesLotGoes x)
    (hq : (Code.compLoop node k (.ref it) acc X.env).quiet = true) (eq : compTurn node k (.ref it) acc X.env = clTurn node k tg ie (.ref it) acc X.env body) (hc : X.calm = true) (T : Turn X.prog X.w X.K tg J fp it tn) (pg : PG X tg g)
    (fok : ∀ σ' H' s', Inv X pins σ' H' s' → (∀ b ∈ fp, H' b = none) → ∀ b ∈ fp, FpOk X pins H' b)
    (step : ∀ i m H, W i m H → (J.stop i H ∧ Done H) ∨ (J.go i H ∧ ∃ Nx : Hp → Prop, (∀ H', Nx H' → ∃ m', m' < m ∧ W (i + 1) m' H') ∧ ∀ x H', J.yld i H x H' → ∃ Mid : St → Hp → Prop, g x σ H' Mid ∧ ∀ σ2 H2, Mid σ2 H2 →
      ∀ more s2, Inv X (pins ++ more) σ2 H2 s2 → wpAny (model X.prog X.w) X.A body (fun _ s3 => ∃ σ3 H3, Inv X (pins ++ more) σ3 H3 s3 ∧ Knows σ σ3 ∧ Nx H3) noE s2))
    (done : ∀ H' s', Inv X pins σ H' s' → Done H' → R (.ok .next) s') (I : Inv X pins σ H s) (t0 : tn 0 s.heap) (n0 : ∀ b ∈ fp, H b = none) (w0 : W 0 m H) :
    codeAny (model X.prog X.w) X.A (.compLoop node k (.ref it) acc X.env) R s := by
  refine cl_loop hu hd hq eq (fun n s' => ∃ i H', Inv X pins σ H' s' ∧ tn i s'.heap ∧ (∀ b ∈ fp, H' b = none) ∧ W i n H') (fun n s5 hJ => ?_) m ⟨0, H, I, t0, n0, w0⟩
  obtain ⟨i, G, IG, tG, nG, wG⟩ := hJ
  have okG := fok _ _ _ IG nG
  rcases step i n G wG with ⟨stop, d⟩ | ⟨go, Nx, hNx, st⟩
  · exact thnF (T.done X rfl rfl rfl hc i pins s5 σ G noE IG okG tG stop) fun r s6 ⟨hr, I6⟩ => .inl ⟨hr, done _ _ I6 d⟩
  · refine thnF (T.item X rfl rfl rfl hc i pins s5 σ G noE IG okG tG go) fun r s6 ⟨u, hr, h6⟩ => .inr ⟨u, hr, thnF h6 fun _ s7 ⟨x, G7, I7, rx, y7, t7, n7⟩ => ?_⟩
    have P7 := I7.pinned (fok _ _ _ I7 n7) (T.obj _ _ t7)
    obtain ⟨Mid, gm, bd⟩ := st x G7 y7
    refine wpAny_mono (pg.run (pins ++ pinsAt fp s7.heap) s7 σ G7 x u _ P7 rx gm) (fun _ s8 ⟨σ8, G8, I8, q8⟩ => ?_) fun e s8 z => ?_
    · refine thnF (bd σ8 G8 q8 _ s8 I8) fun _ s9 ⟨σ9, G9, I9, kn, nx⟩ => ?_
      obtain ⟨m', hm, w'⟩ := hNx G9 nx
      have held : ∀ b ∈ fp, ∀ o, s7.heap.get? b = some o → s9.heap.get? b = some o ∧ G9 b = none := fun b hb o e =>
        have z := I9.pin (b, o) (List.mem_append_right _ (List.mem_append_right _ (mem_pinsAt hb e)))
        ⟨z.1, z.2.1⟩
      refine ⟨m', hm, i + 1, G9, (I9.unpinned (pins := pins)).weak kn.len kn.has, T.keep _ _ _ t7 fun b hb o e => (held b hb o e).1, fun b hb => ?_, w'⟩
      obtain ⟨o, e, _⟩ := T.obj _ _ t7 b hb
      exact (held b hb o e).2
    · exact (hxe e s8 z).elim
/-! ### {elt for tg in iter for tg1 in iter1} -/
section
variable {prog : Program} {w : World} {A : Around} {R : Result → Shared → Prop} {s : Shared} {elt t0 i0 t1 i1 : Expr} {scope : Scope} {pos : Pos} {it acc : Value} {env : Env}
abbrev sc2 (elt t0 i0 t1 i1 : Expr) (scope : Scope) (pos : Pos) : Expr := .SetComp elt [⟨t0, i0, [], 0⟩, ⟨t1, i1, [], 0⟩] scope pos
abbrev bodyOut (elt t0 i0 t1 i1 : Expr) (scope : Scope) (pos : Pos) (acc : Value) (env : Env) : Sem Unit := do
  let x ← eval i1 env
  standAt i1.pos
  let x ← foldedSetIterable i1 env x
  let _ ← runOwn (.compStart (sc2 elt t0 i0 t1 i1 scope pos) 1 (← holding [x] (pyIter x)) acc env) env
abbrev bodyIn (elt : Expr) (acc : Value) (env : Env) : Sem Unit := do
  let v ← eval elt env
  standAt elt.pos
  let _ ← call (.builtin "set.add") [acc, v]
theorem turn_out : compTurn (sc2 elt t0 i0 t1 i1 scope pos) 0 it acc env = clTurn (sc2 elt t0 i0 t1 i1 scope pos) 0 t0 i0 it acc env (bodyOut elt t0 i0 t1 i1 scope pos acc env) := by
  first
    | rfl
    | (unfold compTurn clTurn bodyOut
       simp
       refine congrArg _ (funext fun _ => congrArg _ (funext fun r => ?_))
       cases r <;> simp)
theorem turn_in : compTurn (sc2 elt t0 i0 t1 i1 scope pos) 1 it acc env = clTurn (sc2 elt t0 i0 t1 i1 scope pos) 1 t1 i1 it acc env (bodyIn elt acc env) := by
  first
    | rfl
    | (unfold compTurn clTurn bodyIn
       simp
       refine congrArg _ (funext fun _ => congrArg _ (funext fun r => ?_))
       cases r <;> simp)
end
end Eld
end L2

set_option Elab.async false
set_option linter.all false
set_option maxRecDepth 100000
set_option maxHeartbeats 4000000
namespace L2
namespace Eld
open PySem PySem.Spec PyProof.Rows PySem.EldX
/-- s.add of a text, s tracked -/
theorem addS_ok {X : Cx} {pins : List (Addr × Obj)} {σ : St} {H : Hp} {s : Shared} {E : Value → Shared → Prop} {D : Addr} {S : Str → Bool} {n : Nat} {x : Str} {t : Tok} {Q : Value → Shared → Prop} (I : Inv X pins σ H s) (hD : H D = some (SetSO X.w D S n)) (room : n + 1 < scanBound)
    (h : ∀ s', Inv X pins σ (upd H D (SetSO X.w D (fun j => S j || decide (j = x)) (if S x = true then n else n + 1))) s' → Q .none s') : wpAny (model X.prog X.w) X.A (call (.builtin "set.add") [.ref D, .str x t]) Q E s := by
  refine setS_add (setSO_get I hD) room fun h' sb fresh => ?_
  obtain ⟨o, hfresh⟩ : ∃ u, h'.get? D = some u := by
    obtain ⟨o, es, ep, tb, ho, _⟩ := fresh
    exact ⟨o, ho⟩
  exact h _ (I.write (e := D) (t' := s.toks + 1) (by rw [hD]; trivial) (.inl rfl) (fun b u hb hu => (sb.2 b hb).trans hu) ⟨o, hfresh⟩ (setSO_new fresh))
section
variable {prog : Program} {w : World} {A : Around} {R : Result → Shared → Prop} {s : Shared} {elt t0 i0 t1 i1 : Expr} {scope : Scope} {pos : Pos} {it acc : Value} {env : Env}
/-- the second clause begins -/
theorem sc2_start (h1 : codeAny (model prog w) A (.compLoop (sc2 elt t0 i0 t1 i1 scope pos) 1 it acc env) R s)
    (h2 : wpAny (model prog w) A (pyIter it) (fun it' s' => codeAny (model prog w) A (.compLoop (sc2 elt t0 i0 t1 i1 scope pos) 1 it' acc env) R s') noE s) :
    codeAny (model prog w) A (.compStart (sc2 elt t0 i0 t1 i1 scope pos) 1 it acc env) R s := by
  refine codeAny_of_tree ?_
  show wpAny _ _ ((compStart (sc2 elt t0 i0 t1 i1 scope pos) 1 it acc env).onRaise (fun x => do noteFrame x env; standAt theWindowsPlace)) _ _ s
  refine wpAny_notedAt ?_
  unfold compStart
  show wpAny _ _ (ask >>= _) _ _ s
  refine wpAny_bind (wpAny_askSetting (wpAny_ite ?_))
  split
  · first
      | exact wpAny_pure (And.intro rfl h1)
      | exact wpAny_bind (wpAny_pure (wpAny_pure (And.intro rfl h1)))
  · refine wpAny_bind (wpAny_rule ?_)
    show wpAny _ _ (standAt i1.pos >>= _) _ _ s
    exact wpAny_bind (wpAny_standAt (wpAny_bind (thnF h2 fun it' s' h' => wpAny_pure (And.intro rfl h'))))
end
/-- {elt for tg in iter for tg1 in iter1}: elt a text; vs the block's names, vs1 those of the second target -/
def tSc2 (w : World) (wi : TI) (g : TG) (wi1 : TI) (g1 : TG) (te : TE) (vs vs1 : List Nat) : TE := fun σ H Q => wi σ H fun J H1 => ∀ D, H1 D = none →
  ∃ W : Nat → Nat → Hp → Prop, (∃ m, W 0 m (upd H1 D (SetSO w D (fun _ => false) 0))) ∧ ∀ i m G, W i m G → (J.stop i G ∧ Q (.ref D) G) ∨ (J.go i G ∧
    ∃ Nx : Hp → Prop, (∀ G', Nx G' → ∃ m', m' < m ∧ W (i + 1) m' G') ∧ ∀ x G', J.yld i G x G' → g x (wipe σ vs) G' fun σ2 H2 => wipe σ2 vs = wipe σ vs ∧ wi1 σ2 H2 fun J1 H4 =>
      ∃ W1 : Nat → Nat → Hp → Prop, (∃ m, W1 0 m H4) ∧ ∀ j k G, W1 j k G → (J1.stop j G ∧ Nx G) ∨ (J1.go j G ∧
        ∃ Nx1 : Hp → Prop, (∀ G', Nx1 G' → ∃ k', k' < k ∧ W1 (j + 1) k' G') ∧ ∀ x G', J1.yld j G x G' → g1 x (wipe σ2 vs1) G' fun σ3 H5 => wipe σ3 vs1 = wipe σ2 vs1 ∧ te σ3 H5 fun y H6 =>
          ∃ (c : Str) (S : Str → Bool) (n : Nat), y = .str c ∧ H6 D = some (SetSO w D S n) ∧ n + 1 < scanBound ∧ Nx1 (upd H6 D (SetSO w D (fun j => S j || decide (j = c)) (if S c = true then n else n + 1)))))
section
variable {X : Cx}
theorem pe_sc2 {elt tg iter tg1 iter1 : Expr} {scope : Scope} {own : List (Str × Nat)} {vs1 : List Nat} {pos : Pos} {wi wi1 : TI} {g g1 : TG} {te : TE} (hc : X.calm = true) (hN : X.N.Nodup) (hi : PI X tg iter wi) (ok : BlkOk X.N X.env.scope scope own) (hv : ∀ i ∈ vs1, i ∈ own.map (·.2))
    (hg : ∀ (s : Shared) (H : Hp) (C : Addr) (cl : List (Str × Addr)) (fp : List Addr), PG (X.blk s H scope (compEnvC scope cl C X.env) fp) tg g)
    (hi1 : ∀ (s : Shared) (H : Hp) (C : Addr) (cl : List (Str × Addr)) (fp : List Addr), PI (X.blk s H scope (compEnvC scope cl C X.env) fp) tg1 iter1 wi1)
    (hg1 : ∀ (s : Shared) (H : Hp) (C : Addr) (cl : List (Str × Addr)) (fp : List Addr), PG (X.blk s H scope (compEnvC scope cl C X.env) fp) tg1 g1)
    (he : ∀ (s : Shared) (H : Hp) (C : Addr) (cl : List (Str × Addr)) (fp : List Addr), PE (X.blk s H scope (compEnvC scope cl C X.env) fp) elt te)
    (hs : ∀ x, foldedSetIterable iter X.env x = pure x := by intro _; rfl) (hs1 : ∀ env x, foldedSetIterable iter1 env x = pure x := by intro _ _; rfl) :
    PE X (sc2 elt tg iter tg1 iter1 scope pos) (tSc2 X.w wi g wi1 g1 te (own.map (·.2)) vs1) := by
  refine ⟨fun pins s σ H Q I h => ?_⟩
  rw [PpSet.eval_SetComp]
  have hfree : ∀ y ∈ scope.names, y.2 = .free → ∃ c, X.env.cells.lookup y.1 = some c := fun y hy e => (ok.free y hy e).elim (fun k => I.ok.has _ (.inl k)) fun k => I.ok.has _ (.inr k)
  refine wpAny_comprehension_free rfl hs (closure_ok hfree) ok.kind (fun y hy e => by rw [ok.uniq y hy, e]) (thn (hi.run pins s σ H _ I h) fun xv s1 hx => thn hx fun itv s2 h2 => ?_)
  obtain ⟨it, fp, tn, J, H2, rfl, I2, T, t2, f2, q⟩ := h2
  refine PpSet.newSet_ok (newEnv_comp ?_)
  obtain ⟨W, ⟨m0, w0⟩, step⟩ := q s2.heap.objs.size (I2.hok.fresh (Nat.le_refl _))
  -- the new set
  have old3 : ∀ b o, s2.heap.get? b = some o → (s2.heap.push { cls := .type "set", dict := none, data := .set #[] 0 (.fresh 0 0 (!X.w.params.followText "set-order")) }).get? b = some o := fun b o e => Heap.get?_push_of_some _ e
  have I3 : Inv X pins σ (upd H2 s2.heap.objs.size (SetSO X.w s2.heap.objs.size (fun _ => false) 0)) { s2 with heap := s2.heap.push { cls := .type "set", dict := none, data := .set #[] 0 (.fresh 0 0 (!X.w.params.followText "set-order")) } } :=
    I2.laid (t' := s2.toks) old3 (Nat.le_refl _) (setSO_new (setS_new_at (Heap.get?_push_size _ rfl)))
  have small : ∀ b ∈ fp, b < s2.heap.objs.size := fun b hb => let ⟨o, e, _⟩ := T.obj _ _ t2 b hb; Heap.lt_size e
  have fp3 : ∀ b ∈ fp, FpOk X pins (upd H2 s2.heap.objs.size (SetSO X.w s2.heap.objs.size (fun _ => false) 0)) b ∧ b < (s2.heap.push { cls := .type "set", dict := none, data := .set #[] 0 (.fresh 0 0 (!X.w.params.followText "set-order")) }).objs.size := fun b hb => by
    refine ⟨⟨?_, (f2 b hb).2⟩, by rw [Heap.size_push]; exact Nat.lt_succ_of_lt (small b hb)⟩
    rw [upd_ne (Nat.ne_of_lt (small b hb))]
    exact (f2 b hb).1
  generalize hD : s2.heap.objs.size = D at w0 step I3 fp3 ⊢
  generalize hs3 : ({ s2 with heap := s2.heap.push { cls := .type "set", dict := none, data := .set #[] 0 (.fresh 0 0 (!X.w.params.followText "set-order")) } } : Shared) = s3 at I3 ⊢
  have e3 : s3.heap = s2.heap.push { cls := .type "set", dict := none, data := .set #[] 0 (.fresh 0 0 (!X.w.params.followText "set-order")) } := by rw [← hs3]
  rw [← e3] at fp3
  have t3 : tn 0 s3.heap := T.keep _ _ _ t2 fun b _ o e => by rw [e3]; exact old3 b o e
  generalize hH3 : upd H2 D (SetSO X.w D (fun _ => false) 0) = H3 at w0 I3 fp3
  have I4 := block_start I3 ok hN fp3
  have pg := hg s3 H3 s3.heap.objs.size (cellsFrom (s3.heap.objs.size + 1) scope.names (cloFrom X.env.cells scope.names [])) fp
  have pe := he s3 H3 s3.heap.objs.size (cellsFrom (s3.heap.objs.size + 1) scope.names (cloFrom X.env.cells scope.names [])) fp
  have pi1 := hi1 s3 H3 s3.heap.objs.size (cellsFrom (s3.heap.objs.size + 1) scope.names (cloFrom X.env.cells scope.names [])) fp
  have pg1 := hg1 s3 H3 s3.heap.objs.size (cellsFrom (s3.heap.objs.size + 1) scope.names (cloFrom X.env.cells scope.names [])) fp
  show codeAny _ _ (.compStart (sc2 elt tg iter tg1 iter1 scope pos) 0 (.ref it) (.ref D) (compEnvC scope (cellsFrom (s3.heap.objs.size + 1) scope.names (cloFrom X.env.cells scope.names [])) s3.heap.objs.size X.env)) (compPost (model X.prog X.w) X.A X.xe none _ (.ref D) s3.heap.objs.size) { s3 with heap := pushCells (s3.heap.push { cls := .type "dict", data := .dict #[] }) scope.names }
  generalize hce : compEnvC scope (cellsFrom (s3.heap.objs.size + 1) scope.names (cloFrom X.env.cells scope.names [])) s3.heap.objs.size X.env = ce at I4 pg pe pi1 pg1 ⊢
  have cL : ce.locals = s3.heap.objs.size := by rw [← hce]; rfl
  generalize hs4 : ({ s3 with heap := pushCells (s3.heap.push { cls := .type "dict", data := .dict #[] }) scope.names } : Shared) = s4 at I4 ⊢
  have t4 : tn 0 s4.heap := T.keep _ _ _ t3 fun b _ o e => by rw [← hs4]; exact pushCells_keeps _ _ _ _ (Heap.get?_push_of_some _ e)
  have inblk : ∀ (σ' : St) (G : Hp) (s' : Shared), Inv (X.blk s3 H3 scope ce fp) [] σ' G s' → (∀ b ∈ fp, G b = none) → ∀ b ∈ fp, FpOk (X.blk s3 H3 scope ce fp) [] G b := fun σ' G s' IG hn b hb =>
    ⟨hn b hb, (IG.ok.exf b hb).1, IG.ok.exfs b hb, .inl hb, fun x c e => (IG.ok.exf b hb).2 x c e, fun p hp => absurd (show p ∈ ([] : List (Addr × Obj)) ++ [] from hp) (by simp)⟩
  have loop : codeAny (model X.prog X.w) X.A (.compLoop (sc2 elt tg iter tg1 iter1 scope pos) 0 (.ref it) (.ref D) ce) (compPost (model X.prog X.w) X.A X.xe none (EP X pins σ Q) (.ref D) s3.heap.objs.size) s4 := by
    refine cl_run (X := X.blk s3 H3 scope ce fp) (W := W) (σ := wipe σ (own.map (·.2))) (Done := fun G => Q (.ref D) G) (fun _ _ z => z) rfl rfl rfl turn_out hc T pg inblk (fun i m G wG => ?_) (fun G s' IG d => ?_) I4 t4 (fun b hb => (fp3 b hb).1.1) w0
    · rcases step i m G wG with ⟨stop, d⟩ | ⟨go, Nx, hNx, st⟩
      · exact .inl ⟨stop, d⟩
      · refine .inr ⟨go, Nx, hNx, fun x G' y => ?_⟩
        refine ⟨_, st x G' y, fun σ2 H5 ⟨hw, hw1⟩ => ?_⟩
        intro more s5 I5
        refine wpAny_bind (thnF (pi1.run _ s5 σ2 H5 _ I5 hw1) fun xv s6 h6 => ?_)
        refine wpAny_bind (wpAny_standAt (wpAny_bind (wpAny_of_eq (hs1 ce xv) (wpAny_bind (wpAny_holding (thnF h6 fun itv s7 h7 => ?_))))))
        obtain ⟨it1, fp1, tn1, J1, H7, rfl, I7, T1, t7, f7, W1, ⟨m1, w1⟩, step1⟩ := h7
        have kn : Knows (wipe σ (own.map (·.2))) (wipe σ2 vs1) := Knows.sub hw hv
        have inner : codeAny (model X.prog X.w) X.A (.compLoop (sc2 elt tg iter tg1 iter1 scope pos) 1 (.ref it1) (.ref D) ce) (fun r s' => ∃ f, r = .ok f ∧ ∃ σ3 G3, Inv (X.blk s3 H3 scope ce fp) ([] ++ more) σ3 G3 s' ∧ Knows (wipe σ (own.map (·.2))) σ3 ∧ Nx G3) s7 := by
          refine cl_run (X := X.blk s3 H3 scope ce fp) (W := W1) (σ := wipe σ2 vs1) (Done := Nx) (fun _ _ z => z) rfl rfl rfl turn_in hc T1 pg1 (fun σ' G s' IG hn b hb => ⟨hn b hb, (f7 b hb).2⟩) (fun j k G wG => ?_) (fun G s' IG d => ⟨_, rfl, _, G, IG, kn, d⟩) (I7.weak (wipe_length _ _) fun j v e => (wipe_some e).1) t7 (fun b hb => (f7 b hb).1) w1
          rcases step1 j k G wG with ⟨stop, d⟩ | ⟨go, Nx1, hNx1, st1⟩
          · exact .inl ⟨stop, d⟩
          · refine .inr ⟨go, Nx1, hNx1, fun x G' y => ?_⟩
            refine ⟨_, st1 x G' y, fun σ3 H8 ⟨hw3, q3⟩ => ?_⟩
            intro more1 s8 I8
            refine wpAny_bind (thnF (pe.run _ s8 σ3 H8 _ I8 q3) fun v s9 ⟨yv, H9, I9, ry, c, S, n, ey, hS, room, nx⟩ => ?_)
            subst ey
            obtain ⟨tk, rfl⟩ := ry
            refine wpAny_bind (wpAny_standAt (wpAny_bind (addS_ok (X := X.blk s3 H3 scope ce fp) I9 hS room fun s10 I10 => ?_)))
            exact wpAny_pure ⟨σ3, _, I10, Knows.back hw3, nx⟩
        refine wpAny_bind (wpAny_runOwn ?_)
        rw [Around.mark_none]
        refine codeAny_mono (sc2_start inner (T1.self X.A 0 _ _ _ t7 inner)) fun r s' hr => ?_
        obtain ⟨f, rfl, fin⟩ := hr
        first
          | exact wpAny_pure fin
          | exact wpAny_pure (wpAny_pure fin)
          | exact wpAny_bind (wpAny_pure (wpAny_pure fin))
    · -- the block ends: back to the def
      have back : Inv X pins σ G s' := I3.call' (ch := fp) IG.os IG.base IG.hok IG.bare fun b hb => ⟨(fp3 b hb).1.2.2.2.1, (fp3 b hb).1.2.1, (fp3 b hb).1.2.2.2.2.1, (fp3 b hb).1.2.2.2.2.2⟩
      have gone : G s3.heap.objs.size = none := by
        have z : G ce.locals = none := IG.free
        rwa [cL] at z
      obtain ⟨mm, ns, _⟩ := IG.loc
      have ns : s'.heap.Ns ce.locals mm := ns
      rw [cL] at ns
      obtain ⟨f0, f1, f2', f3, f4, f5⟩ := I3.fpOk (Nat.le_refl _) gone
      exact ⟨mm, ns, fun h'' sb => ⟨.ref D, G, back.turned (t' := s'.toks) (fun b o hb e => (sb.2 b hb).trans e) f0 f1 f3 f4 f5, rfl, d⟩⟩
  exact PpSet.codeAny_compStart_set loop (T.self X.A 0 _ _ _ t4 loop)
end
end Eld
end L2

set_option Elab.async false
set_option linter.all false
set_option maxRecDepth 100000
set_option maxHeartbeats 4000000
/-! ## == and != by a text's own __eq__, both answers; tuples of such things -/
namespace L2
namespace Eld
open PySem PySem.Spec PyProof.Rows PySem.EldX
/-- == of x and y tells b -/
abbrev Eqd := V → V → Hp → Bool → Prop
def EqB (X : Cx) (n : Nat) (D : Eqd) : Prop :=
  ∀ (A : Around) (pins : List (Addr × Obj)) (s : Shared) (σ : St) (H : Hp) (x y : V) (u v : Value) (b : Bool), Sub X n A → Inv X pins σ H s → RelV x u → RelV y v → D x y H b →
    wpAny (model X.prog X.w) A (eqBool u v) (fun r s' => r = b ∧ Inv X pins σ H s') X.xe s
def RcB (X : Cx) (n : Nat) (op : CmpOp) (D : Eqd) : Prop :=
  ∀ (A : Around) (pins : List (Addr × Obj)) (s : Shared) (σ : St) (H : Hp) (x y : V) (u v : Value) (b : Bool), Sub X n A → Inv X pins σ H s → RelV x u → RelV y v → D x y H b →
    wpAny (model X.prog X.w) A (richCompare op u v) (fun r s' => r = .bool b ∧ Inv X pins σ H s') X.xe s
/-- the own __eq__ of the class at C, at f; no own __ne__ -/
structure OwnE (K : PySem.W.Frag) (C f : Addr) : Prop where
  eq : PySem.W.findIn K (.ref C) "__eq__" = some (some (.ref f))
  fn : PySem.W.isFn K (.ref f) = true
  ne : PySem.W.findIn K (.ref C) "__ne__" = some (some (.builtin "object.__ne__"))
  ob : PySem.W.subIn K (.ref C) (.type "object") = some true
/-- what the own __eq__ promises: R tells the answer -/
def spEqB (R : Addr → V → Hp → Bool → Prop) : Sp := fun vs H Q _ => ∃ (a : Addr) (y : V) (b : Bool), vs = [.ref a, y] ∧ R a y H b ∧ Q (.bl b) H
/-- x an instance of the class at C, y anything whose type is no kind of it -/
def DIn (K : PySem.W.Frag) (C : Addr) (R : Addr → V → Hp → Bool → Prop) : Eqd := fun x y H b => ∃ (a dx : Addr) (fs : List (Str × V)) (t : Value), x = .ref a ∧ H a = some (.ins C dx fs) ∧ TyX K H y t ∧ PySem.W.notFirst K C t = true ∧ R a y H b
/-- a slot of the library's, found at an own class, called by its name -/
theorem bound_slot {M : Model} {A : Around} {E : Value → Shared → Prop} {s : Shared} {K : PySem.W.Frag} {C x : Addr} {ox : Obj} {od : Option Obj} {name : Str} {id : String} {args : List Value} {Q : Option Value → Shared → Prop} (kin : K.In s.heap) (inst : PySem.W.InstAt s.heap x ox C od)
    (found : PySem.W.findIn K (.ref C) name = some (some (.builtin id))) (bnd : ∀ self, bindSpecial (.builtin id) self = pure (.builtin id, [self])) (h : wpAny M A (call (.builtin id) (.ref x :: args)) (fun v => Q (some v)) E s) :
    wpAny M A (callSpecialIfBound? (.ref x) name args) Q E s := by
  have last : wpAny M A (call (.builtin id) ([.ref x] ++ args) >>= fun v => pure (some v)) Q E s := wpAny_bind (wpAny_mono h (fun _ _ q => wpAny_pure q) fun _ _ e => e)
  simp only [callSpecialIfBound?, bindSpecialIfBound?]
  refine wpAny_holding (wpAny_bind (wpAny_bind (wpAny_bind (inst.type.here ((PySem.W.looks_findIn kin found).here ?_)))))
  simp only [bnd]
  refine wpAny_bind (wpAny_askSetting (wpAny_ite ?_))
  split
  · exact wpAny_bind (wpAny_pure (wpAny_pure last))
  · exact wpAny_tryCatch (wpAny_bind (wpAny_pure (wpAny_pure last)))
/-- a comparison that its left side answers, the right one's type being no kind of the left one's -/
theorem rc_try {M : Model} {A : Around} {E : Value → Shared → Prop} {s : Shared} {K : PySem.W.Frag} {C x : Addr} {ox : Obj} {od : Option Obj} {op : CmpOp} {b t : Value} {Q : Value → Shared → Prop} (hu : A.units < cLine) (kin : K.In s.heap) (inst : PySem.W.InstAt s.heap x ox C od)
    (ty : PySem.W.Looks M s.heap (typeOf b) t) (nf : PySem.W.notFirst K C t = true) (one : wpAny M A (tryCompare (.ref x) (cmpInfo op).2.1 b) (fun r s' => ∃ v, r = some v ∧ Q v s') E s) : wpAny M A (richCompare op (.ref x) b) Q E s := by
  unfold richCompare
  simp only [oneThing_ref]
  refine wpAny_holding (wpAny_bind (wpAny_cRoomFor hu (wpAny_bind (inst.type.here (wpAny_bind (ty.here ?_))))))
  by_cases same : t = .ref C
  · subst same
    rw [if_neg (by simp)]
    refine wpAny_bind (wpAny_pure ?_)
    rw [if_neg Bool.false_ne_true]
    refine wpAny_bind (wpAny_mono one (fun r s' z => ?_) fun _ _ e => e)
    obtain ⟨v, rfl, q⟩ := z
    exact wpAny_pure q
  · have no : PySem.W.subIn K t (.ref C) = some false := by
      rcases Bool.or_eq_true_iff.mp nf with e | e
      · exact absurd (beq_iff_eq.mp e) same
      · exact beq_iff_eq.mp e
    rw [if_pos (by simpa using fun e => same e.symm)]
    refine wpAny_bind ((PySem.W.looks_subIn kin no).here ?_)
    rw [if_neg Bool.false_ne_true]
    refine wpAny_bind (wpAny_mono one (fun r s' z => ?_) fun _ _ e => e)
    obtain ⟨v, rfl, q⟩ := z
    exact wpAny_pure q
section
variable {X : Cx} {n : Nat} {CX : CXT} {C f : Addr} {fd : FuncData} {ps : List Str} {R : Addr → V → Hp → Bool → Prop} {E : XK}
/-- the call of the own __eq__ -/
theorem own_call (F : FnOk X.prog X.w X.K X.mg X.base CX n f fd ps (spEqB R)) (hb : Binds X.K fd ps []) (hx : Passes CX X E) {A : Around} {pins : List (Addr × Obj)} {s : Shared} {σ : St} {H : Hp} {a : Addr} {y : V} {v : Value} {b : Bool} (sb : Sub X n A) (I : Inv X pins σ H s) (ry : RelV y v) (r : R a y H b) :
    wpAny (model X.prog X.w) A (call (.ref f) [.ref a, v]) (fun z s' => z = .bool b ∧ Inv X pins σ H s') X.xe s := by
  have sp : spEqB R [.ref a, y] H (fun z H' => z = .bl b ∧ H' = H) E := ⟨a, y, b, rfl, r, rfl, rfl⟩
  have e0 : Env0 X.prog X.w X.K X.mg X.base A X.stack s H := by
    have e := I.env0
    exact ⟨by rw [sb.fr]; exact e.frames, e.mod, e.bs, e.bsz, e.funs, e.frf, e.hok, e.bare⟩
  have hl := F.len _ _ _ _ sp
  have bd : BindsTo s fd ⟨[.ref a, v], []⟩ (ps.zip ([.ref a, v] ++ [])) := hb s [.ref a, v] I.kIn (by simpa using hl)
  rw [List.append_nil] at bd
  refine wpAny_call (codeAny_mono (F.run A X.stack s H ⟨[.ref a, v], []⟩ [.ref a, v] [.ref a, y] _ E sb.room e0 bd (.cons rfl (.cons ry .nil)) sp) fun r s' hq => ?_)
  rcases r with e | fl
  · exact hx pins σ H s e s' I hq
  · cases fl with
    | ret w =>
      obtain ⟨z, H', I', rz, ez, eH⟩ := I.after hq
      subst ez eH
      exact ⟨rz, I'⟩
    | next => exact hq.elim
    | brk => exact hq.elim
    | cont => exact hq.elim
theorem rcB_own (F : FnOk X.prog X.w X.K X.mg X.base CX n f fd ps (spEqB R)) (O : OwnE X.K C f) (hb : Binds X.K fd ps []) (hx : Passes CX X E) : RcB X n .Eq (DIn X.K C R) := by
  intro A pins s σ H x y u v b sb I rx ry d
  obtain ⟨a, dx, fs, t, rfl, ha, ty, nf, r⟩ := d
  cases rx
  obtain ⟨mA, J, _⟩ := ins_get I.hok ha
  obtain ⟨od, J, _⟩ := J.look
  obtain ⟨m, hF⟩ := I.fr
  obtain ⟨P, Z, p, _⟩ := kit_of I ry ty
  refine PySem.W.cmp_K (op := .Eq) (tb := t) sb.room.units0 hF I.ok.mod.kin J (Z.ty _ _ I.kIn p) nf O.eq O.fn ?_
  refine wpAny_mono (own_call F hb hx sb I ry r) (fun z s' hz => ?_) fun _ _ z => z
  obtain ⟨rfl, I'⟩ := hz
  exact ⟨rfl, I'⟩
/-- != asks the own __eq__ and turns its answer about -/
theorem rcB_ownNe (F : FnOk X.prog X.w X.K X.mg X.base CX n f fd ps (spEqB R)) (O : OwnE X.K C f) (hb : Binds X.K fd ps []) (hx : Passes CX X E) : RcB X (n + 1) .NotEq (fun x y H b => DIn X.K C R x y H (!b)) := by
  intro A pins s σ H x y u v b sb I rx ry d
  obtain ⟨a, dx, fs, t, rfl, ha, ty, nf, r⟩ := d
  cases rx
  obtain ⟨mA, J, _⟩ := ins_get I.hok ha
  obtain ⟨od, J, _⟩ := J.look
  obtain ⟨P, Z, p, _⟩ := kit_of I ry ty
  have kin := I.kIn
  have sub : PySem.W.Looks (model X.prog X.w) s.heap (isInstance (.ref a) (.type "object")) true := J.type.andThen (PySem.W.looks_subIn kin O.ob)
  refine rc_try (C := C) (t := t) sb.room.units0 kin J (Z.ty _ _ kin p) nf ?_
  unfold tryCompare
  refine wpAny_bind (bound_slot (id := "object.__ne__") kin J O.ne PySem.F.cmp_object.ne.bind (wpAny_call (codeAny_call_builtin PySem.F.cmp_object.ne.plain PySem.F.cmpEntry_ne (PySem.W.check_slot PySem.F.cmpKind_ne PySem.F.cmpSplit_ne sub (PySem.F.cmpArgs_ne _ _) ?_))))
  unfold Builtin.«object.__ne__»
  have ask := own_call (A := A.in1) F hb hx ⟨sb.room.in1, sb.fr⟩ I ry r
  refine wpAny_bind (wpAny_of_eq (a := ((Value.ref a : Value), [v])) (by first | rfl | (simp only [Builtin.slotArgs]; rfl)) ?_)
  refine wpAny_bind (wpAny_cRoomFor sb.room.in1.units0 (wpAny_bind (PySem.W.ifBound_K kin J O.eq O.fn (wpAny_mono ask (fun z s' hz => ?_) fun _ _ e => e))))
  obtain ⟨rfl, I'⟩ := hz
  refine wpAny_bind (wpAny_truthy_bool (wpAny_pure ?_))
  rw [Bool.not_not]
  exact wpAny_pure ⟨_, rfl, rfl, I'⟩
end
/-! ### as expressions, and inside a tuple -/
section
variable {X : Cx} {n : Nat} {D : Eqd} {op : CmpOp}
def rEqB (D : Eqd) : R2 := fun x y H Q => ∃ b, D x y H b ∧ Q (.bl b) H
theorem op_rcB (h : RcB X n op D) (hr : Room n X.A) (he : ∀ u v, compareOp op u v = richCompare op u v := by intro _ _; rfl) : OpR X (compareOp op) (rEqB D) := by
  intro pins s σ H x y u v Q I rx ry hq
  obtain ⟨b, d, q⟩ := hq
  rw [he]
  refine wpAny_mono (h X.A pins s σ H x y u v b ⟨hr, rfl⟩ I rx ry d) (fun r s' z => ?_) fun _ _ e => e
  obtain ⟨rfl, I'⟩ := z
  exact ⟨.bl b, H, I', rfl, q⟩
/-- inside a list or tuple: the very same object, or what D says -/
def DId (D : Eqd) : Eqd := fun x y H b => (∃ a c : Addr, x = .ref a ∧ y = .ref c ∧ ((a = c ∧ b = true) ∨ (a ≠ c ∧ D x y H b)))
theorem eqB_of (h : RcB X n .Eq D) : EqB X n (DId D) := by
  intro A pins s σ H x y u v b sb I rx ry d
  obtain ⟨a, c, rfl, rfl, d⟩ := d
  cases rx
  cases ry
  rcases d with ⟨rfl, rfl⟩ | ⟨ne, d⟩
  · exact SeqAt.EqAt.same (A := A) (s := s) (.ref a) X.prog X.w X.xe _ ⟨rfl, I⟩
  · refine GQ.eqBool_refG ne (wpAny_mono (h A pins s σ H (.ref a) (.ref c) _ _ b sb I rfl rfl d) (fun r s' z => ?_) fun _ _ e => e)
    exact ⟨b, z.1, rfl, z.2⟩
theorem eqB_flat : EqB X 0 (fun x y _ b => flatV x = true ∧ flatV y = true ∧ eqV x y = b) := by
  intro A pins s σ H x y u v b sb I rx ry d
  obtain ⟨fx, fy, e⟩ := d
  have q := eqAt_V (A := A) (s := s) rx ry fx fy
  rw [e] at q
  exact q X.prog X.w X.xe _ ⟨rfl, I⟩
/-- item by item, as far as it goes; then the lengths -/
inductive EqL (D : Eqd) (H : Hp) : List V → List V → Bool → Prop
  | nil : EqL D H [] [] true
  | left {y : V} {ys : List V} : EqL D H [] (y :: ys) false
  | right {x : V} {xs : List V} : EqL D H (x :: xs) [] false
  | go {x y : V} {xs ys : List V} {b : Bool} : D x y H true → EqL D H xs ys b → EqL D H (x :: xs) (y :: ys) b
  | stop {x y : V} {xs ys : List V} : D x y H false → EqL D H (x :: xs) (y :: ys) false
end
end Eld
end L2

set_option Elab.async false
set_option linter.all false
set_option maxRecDepth 100000
set_option maxHeartbeats 4000000
/-! ## == of two tuples whose items are equal, or not, by EqL -/
namespace L2
namespace Eld
open PySem PySem.Spec PyProof.Rows PySem.EldX PySem.SeqAt
open AutoSeq1 (wpAny_loadPart')
open MeetsSeq MeetsSeq2 MeetsSeq3 SeqRoads2
section
variable {X : Cx} {n : Nat} {D : Eqd}
theorem tup_walk (h : EqB X n D) {A : Around} (sb : Sub X (n + 1) A) {pins : List (Addr × Obj)} {σ : St} {H : Hp} {xs ys : List V} {b : Bool} {R : Result → Shared → Prop} {l m : Addr} {its its2 : List Value} {k k2 : Nat} {dd dd2 : Option Addr} {sl sl2 : Array (Option Value)} {s : Shared}
    (eq : EqL D H xs ys b) (rx : Vals xs its) (ry : Vals ys its2) (I : Inv X pins σ H s) (hl : s.heap.get? l = some { cls := .type "tuple", dict := dd, data := .seq its.toArray k, slots := sl }) (hm : s.heap.get? m = some { cls := .type "tuple", dict := dd2, data := .seq its2.toArray k2, slots := sl2 })
    (hE : ∀ e s', X.xe e s' → R (.error e) s') (fin : ∀ s', Inv X pins σ H s' → R (.ok (.ret (.bool b))) s') :
    wpAny (model X.prog X.w) A.in1 (Builtin.«tuple.__eq__» ⟨[.ref l, .ref m], []⟩) (GQ.FinOf X.prog X.w A R) (fun e s' => R (.error e) s') s := by
  have f2 := AutoSeq1.sub_tuple_tuple
  have I0 := I
  obtain ⟨hp, g, d, tk, os⟩ := s
  wp_walk using wpAny_loadPart' hl, wpAny_loadPart' hm, wpAny_forIn_list _ (fun rest a s' => a.1 = none ∧ ∃ (xs' ys' : List V) (us vs : List Value), rest = us.zip vs ∧ Vals xs' us ∧ Vals ys' vs ∧ EqL D H xs' ys' b ∧ its.length + vs.length = its2.length + us.length ∧ Inv X pins σ H s') _
  case turn =>
    rintro ⟨u, v⟩ rest a s' ⟨ha, xs', ys', us, vs, hz, r1, r2, e, len, J⟩
    cases r1 with
    | nil => cases hz
    | @cons x xs2 u1 us1 q1 t1 =>
      cases r2 with
      | nil => cases hz
      | @cons y ys2 v1 vs1 q2 t2 =>
        rw [List.zip_cons_cons] at hz
        injection hz with hz1 hz2
        injection hz1 with e1 e2
        subst e1 e2
        cases e with
        | go d1 d2 =>
          refine wpAny_bind (wpAny_mono (h A.in1 pins s' σ H x y u v true sb.in1 J q1 q2 d1) (fun r s2 z => ?_) fun e s2 z => hE e s2 z)
          obtain ⟨rfl, J2⟩ := z
          wp_walk
          exact ⟨rfl, _, _, us1, vs1, hz2, t1, t2, d2, by simp only [List.length_cons] at len; omega, J2⟩
        | stop d1 =>
          refine wpAny_bind (wpAny_mono (h A.in1 pins s' σ H x y u v false sb.in1 J q1 q2 d1) (fun r s2 z => ?_) fun e s2 z => hE e s2 z)
          obtain ⟨rfl, J2⟩ := z
          have q := fin s2 J2
          wp_walk
          exact q
  case fin =>
    rintro ⟨a1, a2⟩ s' ⟨ha, xs', ys', us, vs, hz, r1, r2, e, len, J⟩
    simp only at ha
    subst ha
    have q := fin s' J
    have hb : (its.toArray.size == its2.toArray.size) = b := by
      rw [List.size_toArray, List.size_toArray]
      cases r1 with
      | nil =>
        cases r2 with
        | nil =>
          cases e
          simp only [List.length_nil, Nat.add_zero] at len
          simp [len]
        | cons _ _ =>
          cases e
          simp only [List.length_nil, List.length_cons] at len
          simp only [beq_eq_false_iff_ne]
          omega
      | cons _ _ =>
        cases r2 with
        | nil =>
          cases e
          simp only [List.length_nil, List.length_cons] at len
          simp only [beq_eq_false_iff_ne]
          omega
        | cons _ _ => cases hz
    wp_walk
    show R (.ok (.ret (.bool (its.toArray.size == its2.toArray.size)))) s'
    rw [hb]
    exact q
  case h =>
    exact ⟨rfl, xs, ys, its, its2, by simp, rx, ry, eq, by omega, I0⟩
/-- == of tuples -/
def DTu (K : PySem.W.Frag) (D : Eqd) : Eqd := fun x y H b => ∃ (a c : Addr) (xs ys : List V), x = .ref a ∧ y = .ref c ∧ SqT K H a xs ∧ SqT K H c ys ∧ EqL D H xs ys b
theorem rcB_tup (h : EqB X n D) : RcB X (n + 1) .Eq (DTu X.K D) := by
  intro A pins s σ H x y u v b sb I rx ry d
  obtain ⟨a, c, xs, ys, rfl, rfl, ha, hc, eq⟩ := d
  cases rx
  cases ry
  obtain ⟨its, r1, ⟨⟨cls, dd, data, sl⟩, ho, k1, n1, k2⟩, z⟩ := I.tuple ha
  obtain ⟨its2, r2, ⟨⟨cls2, dd2, data2, sl2⟩, ho2, k3, n2, k4⟩, z2⟩ := I.tuple hc
  simp only at k1 k2 k3 k4
  subst k1 k2 k3 k4
  refine wpAny_richCompare_same_room (op := .Eq) ⟨_, ho, rfl⟩ ⟨_, ho2, rfl⟩ PySem.F.slot_tuple_eq (GQ.call_here PySem.F.slot_tuple_eq ⟨_, ho, rfl⟩ PySem.F.entry_tuple_eq (PySem.F.args_tuple_eq_2 _ _) ?_) sb.room.units0
  exact tup_walk h sb eq r1 r2 I ho ho2 (fun _ _ z => z) fun s' J => ⟨(fun z => nomatch z), rfl, J⟩
end
end Eld
end L2

set_option Elab.async false
set_option linter.all false
set_option maxRecDepth 100000
set_option maxHeartbeats 4000000
/-! ## len by an own __len__; a statement that is never reached -/
namespace L2
namespace Eld
open PySem PySem.Spec PyProof.Rows PySem.EldX
section
variable {X : Cx} {n : Nat} {CX : CXT} {C f : Addr} {fd : FuncData} {ps : List Str} {sp : Sp} {E : XK}
def rLenOwn (C : Addr) (sp : Sp) (E : XK) : List V → Hp → VK → Prop := fun xs H Q => ∃ (a dx : Addr) (fs : List (Str × V)), xs = [.ref a] ∧ H a = some (.ins C dx fs) ∧
  sp [.ref a] H (fun v H' => ∃ i : Int, v = .int i ∧ (0 ≤ i ∧ i < 2 ^ 63) ∧ Q (.int i) H') E
theorem call_lenOwn (hs : PySem.W.findIn X.K (.ref C) "__len__" = some (some (.ref f))) (hf : PySem.W.isFn X.K (.ref f) = true) (F : FnOk X.prog X.w X.K X.mg X.base CX n f fd ps sp) (hr : Room (n + 1) X.A) (hb : Binds X.K fd ps []) (hx : Passes CX X.nox E) :
    CallR X (.builtin "len") (rLenOwn C sp E) := by
  intro pins s σ H xs us Q I r h
  obtain ⟨a, dx, fs, rfl, ha, q⟩ := h
  rw [Vals.ref1 r]
  obtain ⟨mA, J, _⟩ := ins_get I.hok ha
  obtain ⟨od, J, _⟩ := J.look
  obtain ⟨m, hF⟩ := I.fr
  have hl := F.len _ _ _ _ q
  have bd := hb s [Value.ref a] I.kIn (by simpa using hl)
  rw [List.append_nil] at bd
  refine PySem.W.len_K hF I.ok.mod.kin J hs hf (wpAny_call (codeAny_mono (F.run X.A.in1 X.stack s H ⟨[.ref a], []⟩ [.ref a] [.ref a] _ E hr.in1 I.env0.in1 bd (.cons rfl .nil) q) fun r s' hq => ?_))
  rcases r with e | fl
  · exact (hx pins σ H s e s' (I.wish _) hq).elim
  · cases fl with
    | ret u =>
      obtain ⟨v, H', I', rv, i, rfl, hi, q'⟩ := I.after hq
      obtain ⟨t, rfl⟩ := rv
      exact ⟨hi, .int i, H', I'.tok _, ⟨_, rfl⟩, q'⟩
    | next => exact hq.elim
    | brk => exact hq.elim
    | cont => exact hq.elim
/-- a statement that no reading reaches -/
theorem ps_dead (st : Stmt) : PS X st (fun _ _ _ => False) := ⟨fun _ _ _ _ _ _ h => h.elim⟩
theorem pss_dead (sts : List Stmt) : PSs X sts (fun _ _ _ => False) := ⟨fun _ _ _ _ _ _ h => h.elim⟩
theorem pe_dead (e : Expr) : PE X e (fun _ _ _ => False) := ⟨fun _ _ _ _ _ _ h => h.elim⟩
end
end Eld
end L2

set_option Elab.async false
set_option linter.all false
set_option maxRecDepth 100000
set_option maxHeartbeats 4000000
/-! ## ascending lists of texts -/
namespace L2
namespace Eld
open PySem PySem.Spec PyProof.Rows PySem.EldX
theorem str_ext {a b : Str} (h : a.cps.toList = b.cps.toList) : a = b := by
  obtain ⟨⟨x⟩⟩ := a
  obtain ⟨⟨y⟩⟩ := b
  cases (show x = y from h)
  rfl
theorem list_lt_asymm' : ∀ {x y : List Nat}, x < y → ¬ y < x := fun h h' => absurd (List.lt_trans h h') (List.lt_irrefl _)
theorem list_eq_of_not_lt : ∀ (x y : List Nat), ¬ x < y → ¬ y < x → x = y
  | [], [], _, _ => rfl
  | [], b :: y, h, _ => absurd (List.nil_lt_cons b y) h
  | a :: x, [], _, h => absurd (List.nil_lt_cons a x) h
  | a :: x, b :: y, h1, h2 => by
    rcases Nat.lt_trichotomy a b with l | rfl | l
    · exact absurd (List.cons_lt_cons_iff.mpr (.inl l)) h1
    · rw [list_eq_of_not_lt x y (fun z => h1 (List.cons_lt_cons_iff.mpr (.inr ⟨rfl, z⟩))) fun z => h2 (List.cons_lt_cons_iff.mpr (.inr ⟨rfl, z⟩))]
    · exact absurd (List.cons_lt_cons_iff.mpr (.inl l)) h2
/-- not above -/
def LeS (a b : Str) : Prop := ltCps b.cps.toList a.cps.toList = false
theorem LeS.anti {a b : Str} (h : LeS a b) (h' : LeS b a) : a = b := by
  unfold LeS at h h'
  rw [ltCps_eq] at h h'
  exact str_ext (list_eq_of_not_lt _ _ (of_decide_eq_false h') (of_decide_eq_false h))
theorem LeS.trans {a b c : Str} (h : LeS a b) (h' : LeS b c) : LeS a c := by
  unfold LeS at h h' ⊢
  rw [ltCps_eq] at h h' ⊢
  have h := of_decide_eq_false h
  have h' := of_decide_eq_false h'
  refine decide_eq_false fun z => ?_
  have l1 : a.cps.toList ≤ b.cps.toList := h
  have l2 : b.cps.toList ≤ c.cps.toList := h'
  exact (List.le_trans l1 l2) z
theorem pairwise_of_sortedS : ∀ (l : List Str), sortedS l = true → l.Pairwise LeS
  | [], _ => .nil
  | x :: l, h => by
    have key : ∀ (x : Str) (l : List Str), risingS x l = true → (x :: l).Pairwise LeS := by
      intro x l
      induction l generalizing x with
      | nil => intro _; exact List.pairwise_singleton _ _
      | cons y l ih =>
        intro h
        have h : (!ltCps y.cps.toList x.cps.toList && risingS y l) = true := h
        rw [Bool.and_eq_true, Bool.not_eq_true'] at h
        have p := ih y h.2
        refine List.Pairwise.cons (fun z hz => ?_) p
        rcases List.mem_cons.mp hz with rfl | hz
        · exact h.1
        · exact LeS.trans h.1 ((List.pairwise_cons.mp p).1 z hz)
    exact key x l h
/-- an ascending list is told by its members -/
theorem sorted_eq : ∀ {xs ys : List Str}, xs.Perm ys → sortedS xs = true → sortedS ys = true → xs = ys := by
  intro xs ys p h h'
  exact p.eq_of_pairwise (le := LeS) (fun a b _ _ q q' => LeS.anti q q') (pairwise_of_sortedS xs h) (pairwise_of_sortedS ys h')
theorem sorted_mem_eq {xs ys : List Str} (n : xs.Nodup) (n' : ys.Nodup) (m : ∀ x, x ∈ xs ↔ x ∈ ys) (h : sortedS xs = true) (h' : sortedS ys = true) : xs = ys :=
  sorted_eq ((List.perm_ext_iff_of_nodup n n').mpr m) h h'
end Eld
end L2

set_option Elab.async false
set_option linter.all false
set_option maxRecDepth 100000
set_option maxHeartbeats 4000000
/-! ## list(reversed(l)), d.update(e), y = {..} -/
namespace RT
open PySem PySem.Spec PyProof.Rows PySem.W
section
variable {prog : Program} {w : World} {A : Around} {E : Value → Shared → Prop} {s : Shared}
theorem call_list_rev {it l : Addr} {items : Array Value} {Q : Value → Shared → Prop} (hh : A.handled = none) (hit : s.heap.IsRevIter it l ((items.size : Int) - 1)) (hl : s.heap.IsList l items) (hne : l ≠ it) (hn : items.size ≤ sizeLine)
    (hQ : ∀ (h' : Heap) (tk : Nat) (acc : Array Value) c', (∀ b o, b ≠ it → s.heap.get? b = some o → h'.get? b = some o) → h'.get? s.heap.objs.size = some { cls := .type "list", dict := none, data := .seq acc c', slots := #[] } → ItemsOf (fun i v => items[items.size - 1 - i]? = some v) acc items.size → Q (.ref s.heap.objs.size) { s with heap := h', toks := tk }) :
    wpAny (model prog w) A (call (.type "list") [.ref it]) Q E s := by
  refine callType_codes (Q₁ := fun obj s₁ => obj = .ref s.heap.objs.size ∧ s₁ = { s with heap := s.heap.push { cls := .type "list", data := .seq #[] } }) PySem.F.called_list (PySem.F.typeCall_list_1 _) PySem.F.entry_list_init
    (code_list_new _ ⟨rfl, rfl⟩) fun obj s₁ h₁ => ?_
  obtain ⟨rfl, rfl⟩ := h₁
  have hS : (s.heap.push { cls := .type "list", data := .seq #[] }).get? s.heap.objs.size = some { cls := .type "list", data := .seq #[] } := Heap.get?_push_size _ rfl
  obtain ⟨oi, hoi, _⟩ := id hit
  obtain ⟨ol, hol, _⟩ := id hl
  have hSi : s.heap.objs.size ≠ it := Nat.ne_of_gt (Heap.lt_size hoi)
  have hSl : s.heap.objs.size ≠ l := Nat.ne_of_gt (Heap.lt_size hol)
  have hSf : s.heap.objs.size ∉ [it, l] := by simp only [List.mem_cons, List.not_mem_nil, or_false, not_or]; exact ⟨hSi, hSl⟩
  have hh1 : A.in1.in1.handled = none := hh
  have W := (Walks.listRev (prog := prog) (w := w) (A := A.in1.in1) hh1 it l hne items).toS
  refine ⟨⟨_, hS, rfl⟩, PySem.F.args_list_init_2 _ _, ?_⟩
  show wpAny _ _ (do let old ← Builtin.List.listItems (.ref s.heap.objs.size); Builtin.List.listUpdate (.ref s.heap.objs.size) (fun _ => #[]); letGo old.toList.reverse; Builtin.List.listExtendWith (.ref s.heap.objs.size) (.ref it) .none) _ _ _
  refine wpAny_bind ?_
  unfold Builtin.List.listItems
  refine wpAny_bind (wpAny_seqItems hS rfl (wpAny_pure ?_))
  show wpAny _ _ (updateSeq s.heap.objs.size (fun _ => #[]) >>= fun _ => letGo (#[] : Array Value).toList.reverse >>= fun _ => Builtin.List.listExtendWith (.ref s.heap.objs.size) (.ref it) .none) _ _ _
  refine wpAny_bind (wpAny_updateSeq hS rfl ?_)
  have hS₁ := Heap.get?_update_self (Obj.mapSeq (fun _ => (#[] : Array Value))) hS rfl
  have oth : ∀ b o, b ≠ s.heap.objs.size → s.heap.get? b = some o → ((s.heap.push { cls := .type "list", data := .seq #[] }).update s.heap.objs.size (Obj.mapSeq (fun _ => (#[] : Array Value)))).get? b = some o :=
    fun b o hb e => (Heap.get?_update_other _ _ (Ne.symm hb)).trans (Heap.get?_push_of_some _ e)
  refine wpAny_bind (wpAny_letGo ?_)
  generalize hG : (s.heap.push { cls := .type "list", data := .seq #[] }).update s.heap.objs.size (Obj.mapSeq (fun _ => (#[] : Array Value))) = G at hS₁ oth ⊢
  have hit1 : G.IsRevIter it l ((items.size : Int) - 1) := hit.at fun o e => oth _ o (Ne.symm hSi) e
  have hl1 : G.IsList l items := hl.at fun o e => oth _ o (Ne.symm hSl) e
  have hT : ({ s with heap := G } : Shared).TypeIs (.ref it) "list_reverseiterator" := Heap.IsRevIter.typeIs (s := { s with heap := G }) hit1
  have h1 : Builtin.List.listSameRef (.ref s.heap.objs.size) (.ref it) = false := by simp [Builtin.List.listSameRef, hSi]
  unfold Builtin.List.listExtendWith
  refine wpAny_bind (wpAny_typeOf hT ?_)
  rw [if_neg (by rw [h1]; decide)]
  refine wpAny_bind (wpAny_pyIter_revIter (s := { s with heap := G }) hit1 ?_)
  refine wpAny_bind (wpAny_holding ?_)
  unfold Builtin.List.listLengthHint
  refine wpAny_bind (wpAny_specialOf hT nolen_lri ?_)
  show wpAny _ _ (specialOf (Value.ref it) (Str.ofString "__length_hint__") >>= _) _ _ _
  refine wpAny_bind (wpAny_specialOf hT hint_lri ?_)
  generalize hid : ("list_reverseiterator.__length_hint__" : String) = id0
  wp_delta
  rw [show splitId id0 = some ("list_reverseiterator", "__length_hint__") from by subst hid; decide +kernel]
  subst hid
  refine wpAny_bind (wpAny_isInstance (b := true) hT (by rw [isSubtype_type]; kernel_rfl) ?_)
  refine wpAny_pure ?_
  rw [if_neg (by decide)]
  have e0 : ((items.size : Nat) : Int) - 1 - ((0 : Nat) : Int) = (items.size : Int) - 1 := by omega
  refine wpAny_pure ⟨plainId_quiet F.plain_extend_loop _, codeAny_extend_loopS W hn _ hSf _ items.size 0 _ _ _ rfl (Nat.zero_le _) ⟨Nat.zero_le _, by rw [e0]; exact hit1, hl1⟩ hS₁ (ItemsOf.nil _) fun s' acc' c' hm hS' hacc => ?_⟩
  rw [Moved.eq_with hm]
  refine ⟨rfl, hQ s'.heap s'.toks acc' c' (fun b o hb e => hm.heap b o (fun hmem => ?_) (oth b o (Nat.ne_of_lt (Heap.lt_size e)) e)) hS' hacc⟩
  rcases List.mem_cons.mp hmem with e' | hmem
  · exact absurd (Heap.lt_size e) (by rw [e']; exact Nat.lt_irrefl _)
  · exact hb (List.mem_singleton.mp hmem)
end
end RT
namespace L2
open PySem PySem.Spec PyProof.Rows
/-- list(reversed(x)), x a list: a new list -/
def tListRev (K : PySem.W.Frag) (te : TE) : TE := fun σ H Q => te σ H fun v H1 => ∃ (a : Addr) (xs : List V), v = .ref a ∧ SqL K H1 a xs ∧ ∀ q, H1 q = none → Q (.ref q) (upd H1 q (.lst xs.reverse))
theorem pe_listRev {X : Cx} {e : Expr} {te : TE} {p p2 pos pos2 : Pos} (hc : X.calm = true) (hg : Gl X "list") (hm : X.mg "list" = none) (hg2 : Gl X "reversed") (hm2 : X.mg "reversed" = none) (he : PE X e te)
    (hs : starEach [e] X.env = (false, eval e X.env) :: starEach [] X.env := by rfl)
    (hs2 : starEach [.Call (.Name "reversed" p2) [e] [] pos2] X.env = (false, eval (.Call (.Name "reversed" p2) [e] [] pos2) X.env) :: starEach [] X.env := by rfl) :
    PE X (.Call (.Name "list" p) [.Call (.Name "reversed" p2) [e] [] pos2] [] pos) (tListRev X.K te) := by
  refine ⟨fun pins s σ H Q I h => ?_⟩
  refine Call_ (ld_blt I hg hm boot_list (PyProof.Rows.callWith_type1 (args_cons (Call_ (ld_blt I hg2 hm2 PyProof.Rows.boot_reversed (PyProof.Rows.callWith_type1 (args_cons (thn (he.run pins s σ H _ I h) fun u s1 ⟨v, H1, I1, r1, q1⟩ => args_nil ?_) hs) hs rfl))) hs2) hs2 rfl))
  obtain ⟨a, xs, ev, hq, q⟩ := q1
  subst ev
  obtain rfl : u = Value.ref a := r1
  obtain ⟨its, rv, p', hz⟩ := I1.list hq
  refine call_reversed_list p'.isList (args_nil ?_)
  have k0 : ∀ b o, s1.heap.get? b = some o → (s1.heap.push (revObj a ((its.toArray.size : Int) - 1))).get? b = some o := fun b o e => Heap.get?_push_of_some _ e
  have I2 : Inv X pins σ H1 { s1 with heap := s1.heap.push (revObj a ((its.toArray.size : Int) - 1)) } := I1.kept (t' := s1.toks) k0
  obtain ⟨f0, f1, f2, f3, f4, f5⟩ := I1.fpOk (H' := H1) (b := s1.heap.objs.size) (Nat.le_refl _) (I1.hok.fresh (Nat.le_refl _))
  have hl := p'.isList
  obtain ⟨ol, hol, _⟩ := id hl
  have hne : a ≠ s1.heap.objs.size := Nat.ne_of_lt (Heap.lt_size hol)
  have hn : its.toArray.size ≤ sizeLine := by rw [List.size_toArray, ← rv.length]; exact hz
  refine RT.call_list_rev (s := { s1 with heap := s1.heap.push (revObj a ((its.toArray.size : Int) - 1)) }) (I1.ok.hd hc) ⟨_, Heap.get?_push_size _ rfl, rfl, rfl⟩ (hl.push _) hne hn fun h' tk acc c' hk hD hi => ?_
  have hD' : h'.get? (s1.heap.push (revObj a ((its.toArray.size : Int) - 1))).objs.size = some { cls := .type "list", dict := none, data := .seq acc c', slots := #[] } := hD
  have ok : ObjOk X.prog X.w (upd H1 (s1.heap.push (revObj a ((its.toArray.size : Int) - 1))).objs.size (.lst xs.reverse)) h' (s1.heap.push (revObj a ((its.toArray.size : Int) - 1))).objs.size (.lst xs.reverse) :=
    ⟨by rw [List.length_reverse]; exact hz, acc.toList, c', RT.vals_rev rv hi, by rw [Array.toArray_toList]; exact hD'⟩
  have le : s1.heap.objs.size ≤ (s1.heap.push (revObj a ((its.toArray.size : Int) - 1))).objs.size := by
    rw [Heap.size_push]
    exact Nat.le_succ _
  exact ⟨.ref _, upd H1 _ (.lst xs.reverse), I1.laid (t' := tk) (fun b o e => hk b o (Nat.ne_of_lt (Heap.lt_size e)) (Heap.get?_push_of_some _ e)) le ok, rfl, q _ (I1.hok.fresh le)⟩
/-! ### d.update(e) -/
def rDUpd : V → List V → Hp → VK → Prop := fun x vs H Q => ∃ (a b : Addr) (ks ls : List (Key × V)), x = .ref a ∧ vs = [.ref b] ∧ H a = some (.dK ks) ∧ H b = some (.dK ls) ∧ a ≠ b ∧ ks.length + ls.length ≤ sizeLine ∧ Q .non (upd H a (.dK (mergeK ks ls)))
theorem mt_dupdate {X : Cx} : MtR X "dict.update" rDUpd := by
  intro pins s σ H x vs v us Q I rx rv h
  obtain ⟨a, b, ks, ls, ex, ev, ea, eb, ne, hz, q⟩ := h
  subst ex
  subst ev
  obtain rfl : v = Value.ref a := rx
  obtain ⟨u, eu, ru⟩ := vals1 rv
  subst eu
  obtain rfl : u = Value.ref b := ru
  obtain ⟨z1, hd1, vs1, rel1, dd1⟩ := dk_of I.hok ea
  obtain ⟨z2, hd2, vs2, rel2, dd2⟩ := dk_of I.hok eb
  refine call_meetsIn PySem.F.slot_dict_update dd1.typeIs PySem.F.entry_dict_update (PySem.F.args_dict_update_2 _ _) (meets_dict_update (mixKind X.prog X.w) a b ne hd2)
    ⟨vs1, vs2, dd1, dd2, (by rw [← rel1.length, ← rel2.length]; exact hz), fun h' dm _ hs => ?_⟩
  have he : ∃ q, h'.get? a = some q := let ⟨q, _, _, hq, _⟩ := dm; ⟨q, hq⟩
  have hl : (mergeK ks ls).length ≤ sizeLine := Nat.le_trans (length_mergeK ls ks) hz
  exact ⟨.non, _, d_write I (by rw [ea]; exact True.intro) hs he (dk_new hl hd1 (KV.merge rel2 rel1) dm), rfl, q⟩
/-! ### y = {k: v for ..}, the name a local -/
theorem ps_setDc {X : Cx} {i : Nat} {y : Str} {py : Pos} {kx vx tg iter : Expr} {ifs : List Expr} {scope : Scope} {own : List (Str × Nat)} {pos spos : Pos} {wi : TI} {g : TG} {tt : TT} {tk tv : TE} (hc : X.calm = true) (hN : X.N.Nodup) (hy : X.N[i]? = some y) (hyl : X.env.scope.names.lookup y = some .local)
    (hsw : swapsWith (.DictComp kx vx [⟨tg, iter, ifs, 0⟩] scope pos) (some (.Name y py)) spos.line X.env = pure true) (hi : PI X tg iter wi) (ok : BlkOk X.N X.env.scope scope own)
    (hg : ∀ (s : Shared) (H : Hp) (C : Addr) (cl : List (Str × Addr)) (fp : List Addr), PG (X.blk s H scope (compEnvC scope cl C X.env) fp) tg g) (ht : ∀ (s : Shared) (H : Hp) (C : Addr) (cl : List (Str × Addr)) (fp : List Addr), PTs (X.blk s H scope (compEnvC scope cl C X.env) fp) ifs tt)
    (hk : ∀ (s : Shared) (H : Hp) (C : Addr) (cl : List (Str × Addr)) (fp : List Addr), PE (X.blk s H scope (compEnvC scope cl C X.env) fp) kx tk)
    (he : ∀ (s : Shared) (H : Hp) (C : Addr) (cl : List (Str × Addr)) (fp : List Addr), PE (X.blk s H scope (compEnvC scope cl C X.env) fp) vx tv) (hs : ∀ x, foldedSetIterable iter X.env x = pure x := by intro _; rfl) :
    PS X (.Assign [.Name y py] (.DictComp kx vx [⟨tg, iter, ifs, 0⟩] scope pos) spos) (tAsg (tDc wi g tt tk tv (own.map (·.2))) (gName i)) := by
  refine ⟨fun pins s σ H D I h => ?_⟩
  rw [exec_Assign_Name_used _ _ _ _ hsw]
  refine wpAny_bind (wpAny_standAt (wpAny_bind ?_))
  show wpAny _ X.A (do let _ ← comprehension (.DictComp kx vx [⟨tg, iter, ifs, 0⟩] scope pos) scope X.env (firstIterPos [⟨tg, iter, ifs, 0⟩] pos) newDict false (eval iter X.env) (some (assign (.Name y py) X.env))) _ _ s
  have h : tDc wi g tt tk tv (own.map (·.2)) σ H (fun x H1 => gName i x σ H1 D.nx) := h
  refine wpAny_bind (thn (dc_core (Qf := fun _ s' => SP X pins D .next s') hc hN I hi ok hg ht hk he hs h fun L C s' m H' I' q hn f => ?_) fun _ s' hq => wpAny_pure (wpAny_pure hq))
  show wpAny _ _ (assign (.Name y py) X.env (.ref L)) _ _ _
  refine wpAny_assign_Name (store_ok2 (v := V.ref L) I' hN hy (.inl hyl) rfl (fun s2 I2 ⟨a, sb, ha⟩ => ?_) (.inr hyl))
  obtain ⟨f0, f1, f2, f3, f4, f5⟩ := f
  have haC : C ≠ a := by
    rcases ha with z | z
    · rw [z]; exact f1
    · exact fun e => f4 y a z e.symm
  refine ⟨m, hn.sameBut sb haC, fun h3 sb3 => ?_⟩
  exact ⟨_, H', I2.turned (t' := s2.toks) (fun b o hb e => (sb3.2 b hb).trans e) f0 f1 f3 f4 f5, q⟩
theorem sw_trueD {kx vx : Expr} {gs : List Comprehension} {scope : Scope} {pos py : Pos} {y : Str} {l : Nat} {env : Env} (hk : env.scope.kind = .function) (hy : env.scope.names.lookup y = some .local) (hl : (py.line == pos.line) = true)
    (ha : (scope.names.any fun (n, k) => n == y && (k == .local || k == .cell)) = false) : swapsWith (.DictComp kx vx gs scope pos) (some (.Name y py)) l env = pure true := by
  have ky : env.kindOf y = some .local := hy
  have hb : env.blockKind = .function := by unfold Env.blockKind; rw [hk]; rfl
  unfold swapsWith
  simp only [hb, ky, ha, Expr.pos, hl]
  rfl
end L2

set_option Elab.async false
set_option linter.all false
set_option maxRecDepth 100000
set_option maxHeartbeats 4000000
/-! ## the texts -/
namespace L2
namespace Eld
open PySem PySem.Spec PyProof.Rows PySem.EldX
def topS (i : Nat) : Stmt := PySem.Challenge.pw_elderlink_k11_whole_rank_among_givings.main.body.getD i (.Pass ⟨0, 0, 0, 0⟩)
abbrev sWhole : Stmt := topS 2
abbrev NWhole : List Str := ["value"]
theorem scWhole : FnScope NWhole ["value"] (defScope sWhole) := ⟨rfl, rfl, rfl, by decide +kernel, rfl, by decide +kernel, by decide +kernel⟩
abbrev sCount : Stmt := topS 3
abbrev NCount : List Str := ["value"]
theorem scCount : FnScope NCount ["value"] (defScope sCount) := ⟨rfl, rfl, rfl, by decide +kernel, rfl, by decide +kernel, by decide +kernel⟩
abbrev sIsName : Stmt := topS 4
abbrev NIsName : List Str := ["value", "sign"]
theorem scIsName : FnScope NIsName ["value"] (defScope sIsName) := ⟨rfl, rfl, rfl, by decide +kernel, rfl, by decide +kernel, by decide +kernel⟩
abbrev sUnlike : Stmt := topS 5
abbrev NUnlike : List Str := ["names"]
theorem scUnlike : FnScope NUnlike ["names"] (defScope sUnlike) := ⟨rfl, rfl, rfl, by decide +kernel, rfl, by decide +kernel, by decide +kernel⟩
abbrev sAreNames : Stmt := topS 6
abbrev NAreNames : List Str := ["value", "name"]
theorem scAreNames : FnScope NAreNames ["value"] (defScope sAreNames) := ⟨rfl, rfl, rfl, by decide +kernel, rfl, by decide +kernel, by decide +kernel⟩
abbrev sIsStock : Stmt := topS 7
abbrev NIsStock : List Str := ["value", "kind", "count"]
theorem scIsStock : FnScope NIsStock ["value"] (defScope sIsStock) := ⟨rfl, rfl, rfl, by decide +kernel, rfl, by decide +kernel, by decide +kernel⟩
abbrev sArePairs : Stmt := topS 8
abbrev NArePairs : List Str := ["value", "pair", "name", "_"]
theorem scArePairs : FnScope NArePairs ["value"] (defScope sArePairs) := ⟨rfl, rfl, rfl, by decide +kernel, rfl, by decide +kernel, by decide +kernel⟩
abbrev sIsPair : Stmt := topS 9
abbrev NIsPair : List Str := ["value"]
theorem scIsPair : FnScope NIsPair ["value"] (defScope sIsPair) := ⟨rfl, rfl, rfl, by decide +kernel, rfl, by decide +kernel, by decide +kernel⟩
abbrev sAInit : Stmt := inClass (topS 18) 0
abbrev NAInit : List Str := ["self", "name", "fits", "most"]
theorem scAInit : FnScope NAInit ["self", "name", "fits", "most"] (defScope sAInit) := ⟨rfl, rfl, rfl, by decide +kernel, rfl, by decide +kernel, by decide +kernel⟩
abbrev sAName : Stmt := inClass (topS 18) 1
abbrev NAName : List Str := ["self"]
theorem scAName : FnScope NAName ["self"] (defScope sAName) := ⟨rfl, rfl, rfl, by decide +kernel, rfl, by decide +kernel, by decide +kernel⟩
abbrev sAFits : Stmt := inClass (topS 18) 2
abbrev NAFits : List Str := ["self"]
theorem scAFits : FnScope NAFits ["self"] (defScope sAFits) := ⟨rfl, rfl, rfl, by decide +kernel, rfl, by decide +kernel, by decide +kernel⟩
abbrev sAMost : Stmt := inClass (topS 18) 3
abbrev NAMost : List Str := ["self"]
theorem scAMost : FnScope NAMost ["self"] (defScope sAMost) := ⟨rfl, rfl, rfl, by decide +kernel, rfl, by decide +kernel, by decide +kernel⟩
abbrev sAEq : Stmt := inClass (topS 18) 4
abbrev NAEq : List Str := ["self", "other"]
theorem scAEq : FnScope NAEq ["self", "other"] (defScope sAEq) := ⟨rfl, rfl, rfl, by decide +kernel, rfl, by decide +kernel, by decide +kernel⟩
abbrev sLInit : Stmt := inClass (topS 19) 0
abbrev NLInit : List Str := ["self", "askers"]
theorem scLInit : FnScope NLInit ["self", "askers"] (defScope sLInit) := ⟨rfl, rfl, rfl, by decide +kernel, rfl, by decide +kernel, by decide +kernel⟩
abbrev sLAskers : Stmt := inClass (topS 19) 1
abbrev NLAskers : List Str := ["self"]
theorem scLAskers : FnScope NLAskers ["self"] (defScope sLAskers) := ⟨rfl, rfl, rfl, by decide +kernel, rfl, by decide +kernel, by decide +kernel⟩
abbrev sLNames : Stmt := inClass (topS 19) 2
abbrev NLNames : List Str := ["self", "asker"]
theorem scLNames : FnScope NLNames ["self"] (defScope sLNames) := ⟨rfl, rfl, rfl, by decide +kernel, rfl, by decide +kernel, by decide +kernel⟩
abbrev sLLen : Stmt := inClass (topS 19) 3
abbrev NLLen : List Str := ["self"]
theorem scLLen : FnScope NLLen ["self"] (defScope sLLen) := ⟨rfl, rfl, rfl, by decide +kernel, rfl, by decide +kernel, by decide +kernel⟩
abbrev sLEq : Stmt := inClass (topS 19) 4
abbrev NLEq : List Str := ["self", "other"]
theorem scLEq : FnScope NLEq ["self", "other"] (defScope sLEq) := ⟨rfl, rfl, rfl, by decide +kernel, rfl, by decide +kernel, by decide +kernel⟩
abbrev sLKinds : Stmt := inClass (topS 19) 5
abbrev NLKinds : List Str := ["self", "asker", "kind"]
theorem scLKinds : FnScope NLKinds ["self"] (defScope sLKinds) := ⟨rfl, rfl, rfl, by decide +kernel, rfl, by decide +kernel, by decide +kernel⟩
abbrev sLAsk : Stmt := inClass (topS 19) 6
abbrev NLAsk : List Str := ["self", "name"]
theorem scLAsk : FnScope NLAsk ["self", "name"] (defScope sLAsk) := ⟨rfl, rfl, rfl, by decide +kernel, rfl, by decide +kernel, by decide +kernel⟩
abbrev sLPlace : Stmt := inClass (topS 19) 7
abbrev NLPlace : List Str := ["self", "name", "names"]
theorem scLPlace : FnScope NLPlace ["self", "name"] (defScope sLPlace) := ⟨rfl, rfl, rfl, by decide +kernel, rfl, by decide +kernel, by decide +kernel⟩
abbrev sLWithout : Stmt := inClass (topS 19) 8
abbrev NLWithout : List Str := ["self", "name"]
theorem scLWithout : FnScope NLWithout ["self", "name"] (defScope sLWithout) := ⟨rfl, rfl, rfl, by decide +kernel, rfl, by decide +kernel, by decide +kernel⟩
abbrev sLPutIn : Stmt := inClass (topS 19) 9
abbrev NLPutIn : List Str := ["self", "asker", "place"]
theorem scLPutIn : FnScope NLPutIn ["self", "asker", "place"] (defScope sLPutIn) := ⟨rfl, rfl, rfl, by decide +kernel, rfl, by decide +kernel, by decide +kernel⟩
abbrev sLMoved : Stmt := inClass (topS 19) 10
abbrev NLMoved : List Str := ["self", "name", "place"]
theorem scLMoved : FnScope NLMoved ["self", "name", "place"] (defScope sLMoved) := ⟨rfl, rfl, rfl, by decide +kernel, rfl, by decide +kernel, by decide +kernel⟩
abbrev sLChanged : Stmt := inClass (topS 19) 11
abbrev NLChanged : List Str := ["self", "asker"]
theorem scLChanged : FnScope NLChanged ["self", "asker"] (defScope sLChanged) := ⟨rfl, rfl, rfl, by decide +kernel, rfl, by decide +kernel, by decide +kernel⟩
abbrev sLOrdered : Stmt := inClass (topS 19) 12
abbrev NLOrdered : List Str := ["self", "names"]
theorem scLOrdered : FnScope NLOrdered ["self", "names"] (defScope sLOrdered) := ⟨rfl, rfl, rfl, by decide +kernel, rfl, by decide +kernel, by decide +kernel⟩
abbrev sNeedLine : Stmt := topS 20
abbrev NNeedLine : List Str := ["value"]
theorem scNeedLine : FnScope NNeedLine ["value"] (defScope sNeedLine) := ⟨rfl, rfl, rfl, by decide +kernel, rfl, by decide +kernel, by decide +kernel⟩
abbrev sNeedStock : Stmt := topS 21
abbrev NNeedStock : List Str := ["value"]
theorem scNeedStock : FnScope NNeedStock ["value"] (defScope sNeedStock) := ⟨rfl, rfl, rfl, by decide +kernel, rfl, by decide +kernel, by decide +kernel⟩
abbrev sAreAskers : Stmt := topS 22
abbrev NAreAskers : List Str := ["value", "asker"]
theorem scAreAskers : FnScope NAreAskers ["value"] (defScope sAreAskers) := ⟨rfl, rfl, rfl, by decide +kernel, rfl, by decide +kernel, by decide +kernel⟩
abbrev sDeal : Stmt := topS 26
abbrev NDeal : List Str := ["line", "stock"]
theorem scDeal : FnScope NDeal ["line", "stock"] (defScope sDeal) := ⟨rfl, rfl, rfl, by decide +kernel, rfl, by decide +kernel, by decide +kernel⟩
abbrev sSpread : Stmt := topS 27
abbrev NSpread : List Str := ["line", "stock", "value", "takers", "room", "found", "asker", "_", "count", "name", "fits", "kind", "entry"]
theorem scSpread : FnScope NSpread ["line", "stock", "value"] (defScope sSpread) := ⟨rfl, rfl, rfl, by decide +kernel, rfl, by decide +kernel, by decide +kernel⟩
abbrev sNeedCounts : Stmt := topS 28
abbrev NNeedCounts : List Str := ["line", "stock", "value"]
theorem scNeedCounts : FnScope NNeedCounts ["line", "stock", "value"] (defScope sNeedCounts) := ⟨rfl, rfl, rfl, by decide +kernel, rfl, by decide +kernel, by decide +kernel⟩
abbrev sAreCounts : Stmt := topS 29
abbrev NAreCounts : List Str := ["line", "value", "name", "_", "asker", "count"]
theorem scAreCounts : FnScope NAreCounts ["line", "value"] (defScope sAreCounts) := ⟨rfl, rfl, rfl, by decide +kernel, rfl, by decide +kernel, by decide +kernel⟩
abbrev sDealt : Stmt := topS 30
abbrev NDealt : List Str := ["askers", "stock", "room", "asker"]
theorem scDealt : FnScope NDealt ["askers", "stock"] (defScope sDealt) := ⟨rfl, rfl, rfl, by decide +kernel, rfl, by decide +kernel, by decide +kernel⟩
abbrev sTakersOf : Stmt := topS 31
abbrev NTakersOf : List Str := ["askers", "asker"]
theorem scTakersOf : FnScope NTakersOf ["askers"] (defScope sTakersOf) := ⟨rfl, rfl, rfl, by decide +kernel, rfl, by decide +kernel, by decide +kernel⟩
abbrev sPoured : Stmt := topS 32
abbrev NPoured : List Str := ["takers", "stores", "room", "name", "fits", "most", "kind", "_"]
theorem scPoured : FnScope NPoured ["takers", "stores"] (defScope sPoured) := ⟨rfl, rfl, rfl, by decide +kernel, rfl, by decide +kernel, by decide +kernel⟩
abbrev sCountOf : Stmt := topS 33
abbrev NCountOf : List Str := ["room", "name"]
theorem scCountOf : FnScope NCountOf ["room", "name"] (defScope sCountOf) := ⟨rfl, rfl, rfl, by decide +kernel, rfl, by decide +kernel, by decide +kernel⟩
abbrev sWiden : Stmt := topS 34
abbrev NWiden : List Str := ["room", "one", "other", "many", "ahead", "back"]
theorem scWiden : FnScope NWiden ["room", "one", "other", "many"] (defScope sWiden) := ⟨rfl, rfl, rfl, by decide +kernel, rfl, by decide +kernel, by decide +kernel⟩
abbrev sPush : Stmt := topS 35
abbrev NPush : List Str := ["room", "start", "end", "came"]
theorem scPush : FnScope NPush ["room", "start", "end"] (defScope sPush) := ⟨rfl, rfl, rfl, by decide +kernel, rfl, by decide +kernel, by decide +kernel⟩
abbrev sMove : Stmt := topS 36
abbrev NMove : List Str := ["room", "came", "end", "steps", "many", "one", "other"]
theorem scMove : FnScope NMove ["room", "came", "end"] (defScope sMove) := ⟨rfl, rfl, rfl, by decide +kernel, rfl, by decide +kernel, by decide +kernel⟩
abbrev sReach : Stmt := topS 37
abbrev NReach : List Str := ["room", "start", "came", "queue", "at", "place", "ways", "near"]
theorem scReach : FnScope NReach ["room", "start"] (defScope sReach) := ⟨rfl, rfl, rfl, by decide +kernel, rfl, by decide +kernel, by decide +kernel⟩
abbrev sSteps : Stmt := topS 38
abbrev NSteps : List Str := ["came", "end", "steps", "place"]
theorem scSteps : FnScope NSteps ["came", "end"] (defScope sSteps) := ⟨rfl, rfl, rfl, by decide +kernel, rfl, by decide +kernel, by decide +kernel⟩
abbrev sPurse : Stmt := topS 40
abbrev NPurse : List Str := ["_law_script", "_law_at", "_law_seed"]
theorem scPurse : FnScope NPurse ["_law_script", "_law_at"] (defScope sPurse) := ⟨rfl, rfl, rfl, by decide +kernel, rfl, by decide +kernel, by decide +kernel⟩
abbrev sMixed : Stmt := topS 41
abbrev NMixed : List Str := ["_law_seed", "_law_turn", "_law_at", "_law_mixed_here"]
theorem scMixed : FnScope NMixed ["_law_seed", "_law_turn", "_law_at"] (defScope sMixed) := ⟨rfl, rfl, rfl, by decide +kernel, rfl, by decide +kernel, by decide +kernel⟩
abbrev sDraw : Stmt := topS 42
abbrev NDraw : List Str := ["_law_purse_here", "_law_many", "_law_drawn", "_law_found", "_law_piece"]
theorem scDraw : FnScope NDraw ["_law_purse_here", "_law_many"] (defScope sDraw) := ⟨rfl, rfl, rfl, by decide +kernel, rfl, by decide +kernel, by decide +kernel⟩
abbrev sPurses : Stmt := topS 43
abbrev NPurses : List Str := ["_law_script", "_law_few", "_law_at"]
theorem scPurses : FnScope NPurses ["_law_script", "_law_few"] (defScope sPurses) := ⟨rfl, rfl, rfl, by decide +kernel, rfl, by decide +kernel, by decide +kernel⟩
abbrev sOneOf : Stmt := topS 44
abbrev NOneOf : List Str := ["_law_purse_here", "_law_some"]
theorem scOneOf : FnScope NOneOf ["_law_purse_here", "_law_some"] (defScope sOneOf) := ⟨rfl, rfl, rfl, by decide +kernel, rfl, by decide +kernel, by decide +kernel⟩
abbrev sShuffled : Stmt := topS 45
abbrev NShuffled : List Str := ["_law_purse_here", "_law_some", "_law_found", "_law_item"]
theorem scShuffled : FnScope NShuffled ["_law_purse_here", "_law_some"] (defScope sShuffled) := ⟨rfl, rfl, rfl, by decide +kernel, rfl, by decide +kernel, by decide +kernel⟩
abbrev sWord : Stmt := topS 46
abbrev NWord : List Str := ["_law_purse_here", "_law_found", "_law_turn"]
theorem scWord : FnScope NWord ["_law_purse_here"] (defScope sWord) := ⟨rfl, rfl, rfl, by decide +kernel, rfl, by decide +kernel, by decide +kernel⟩
abbrev sNames : Stmt := topS 47
abbrev NNames : List Str := ["_law_purse_here", "_law_many", "_law_some", "_law_fresh", "_law_word_here"]
theorem scNames : FnScope NNames ["_law_purse_here", "_law_many"] (defScope sNames) := ⟨rfl, rfl, rfl, by decide +kernel, rfl, by decide +kernel, by decide +kernel⟩
abbrev sKinds : Stmt := topS 48
abbrev NKinds : List Str := ["_law_purse_here", "_law_many", "_law_some", "_law_fresh", "_law_word_here"]
theorem scKinds : FnScope NKinds ["_law_purse_here", "_law_many"] (defScope sKinds) := ⟨rfl, rfl, rfl, by decide +kernel, rfl, by decide +kernel, by decide +kernel⟩
abbrev sMost : Stmt := topS 49
abbrev NMost : List Str := ["_law_purse_here", "_law_small"]
theorem scMost : FnScope NMost ["_law_purse_here"] (defScope sMost) := ⟨rfl, rfl, rfl, by decide +kernel, rfl, by decide +kernel, by decide +kernel⟩
abbrev sLRows : Stmt := topS 50
abbrev NLRows : List Str := ["_law_purse_here", "_law_kinds_here", "_law_few", "_law_found", "_law_name", "_law_some"]
theorem scLRows : FnScope NLRows ["_law_purse_here", "_law_kinds_here", "_law_few"] (defScope sLRows) := ⟨rfl, rfl, rfl, by decide +kernel, rfl, by decide +kernel, by decide +kernel⟩
abbrev sSmallRows : Stmt := topS 51
abbrev NSmallRows : List Str := ["_law_purse_here", "_law_kinds_here", "_law_few", "_law_row"]
theorem scSmallRows : FnScope NSmallRows ["_law_purse_here", "_law_kinds_here", "_law_few"] (defScope sSmallRows) := ⟨rfl, rfl, rfl, by decide +kernel, rfl, by decide +kernel, by decide +kernel⟩
abbrev sLineOf : Stmt := topS 52
abbrev NLineOf : List Str := ["_law_rows_here", "_law_name", "_law_fits", "_law_most_here"]
theorem scLineOf : FnScope NLineOf ["_law_rows_here"] (defScope sLineOf) := ⟨rfl, rfl, rfl, by decide +kernel, rfl, by decide +kernel, by decide +kernel⟩
abbrev sLCounts : Stmt := topS 53
abbrev NLCounts : List Str := ["_law_rows_here", "_law_bags", "_law_found", "_law_kind", "_law_more", "_law_counts_here", "_law_at", "_law_row", "_law_one"]
theorem scLCounts : FnScope NLCounts ["_law_rows_here", "_law_bags"] (defScope sLCounts) := ⟨rfl, rfl, rfl, by decide +kernel, rfl, by decide +kernel, by decide +kernel⟩
abbrev sRowsCounts : Stmt := topS 54
abbrev NRowsCounts : List Str := ["_law_rows_here", "_law_found", "_law_row", "_law_grown", "_law_counts_here", "_law_count"]
theorem scRowsCounts : FnScope NRowsCounts ["_law_rows_here"] (defScope sRowsCounts) := ⟨rfl, rfl, rfl, by decide +kernel, rfl, by decide +kernel, by decide +kernel⟩
abbrev sLaw : Stmt := topS 55
abbrev NLaw : List Str := ["_law_script", "_law_purse_here", "_law_kinds_here", "_law_rows_here", "_law_bags", "_law_turn", "_law_stock", "_law_kind", "_law_line", "_law_some", "_law_told", "_law_counts_here", "_law_value", "_law_name", "_law_count", "_law_row"]
theorem scLaw : FnScope NLaw ["_law_script"] (defScope sLaw) := ⟨rfl, rfl, rfl, by decide +kernel, rfl, by decide +kernel, by decide +kernel⟩
end Eld
end L2

set_option Elab.async false
set_option linter.all false
set_option maxRecDepth 100000
set_option maxHeartbeats 4000000
/-! ## what stays tracked; comprehensions told item by item -/
namespace L2
namespace Eld
open PySem PySem.Spec PyProof.Rows PySem.EldX
/-- what is tracked stays as it is, but for what S says -/
def Kept (S : Addr → Prop) (H H' : Hp) : Prop := ∀ b o, ¬ S b → H b = some o → H' b = some o
abbrev noA : Addr → Prop := fun _ => False
theorem Kept.refl {S : Addr → Prop} {H : Hp} : Kept S H H := fun _ _ _ h => h
theorem Kept.trans {S : Addr → Prop} {H1 H2 H3 : Hp} (a : Kept S H1 H2) (b : Kept S H2 H3) : Kept S H1 H3 := fun c o n h => b c o n (a c o n h)
theorem Kept.of_same {S : Addr → Prop} {H H' : Hp} (h : Same H H') : Kept S H H' := fun b o _ e => h b o e
theorem Kept.same {H H' : Hp} (h : Kept noA H H') : Same H H' := fun b o e => h b o id e
theorem Kept.of_but {p : Addr} {H H' : Hp} (h : ∀ b, b ≠ p → H' b = H b) : Kept (· = p) H H' := fun b o n e => (h b n).trans e
theorem Kept.put {S : Addr → Prop} {H0 H : Hp} {D : Addr} {o : HO} (h : Kept S H0 H) (n : H0 D = none) : Kept S H0 (upd H D o) := fun b u hb e => by
  rw [upd_ne (ne_of_none e n)]
  exact h b u hb e
theorem _root_.L2.Same.put {H0 H : Hp} {D : Addr} {o : HO} (h : Same H0 H) (n : H0 D = none) : Same H0 (upd H D o) := fun b u e => by
  rw [upd_ne (ne_of_none e n)]
  exact h b u e
theorem _root_.L2.Same.fresh {H : Hp} {p : Addr} {o : HO} (n : H p = none) : Same H (upd H p o) := Same.put (Same.refl H) n
section
variable {J : It} {n : Nat} {G : Hp → Prop} {Y : Nat → Hp → V → Hp → Prop}
/-- [e for x in ..] without tests: P i is true ahead of turn i, out i of what turn i appends -/
theorem lc_gen (w : Walk J n G Y) {g : TG} {te : TE} {vs : List Nat} {σ : St} {H1 : Hp} {D : Addr} {Qd : Hp → Prop} (S : Addr → Prop) (P : Nat → Hp → Prop) (out : Nat → V → Hp → Prop) (hz : n < sizeLine) (hD : H1 D = none)
    (hSD : ¬ S D) (hG : ∀ i H, Kept S H1 H → P i H → G H) (h0 : ∀ H, (∀ b, b ≠ D → H b = H1 b) → P 0 H) (hP : ∀ i H H', (∀ b, b ≠ D → H' b = H b) → P i H → P i H') (hY : ∀ i H x H', Y i H x H' → H' = H)
    (ho : ∀ i y H H' acc, H D = some (.lst acc) → (Kept S H H' ∨ ∀ b o, b ≠ D → H b = some o → H' b = some o) → out i y H → out i y H')
    (hs : ∀ i x H, i < n → Kept S H1 H → P i H → Y i H x H → ∀ Q : VK, (∀ y H4, Kept S H H4 → P (i + 1) H4 → out i y H4 → Q y H4) → g x (wipe σ vs) H fun σ2 H2 => wipe σ2 vs = wipe σ vs ∧ te σ2 H2 Q)
    (hd : ∀ H acc, Kept S H1 H → P n H → H D = some (.lst acc) → acc.length = n → (∀ i y, acc[i]? = some y → out i y H) → Qd H) :
    ∃ W : Nat → Nat → Hp → Prop, (∃ m, W 0 m (upd H1 D (.lst []))) ∧ ∀ i m H, W i m H →
      (J.stop i H ∧ Qd H) ∨ (J.go i H ∧ ∃ Nx : Hp → Prop, (∀ H', Nx H' → ∃ m', m' < m ∧ W (i + 1) m' H') ∧ ∀ x H', J.yld i H x H' → g x (wipe σ vs) H' fun σ2 H2 => wipe σ2 vs = wipe σ vs ∧ tYes σ2 H2 fun b H3 =>
        if b = true then te σ2 H3 fun y H4 => ∃ acc, H4 D = some (.lst acc) ∧ acc.length < sizeLine ∧ Nx (upd H4 D (.lst (acc ++ [y]))) else Nx H3) := by
  refine lc_it w (fun i H => Kept S H1 H ∧ P i H ∧ ∃ acc, H D = some (.lst acc) ∧ acc.length = i ∧ ∀ j y, acc[j]? = some y → out j y H) ⟨Kept.refl.put hD, h0 _ fun b hb => upd_ne hb, [], upd_same, rfl, fun j y e => by simp at e⟩
    (fun i H _ p => hG i H p.1 p.2.1) ?_ fun H ⟨k, p, acc, e, l, q⟩ => hd H acc k p e l q
  rintro i x H H' hi ⟨k, p, acc, e, l, q⟩ y
  obtain rfl := hY _ _ _ _ y
  refine hs i x H' hi k p y _ fun z H4 k4 p4 o4 => ?_
  have e4 : H4 D = some (.lst acc) := k4 D _ hSD e
  refine ⟨acc, e4, by omega, (k.trans k4).put hD, hP _ _ _ (fun b hb => upd_ne hb) p4, acc ++ [z], upd_same, by rw [List.length_append, l]; rfl, fun j u hj => ?_⟩
  have stay : ∀ b o, b ≠ D → H4 b = some o → upd H4 D (.lst (acc ++ [z])) b = some o := fun b o hb eb => by
    rw [upd_ne hb]
    exact eb
  by_cases hl : j < acc.length
  · rw [List.getElem?_append_left hl] at hj
    exact ho j u H4 _ acc e4 (.inr stay) (ho j u H' H4 acc e (.inl k4) (q j u hj))
  · rw [List.getElem?_append_right (Nat.le_of_not_lt hl)] at hj
    cases c : j - acc.length with
    | succ c => simp [c] at hj
    | zero =>
      rw [c] at hj
      obtain rfl : z = u := by simpa using hj
      have : j = i := by omega
      subst this
      exact ho j z H4 _ acc e4 (.inr stay) o4
/-- the same, where nothing but the list itself changes -/
theorem lc_out (w : Walk J n G Y) {g : TG} {te : TE} {vs : List Nat} {σ : St} {H1 : Hp} {D : Addr} {Qd : Hp → Prop} (out : Nat → V → Hp → Prop) (hz : n < sizeLine) (hD : H1 D = none) (hG : ∀ H, Same H1 H → G H) (hY : ∀ i H x H', Y i H x H' → H' = H)
    (ho : ∀ i y H H' acc, H D = some (.lst acc) → (∀ b o, b ≠ D → H b = some o → H' b = some o) → out i y H → out i y H')
    (hs : ∀ i x H, i < n → Same H1 H → Y i H x H → ∀ Q : VK, (∀ y H4, Same H H4 → out i y H4 → Q y H4) → g x (wipe σ vs) H fun σ2 H2 => wipe σ2 vs = wipe σ vs ∧ te σ2 H2 Q)
    (hd : ∀ H acc, Same H1 H → H D = some (.lst acc) → acc.length = n → (∀ i y, acc[i]? = some y → out i y H) → Qd H) :
    ∃ W : Nat → Nat → Hp → Prop, (∃ m, W 0 m (upd H1 D (.lst []))) ∧ ∀ i m H, W i m H →
      (J.stop i H ∧ Qd H) ∨ (J.go i H ∧ ∃ Nx : Hp → Prop, (∀ H', Nx H' → ∃ m', m' < m ∧ W (i + 1) m' H') ∧ ∀ x H', J.yld i H x H' → g x (wipe σ vs) H' fun σ2 H2 => wipe σ2 vs = wipe σ vs ∧ tYes σ2 H2 fun b H3 =>
        if b = true then te σ2 H3 fun y H4 => ∃ acc, H4 D = some (.lst acc) ∧ acc.length < sizeLine ∧ Nx (upd H4 D (.lst (acc ++ [y]))) else Nx H3) :=
  lc_gen w noA (fun _ _ => True) out hz hD id (fun _ H k _ => hG H k.same) (fun _ _ => trivial) (fun _ _ _ _ _ => trivial) hY (fun i y H H' acc e k q => ho i y H H' acc e (k.elim (fun k b o _ eb => k b o id eb) id) q)
    (fun i x H hi k _ y Q hQ => hs i x H hi k.same y Q fun z H4 s o4 => hQ z H4 (.of_same s) trivial o4) fun H acc k _ e l q => hd H acc k.same e l q
end
/-- a list of values told one by one -/
theorem eq_map_of {α β : Type} {xs : List α} {acc : List β} {f : α → β} (l : acc.length = xs.length) (h : ∀ (i : Nat) (y : β), acc[i]? = some y → ∃ x, xs[i]? = some x ∧ y = f x) : acc = xs.map f := by
  refine List.ext_getElem? fun i => ?_
  cases e : acc[i]? with
  | none =>
    have : xs.length ≤ i := by
      rw [← l]
      exact List.getElem?_eq_none_iff.mp e
    rw [List.getElem?_map, List.getElem?_eq_none this] <;> rfl
  | some y =>
    obtain ⟨x, hx, rfl⟩ := h i y e
    rw [List.getElem?_map, hx] <;> rfl
end Eld
end L2

set_option Elab.async false
set_option linter.all false
set_option maxRecDepth 100000
set_option maxHeartbeats 4000000
/-! ## a comprehension, told by what it has gathered -/
namespace L2
namespace Eld
open PySem PySem.Spec PyProof.Rows PySem.EldX
section
variable {J : It} {n : Nat} {G : Hp → Prop} {Y : Nat → Hp → V → Hp → Prop}
/-- Pv tells, by the turn, what has been gathered; nothing in it hangs on the list itself -/
theorem lc_foldY (w : Walk J n G Y) {g : TG} {tt : TT} {te : TE} {vs : List Nat} {σ : St} {H1 : Hp} {D : Addr} {Qd : Hp → Prop} (Pv : Nat → List V → Hp → Prop) (hz : n < sizeLine) (hD : H1 D = none) (h0 : Pv 0 [] (upd H1 D (.lst []))) (hG : ∀ H, Same H1 H → G H)
    (hY : ∀ i H x H', Y i H x H' → Same H H')
    (hm : ∀ i acc l H H', H D = some (.lst l) → (∀ b o, b ≠ D → H b = some o → H' b = some o) → Pv i acc H → Pv i acc H')
    (hs : ∀ i x acc H H', i < n → Same H1 H → H D = some (.lst acc) → Y i H x H' → Pv i acc H → ∀ (N : VK) (M : Hp → Prop), (∀ y H4, Same H' H4 → Pv (i + 1) (acc ++ [y]) H4 → N y H4) → (∀ H4, Same H' H4 → Pv (i + 1) acc H4 → M H4) →
      g x (wipe σ vs) H' fun σ2 H2 => wipe σ2 vs = wipe σ vs ∧ tt σ2 H2 fun b H3 => if b = true then te σ2 H3 N else M H3)
    (hd : ∀ H acc, Same H1 H → H D = some (.lst acc) → Pv n acc H → Qd H) :
    ∃ W : Nat → Nat → Hp → Prop, (∃ m, W 0 m (upd H1 D (.lst []))) ∧ ∀ i m H, W i m H →
      (J.stop i H ∧ Qd H) ∨ (J.go i H ∧ ∃ Nx : Hp → Prop, (∀ H', Nx H' → ∃ m', m' < m ∧ W (i + 1) m' H') ∧ ∀ x H', J.yld i H x H' → g x (wipe σ vs) H' fun σ2 H2 => wipe σ2 vs = wipe σ vs ∧ tt σ2 H2 fun b H3 =>
        if b = true then te σ2 H3 fun y H4 => ∃ acc, H4 D = some (.lst acc) ∧ acc.length < sizeLine ∧ Nx (upd H4 D (.lst (acc ++ [y]))) else Nx H3) := by
  refine lc_it w (fun i H => Same H1 H ∧ ∃ acc, H D = some (.lst acc) ∧ acc.length ≤ i ∧ Pv i acc H) ⟨Same.fresh hD, [], upd_same, Nat.le_refl _, h0⟩ (fun i H _ p => hG H p.1) ?_ fun H ⟨s, acc, e, _, p⟩ => hd H acc s e p
  rintro i x H H' hi ⟨s, acc, e, hl, p⟩ hy
  have sy := hY i H x H' hy
  refine hs i x acc H H' hi s e hy p _ _ (fun y H4 s4 p4 => ?_) fun H4 s4 p4 => ?_
  · have e4 := s4 _ _ (sy _ _ e)
    refine ⟨acc, e4, by omega, (s.trans (sy.trans s4)).put hD, acc ++ [y], upd_same, by rw [List.length_append, List.length_singleton]; omega, ?_⟩
    exact hm _ _ acc H4 _ e4 (fun b o hb eb => by rw [upd_ne hb]; exact eb) p4
  · exact ⟨s.trans (sy.trans s4), acc, s4 _ _ (sy _ _ e), by omega, p4⟩
end
/-- the same, where a turn may change the list at p, too -/
theorem lc_foldP {J : It} {n : Nat} {G : Hp → Prop} {Y : Nat → Hp → V → Hp → Prop} (p : Addr) (w : Walk J n G Y) {g : TG} {tt : TT} {te : TE} {vs : List Nat} {σ : St} {H1 : Hp} {D : Addr} {Qd : Hp → Prop} (Pv : Nat → List V → Hp → Prop) (hz : n < sizeLine) (hD : H1 D = none) (hp : D ≠ p) (h0 : Pv 0 [] (upd H1 D (.lst []))) (hG : ∀ H, Kept (· = p) H1 H → G H)
    (hY : ∀ i H x H', Y i H x H' → Same H H')
    (hm : ∀ i acc l H H', H D = some (.lst l) → (∀ b o, b ≠ D → H b = some o → H' b = some o) → Pv i acc H → Pv i acc H')
    (hs : ∀ i x acc H H', i < n → Kept (· = p) H1 H → H D = some (.lst acc) → Y i H x H' → Pv i acc H → ∀ (N : VK) (M : Hp → Prop), (∀ y H4, Kept (· = p) H' H4 → Pv (i + 1) (acc ++ [y]) H4 → N y H4) → (∀ H4, Kept (· = p) H' H4 → Pv (i + 1) acc H4 → M H4) →
      g x (wipe σ vs) H' fun σ2 H2 => wipe σ2 vs = wipe σ vs ∧ tt σ2 H2 fun b H3 => if b = true then te σ2 H3 N else M H3)
    (hd : ∀ H acc, Kept (· = p) H1 H → H D = some (.lst acc) → Pv n acc H → Qd H) :
    ∃ W : Nat → Nat → Hp → Prop, (∃ m, W 0 m (upd H1 D (.lst []))) ∧ ∀ i m H, W i m H →
      (J.stop i H ∧ Qd H) ∨ (J.go i H ∧ ∃ Nx : Hp → Prop, (∀ H', Nx H' → ∃ m', m' < m ∧ W (i + 1) m' H') ∧ ∀ x H', J.yld i H x H' → g x (wipe σ vs) H' fun σ2 H2 => wipe σ2 vs = wipe σ vs ∧ tt σ2 H2 fun b H3 =>
        if b = true then te σ2 H3 fun y H4 => ∃ acc, H4 D = some (.lst acc) ∧ acc.length < sizeLine ∧ Nx (upd H4 D (.lst (acc ++ [y]))) else Nx H3) := by
  refine lc_it w (fun i H => Kept (· = p) H1 H ∧ ∃ acc, H D = some (.lst acc) ∧ acc.length ≤ i ∧ Pv i acc H) ⟨Kept.of_same (Same.fresh hD), [], upd_same, Nat.le_refl _, h0⟩ (fun i H _ q => hG H q.1) ?_ fun H ⟨s, acc, e, _, q⟩ => hd H acc s e q
  rintro i x H H' hi ⟨s, acc, e, hl, q⟩ hy
  have sy := hY i H x H' hy
  refine hs i x acc H H' hi s e hy q _ _ (fun y H4 s4 p4 => ?_) fun H4 s4 p4 => ?_
  · have e4 := s4 _ _ hp (sy _ _ e)
    refine ⟨acc, e4, by omega, fun b o hb eb => ?_, acc ++ [y], upd_same, by rw [List.length_append, List.length_singleton]; omega, ?_⟩
    · rw [upd_ne (fun z => by rw [z, hD] at eb; cases eb)]
      exact s4 _ _ hb (sy _ _ (s _ _ hb eb))
    · exact hm _ _ acc H4 _ e4 (fun b o hb eb => by rw [upd_ne hb]; exact eb) p4
  · exact ⟨fun b o hb eb => s4 _ _ hb (sy _ _ (s _ _ hb eb)), acc, s4 _ _ hp (sy _ _ e), by omega, p4⟩
theorem ypair_same {xs ys : Nat → Option V} : ∀ i H x H', YPair xs ys i H x H' → Same H H' := fun i H x H' ⟨T, u, v, _, h, e, _⟩ => by
  rw [e]
  exact Same.fresh h
theorem yat_same {xs : List V} : ∀ i H x H', YAt xs i H x H' → Same H H' := fun i H x H' h => by
  rw [h.1]
  exact Same.refl _
end Eld
end L2

set_option Elab.async false
set_option linter.all false
set_option maxRecDepth 100000
set_option maxHeartbeats 4000000
/-! ## drawing numbers out of a purse -/
namespace L2
namespace Eld
open PySem PySem.Spec PyProof.Rows PySem.EldX
/-! ### numbers -/
theorem ediv_lt_self' {a b B : Int} (h0 : 0 ≤ a) (h1 : a < B) (hb : 1 ≤ b) : 0 ≤ a / b ∧ a / b < B := by
  refine ⟨Int.ediv_nonneg h0 (by omega), Int.lt_of_le_of_lt (Int.ediv_le_self b h0) h1⟩
theorem fmod_in {a b : Int} (hb : 0 < b) : 0 ≤ a.fmod b ∧ a.fmod b < b := by
  rw [Int.fmod_eq_emod_of_nonneg a (Int.le_of_lt hb)]
  exact ⟨Int.emod_nonneg a (by omega), Int.emod_lt_of_pos a hb⟩
theorem cutV_map {α : Type} (f : α → V) (xs : List α) (lo hi : Option Int) : cutV (xs.map f) lo hi = ((xs.drop (HT.sIx xs.length 0 lo)).take (HT.sIx xs.length xs.length hi - HT.sIx xs.length 0 lo)).map f := by
  unfold cutV
  rw [List.length_map, List.map_take, List.map_drop]
/-- i ** j of whole numbers, the left one below 2 ^ 400 -/
theorem intBits_le (x : Int) : Builtin.Int.intBits x ≤ x.natAbs.log2 + 1 := by
  unfold Builtin.Int.intBits
  split <;> omega
theorem op_powB {X : Cx} : OpR X (binaryOp .Pow) (rI (fun i j => 0 ≤ j ∧ j ≤ 1000 ∧ i.natAbs < 2 ^ 400) fun i j => .int (i ^ j.toNat)) := opI fun i j _ _ _ _ _ hc q => by
  refine pow_int hc.1 ?_ q
  have h1 := intBits_le i
  have h2 : i.natAbs.log2 < 400 := PySem.Flt.log2_lt_of (by decide) hc.2.2
  have h3 : (Builtin.Int.intBits i : Int) ≤ 400 := by omega
  have h4 : (Builtin.Int.intBits i : Int) * j ≤ 400 * 1000 := Int.mul_le_mul h3 hc.2.1 hc.1 (by decide)
  exact Int.le_trans h4 (by decide)
/-- the most that a purse's first number may be -/
def big : Int := (10 ^ 60) ^ 8
theorem big_pos : 0 < big := by decide +kernel
theorem big_lt : big.natAbs < 2 ^ 1600 := by decide +kernel
/-- a purse at p from which no more than n draws have been made -/
def PurseAt (H : Hp) (p : Addr) (n : Nat) : Prop :=
  ∃ a b c d : Int, H p = some (.lst [.int a, .int b, .int c, .int d]) ∧ (0 ≤ a ∧ a < big) ∧ (0 ≤ b ∧ b < 2147483629) ∧ (0 ≤ c ∧ c ≤ n) ∧ (0 ≤ d ∧ d ≤ 63)
theorem PurseAt.mono {H : Hp} {p : Addr} {n m : Nat} (h : PurseAt H p n) (l : n ≤ m) : PurseAt H p m := by
  obtain ⟨a, b, c, d, e, ha, hb, hc, hd⟩ := h
  exact ⟨a, b, c, d, e, ha, hb, ⟨hc.1, by omega⟩, hd⟩
/-- but for the object at p nothing that was tracked has changed, and what is tracked besides is new -/
def But (p : Addr) (H H' : Hp) : Prop := ∀ b, b ≠ p → H' b = H b
theorem But.refl {p : Addr} {H : Hp} : But p H H := fun _ _ => rfl
theorem But.trans {p : Addr} {H1 H2 H3 : Hp} (a : But p H1 H2) (b : But p H2 H3) : But p H1 H3 := fun c h => (b c h).trans (a c h)
theorem But.upd {p : Addr} {H H' : Hp} {o : HO} (a : But p H H') : But p H (upd H' p o) := fun c h => by
  rw [upd_ne h]
  exact a c h
theorem But.sql {K : PySem.W.Frag} {p a : Addr} {H H' : Hp} {xs : List V} (h : But p H H') (hp : a ≠ p) (s : SqL K H a xs) : SqL K H' a xs := by
  rcases s with (s | ⟨o, s⟩) | s
  · exact .inl (.inl ((h a hp).trans s))
  · exact .inl (.inr ⟨o, (h a hp).trans s⟩)
  · exact .inr s
section
variable {P : Program} {w : World} {K : PySem.W.Frag} {mg : Str → Option Value} {base : Heap}
/-! ### _law_purse -/
def spPurse (K : PySem.W.Frag) : Sp := fun vs H Q _ => ∃ (a : Addr) (ns : List Int) (i : Int), vs = [.ref a, .int i] ∧ SqL K H a (ns.map V.int) ∧ (0 ≤ i ∧ i ≤ 63) ∧
  ∀ H' p, Same H H' → H p = none → PurseAt H' p 0 → Q (.ref p) H'
theorem same_new {H : Hp} {p : Addr} {o : HO} (h : H p = none) : Same H (upd H p o) := fun b x e => by
  rw [upd_ne (ne_of_none e h)]
  exact e
theorem ok_purse {f : Addr} {fd : FuncData} {k : Nat} (F : Fun K "_law_purse" "_law_purse" sPurse f fd) (ms : mg "sum" = none) (mm : mg "max" = none) : FnOk P w K mg base CX0 (k + 1) f fd ["_law_script", "_law_at"] (spPurse K) := by
  refine F.ok scPurse (fun vs H Q E h => ?_) (fun cdv A outer s H vs Q E hr h => ?_)
  · obtain ⟨a, ns, i, rfl, _⟩ := h
    rfl
  · obtain ⟨a, ns, i, rfl, hS, hi, q⟩ := h
    refine ⟨_, pss_cons (ps_set (i := 2) scPurse.nd rfl (.inl rfl) (pe_callB (cr_sum rfl) (by rfl) ms (by decide +kernel)
        (pa_cons (pe_slice sl_list (pv 0) (po_some (pv 1)) (po_some (pe_op op_add (pv 1) pe_int))) pa_nil)))
      (pss_one (ps_ret (pe_lst (pa_cons (pe_op op_modN (pe_callB (call_max2 rfl) (by rfl) mm (by decide +kernel) (pa_cons (pe_op op_sub (pv 2) (pe_op op_pow pe_int pe_int)) (pa_cons pe_int pa_nil)))
          (pe_op op_powB (pe_op op_pow pe_int pe_int) pe_int))
        (pa_cons (pe_op op_modN (pv 2) pe_int) (pa_cons pe_int (pa_cons (pv 1) pa_nil))))))), ?_⟩
    refine ⟨.ref a, rfl, .int i, rfl, i, rfl, .int i, rfl, i, 1, rfl, rfl, i + 1, rfl, a, ns.map V.int, rfl, hS, fun c nc => ?_⟩
    rw [cutV_map]
    refine ⟨c, _, rfl, .inl (.inl upd_same), ?_⟩
    -- the list of four
    refine ⟨_, rfl, 10, 18, rfl, rfl, ⟨by decide, by decide, by decide⟩, _, _, rfl, rfl, _, _, rfl, 10, 60, rfl, rfl, ⟨by decide, by decide, by decide⟩, _, 8, rfl, rfl, ⟨by decide, by decide, by decide +kernel⟩, _, _, rfl, rfl, ?_, ?_⟩
    · show ((10 : Int) ^ (60 : Int).toNat) ^ (8 : Int).toNat ≠ 0
      decide +kernel
    · refine ⟨_, rfl, _, _, rfl, rfl, (by show (2147483629 : Int) ≠ 0; decide), _, rfl, (by show 4 ≤ sizeLine; decide), fun p np => ?_⟩
      have h1 : H p = none := by
        cases e : H p with
        | none => rfl
        | some o =>
          rw [upd_ne (ne_of_none e nc)] at np
          rw [e] at np
          cases np
      refine q _ p ((same_new nc).trans (same_new np)) h1 ⟨_, _, _, _, upd_same, ?_, ?_, ?_, hi⟩
      · exact fmod_in big_pos
      · exact fmod_in (by decide)
      · exact ⟨by decide, by decide⟩
/-! ### _law_mixed -/
def spMixed : Sp := fun vs H Q _ => ∃ a t d : Int, vs = [.int a, .int t, .int d] ∧ (0 ≤ a ∧ a < 2147483629) ∧ (0 ≤ t ∧ t < 1000000000000) ∧ (0 ≤ d ∧ d ≤ 63) ∧ ∀ r : Int, 0 ≤ r → r < 2147483587 → Q (.int r) H
theorem ok_mixed {f : Addr} {fd : FuncData} {k : Nat} (F : Fun K "_law_mixed" "_law_mixed" sMixed f fd) : FnOk P w K mg base CX0 (k + 1) f fd ["_law_seed", "_law_turn", "_law_at"] spMixed := by
  refine F.ok scMixed (fun vs H Q E h => ?_) (fun cdv A outer s H vs Q E hr h => ?_)
  · obtain ⟨a, t, d, rfl, _⟩ := h
    rfl
  · obtain ⟨a, t, d, rfl, ha, ht, hd, q⟩ := h
    refine ⟨_, pss_cons (ps_set (i := 3) scMixed.nd rfl (.inl rfl) (pe_op op_add (pe_op op_mul (pv 0) pe_int) (pe_op op_mul (pe_op op_mul pe_int (pv 1)) (pv 1))))
      (pss_cons (ps_set (i := 3) scMixed.nd rfl (.inl rfl) (pe_op op_modN (pe_op op_add (pe_op op_add (pv 3) (pe_op op_mul pe_int (pv 2))) (pv 1)) pe_int))
      (pss_cons (ps_set (i := 3) scMixed.nd rfl (.inl rfl) (pe_op op_modN (pe_op op_add (pe_op op_mul (pv 3) (pv 3)) pe_int) pe_int))
      (pss_one (ps_ret (pe_op op_modN (pe_op op_mul (pv 3) pe_int) pe_int))))), ?_⟩
    refine ⟨_, rfl, _, _, rfl, rfl, .inr ⟨by decide, by decide⟩, _, rfl, _, _, rfl, rfl, .inl ⟨by decide, by decide⟩, _, rfl, _, _, rfl, rfl, .inl ⟨by omega, by omega⟩, _, _, rfl, rfl, ?_⟩
    refine ⟨_, rfl, _, rfl, _, _, rfl, rfl, .inl ⟨by decide, by decide⟩, _, _, rfl, rfl, _, rfl, _, _, rfl, rfl, _, _, rfl, rfl, (by show (2147483647 : Int) ≠ 0; decide), ?_⟩
    have b1 := fmod_in (a := a * 69069 + 104729 * t * t + 7919 * d + t) (b := 2147483647) (by decide)
    refine ⟨_, rfl, _, rfl, _, _, rfl, rfl, .inl ⟨by omega, by omega⟩, _, _, rfl, rfl, _, _, rfl, rfl, (by show (2147483629 : Int) ≠ 0; decide), ?_⟩
    refine ⟨_, rfl, _, _, rfl, rfl, .inr ⟨by decide, by decide⟩, _, _, rfl, rfl, (by show (2147483587 : Int) ≠ 0; decide), ?_⟩
    exact q _ (fmod_in (by decide)).1 (fmod_in (by decide)).2
end
end Eld
end L2

set_option Elab.async false
set_option linter.all false
set_option maxRecDepth 100000
set_option maxHeartbeats 4000000
namespace L2
namespace Eld
open PySem PySem.Spec PyProof.Rows PySem.EldX
section
variable {P : Program} {w : World} {K : PySem.W.Frag} {mg : Str → Option Value} {base : Heap}
/-! ### _law_draw -/
def spDraw : Sp := fun vs H Q _ => ∃ (p : Addr) (m : Int) (n : Nat), vs = [.ref p, .int m] ∧ PurseAt H p n ∧ n ≤ 100000000000 ∧ 1 ≤ m ∧ m.natAbs < 2 ^ 1000 ∧
  ∀ (H' : Hp) (r : Int), But p H H' → PurseAt H' p (n + 40) → 0 ≤ r → r < m → Q (.int r) H'
theorem turns_le {m : Int} (hm : m.natAbs < 2 ^ 1000) : 0 ≤ (1 : Int) + ((Builtin.Int.intBits m : Nat) : Int).fdiv 28 ∧ (1 : Int) + ((Builtin.Int.intBits m : Nat) : Int).fdiv 28 ≤ 40 := by
  have h1 := intBits_le m
  have h2 : m.natAbs.log2 < 1000 := PySem.Flt.log2_lt_of (by decide) hm
  rw [Int.fdiv_eq_ediv_of_nonneg _ (by decide)]
  omega
theorem ok_draw {f fM : Addr} {fd fdM : FuncData} (F : Fun K "_law_draw" "_law_draw" sDraw f fd) (FM : Fun K "_law_mixed" "_law_mixed" sMixed fM fdM) (gM : mg "_law_mixed" = some (.ref fM)) (mr : mg "range" = none) :
    FnOk P w K mg base CX0 2 f fd ["_law_purse_here", "_law_many"] spDraw := by
  have GM : FnOk P w K mg base CX0 1 fM fdM ["_law_seed", "_law_turn", "_law_at"] spMixed := ok_mixed FM
  have bM : Binds K fdM ["_law_seed", "_law_turn", "_law_at"] [] := FM.binds fun _ _ _ _ _ _ us hl => match us, hl with | [_, _, _], _ => rfl
  refine F.ok scDraw (fun vs H Q E h => ?_) (fun cdv A outer s H vs Q E hr h => ?_)
  · obtain ⟨p, m, n, rfl, _⟩ := h
    rfl
  · obtain ⟨p, m, n, rfl, ⟨a, b, c, d, hp, ha, hb, hc, hd⟩, hn, hm1, hm2, q⟩ := h
    refine ⟨_, pss_cons (ps_if (pt_cmpR op_gt (pe_ix ix_list (pv 0) pe_int (fun _ _ => rfl)) pe_int (nomark _))
        (pss_cons (ps_set (i := 2) scDraw.nd rfl (.inl rfl) (pe_op op_modN (pe_ix ix_list (pv 0) pe_int (fun _ _ => rfl)) (pv 1)))
        (pss_cons (ps_asg (pe_op op_fdivW (pe_ix ix_list (pv 0) pe_int (fun _ _ => rfl)) (pv 1)) (pg_sub (pv 0) pe_int set_list))
        (pss_one (ps_ret (pv 2))))) pss_nil)
      (pss_cons (ps_set (i := 3) scDraw.nd rfl (.inl rfl) pe_int)
      (pss_cons (ps_for PassesOwn.never rfl (pi_range1 rfl mr (pa_cons (pe_op op_add pe_int (pe_op op_fdivN (pe_bits (pv 1)) pe_int)) pa_nil)) (pg_name (i := 4) scDraw.nd rfl (.inl rfl))
        (pss_cons (ps_asg (pe_op op_add (pe_ix ix_list (pv 0) pe_int (fun _ _ => rfl)) pe_int) (pg_sub (pv 0) pe_int set_list))
        (pss_one (ps_set (i := 3) scDraw.nd rfl (.inl rfl) (pe_op op_add (pe_op op_mul (pv 3) pe_int)
          (pe_call GM hr (by rfl) gM FM.kp bM .nil pass0 (pa_cons (pe_ix ix_list (pv 0) pe_int (fun _ _ => rfl)) (pa_cons (pe_ix ix_list (pv 0) pe_int (fun _ _ => rfl)) (pa_cons (pe_ix ix_list (pv 0) pe_int (fun _ _ => rfl)) pa_nil))))))))) 
      (pss_one (ps_ret (pe_op op_modN (pv 3) (pv 1)))))), ?_⟩
    have hS : SqL K H p [.int a, .int b, .int c, .int d] := .inl (.inl hp)
    refine ⟨.ref p, rfl, p, _, 0, .int a, rfl, rfl, hS, rfl, _, _, rfl, rfl, _, rfl, ite2 (fun e => ?_) (fun e => ?_)⟩
    · have ea : 0 < a := of_decide_eq_true e
      refine ⟨.ref p, rfl, p, _, 0, .int a, rfl, rfl, hS, rfl, _, rfl, _, _, rfl, rfl, (by show m ≠ 0; omega), ?_⟩
      refine ⟨.ref p, rfl, p, _, 0, .int a, rfl, rfl, hS, rfl, _, rfl, _, _, rfl, rfl, wide_div (by omega) hm2 (by decide) (by decide), ?_⟩
      refine ⟨.ref p, rfl, p, _, 0, 0, rfl, rfl, hp, rfl, _, rfl, ?_⟩
      have z := ediv_lt_self' ha.1 ha.2 hm1
      have y := fmod_in (a := a) (b := m) (by omega)
      exact q _ _ (But.refl.upd) ⟨a / m, b, c, d, upd_same, z, hb, ⟨hc.1, by omega⟩, hd⟩ y.1 y.2
    · have tl := turns_le hm2
      refine ⟨_, rfl, _, rfl, _, 28, rfl, rfl, ⟨by decide, by decide⟩, 1, _, rfl, rfl, _, rfl, by omega, by omega, ?_⟩
      refine for_range (lo := 0) (n := ((1 : Int) + ((Builtin.Int.intBits m : Nat) : Int).fdiv 28).toNat)
        (fun i σ H' => ∃ (v2 : Option V) (z : Int) (v4 : Option V), σ = [some (.ref p), some (.int m), v2, some (.int z), v4] ∧ But p H H' ∧ PurseAt H' p (n + i)) ⟨_, _, _, rfl, But.refl, ⟨a, b, c, d, hp, ha, hb, hc, hd⟩⟩ ?_ ?_
      · rintro i σ H' hi ⟨v2, z, v4, rfl, hB, a', b', c', d', hp', ha', hb', hc', hd'⟩
        have hS' : SqL K H' p [.int a', .int b', .int c', .int d'] := .inl (.inl hp')
        refine ⟨.ref p, rfl, p, _, 2, .int c', rfl, rfl, hS', rfl, _, _, rfl, rfl, .ref p, rfl, p, _, 2, 2, rfl, rfl, hp', rfl, ?_⟩
        have hS2 : SqL K (upd H' p (.lst [.int a', .int b', .int (c' + 1), .int d'])) p [.int a', .int b', .int (c' + 1), .int d'] := .inl (.inl upd_same)
        refine ⟨_, rfl, _, _, rfl, rfl, .inr ⟨by decide, by decide⟩, ?_⟩
        refine ⟨.ref p, rfl, p, _, 1, .int b', rfl, rfl, hS2, rfl, .ref p, rfl, p, _, 2, .int (c' + 1), rfl, rfl, hS2, rfl, .ref p, rfl, p, _, 3, .int d', rfl, rfl, hS2, rfl, ?_⟩
        refine ⟨b', c' + 1, d', rfl, hb', ⟨by omega, by omega⟩, hd', fun r hr0 hr1 => ?_⟩
        exact ⟨_, _, rfl, rfl, v2, _, _, rfl, hB.upd, a', b', c' + 1, d', upd_same, ha', hb', ⟨by omega, by omega⟩, hd'⟩
      · rintro σ H' ⟨v2, z, v4, rfl, hB, hP⟩
        have y := fmod_in (a := z) (b := m) (by omega)
        exact ⟨_, rfl, _, rfl, _, _, rfl, rfl, (by show m ≠ 0; omega), q _ _ hB (hP.mono (by omega)) y.1 y.2⟩
end
end Eld
end L2

set_option Elab.async false
set_option linter.all false
set_option maxRecDepth 100000
set_option maxHeartbeats 4000000
namespace L2
namespace Eld
open PySem PySem.Spec PyProof.Rows PySem.EldX
theorem none_of_same {H H' : Hp} {p : Addr} (s : Same H H') (n : H' p = none) : H p = none := by
  cases e : H p with
  | none => rfl
  | some o =>
    rw [s _ _ e] at n
    cases n
theorem PurseAt.some {H : Hp} {p : Addr} {n : Nat} (h : PurseAt H p n) : ∃ o, H p = some o := by
  obtain ⟨a, b, c, d, e, _⟩ := h
  exact ⟨_, e⟩
theorem PurseAt.of_eq {H H' : Hp} {p : Addr} {n : Nat} (h : PurseAt H p n) (e : H' p = H p) : PurseAt H' p n := by
  obtain ⟨a, b, c, d, q, r⟩ := h
  exact ⟨a, b, c, d, e.trans q, r⟩
theorem PurseAt.same {H H' : Hp} {p : Addr} {n : Nat} (h : PurseAt H p n) (s : Same H H') : PurseAt H' p n := by
  obtain ⟨a, b, c, d, q, r⟩ := h
  exact ⟨a, b, c, d, s _ _ q, r⟩
section
variable {P : Program} {w : World} {K : PySem.W.Frag} {mg : Str → Option Value} {base : Heap}
/-! ### _law_purses -/
def spPurses (K : PySem.W.Frag) : Sp := fun vs H Q _ => ∃ (a : Addr) (ns : List Int) (few : Int), vs = [.ref a, .int few] ∧ SqL K H a (ns.map V.int) ∧ ns.length ≤ 63 ∧ (1 ≤ few ∧ few ≤ 63) ∧
  ∀ (H' : Hp) (p : Addr) (ps : List Addr), Same H H' → H p = none → H' p = some (.lst (ps.map V.ref)) → (∀ x ∈ ps, H x = none ∧ x ≠ p ∧ PurseAt H' x 0) → ps.Nodup → ps.length ≤ 63 → Q (.ref p) H'
theorem ok_purses {f fP : Addr} {fd fdP : FuncData} (F : Fun K "_law_purses" "_law_purses" sPurses f fd) (FP : Fun K "_law_purse" "_law_purse" sPurse fP fdP) (gP : mg "_law_purse" = some (.ref fP))
    (mr : mg "range" = none) (mm : mg "max" = none) (mi : mg "min" = none) (ml : mg "len" = none) (ms : mg "sum" = none) : FnOk P w K mg base CX0 2 f fd ["_law_script", "_law_few"] (spPurses K) := by
  have GP : FnOk P w K mg base CX0 1 fP fdP ["_law_script", "_law_at"] (spPurse K) := ok_purse FP ms mm
  have bP : Binds K fdP ["_law_script", "_law_at"] [] := FP.binds fun _ _ _ _ _ _ us hl => match us, hl with | [_, _], _ => rfl
  refine F.ok scPurses (fun vs H Q E h => ?_) (fun cdv A outer s H vs Q E hr h => ?_)
  · obtain ⟨a, ns, few, rfl, _⟩ := h
    rfl
  · obtain ⟨a, ns, few, rfl, hS, hn, hf, q⟩ := h
    refine ⟨_, pss_one (ps_ret (pe_lc (own := [("_law_at", 2)]) (g := gName 2) (tt := tYes) rfl scPurses.nd
      (pi_range1 rfl mr (pa_cons (pe_callB (call_max2 rfl) (by rfl) mm (by decide +kernel) (pa_cons pe_int (pa_cons (pe_callB (call_min2 rfl) (by rfl) mi (by decide +kernel)
        (pa_cons (pv 1) (pa_cons (pe_callB call_len_seq (by rfl) ml PySem.boot_len (pa_cons (pv 0) pa_nil)) pa_nil))) pa_nil))) pa_nil))
      (blkOk_by (own := [("_law_at", 2)]) (N := ["_law_script", "_law_few", "_law_at"]) (sc := defScope sPurses) (by decide +kernel)) (fun _ _ _ _ _ => pg_name (i := 2) scPurses.nd rfl (.inl rfl)) (fun _ _ _ _ _ => pts_nil)
      (fun _ _ _ _ _ => pe_call GP hr (by rfl) gP FP.kp bP .nil pass0 (pa_cons (pv 0) (pa_cons (pv 2) pa_nil))))), ?_⟩
    refine ⟨_, rfl, .ref a, rfl, a, _, rfl, .inl hS, _, _, rfl, _, _, rfl, _, rfl, ?_⟩
    have len : ((ns.map V.int).length : Int) ≤ 63 := by
      rw [List.length_map]
      omega
    have m0 : 0 ≤ ((ns.map V.int).length : Int) := by omega
    generalize ((ns.map V.int).length : Int) = L at len m0
    have r1 : (1 : Int) ≤ (if (if L < few then L else few) > 1 then (if L < few then L else few) else 1) := by
      split <;> split <;> omega
    have r2 : (if (if L < few then L else few) > 1 then (if L < few then L else few) else 1) ≤ 63 := by
      split <;> split <;> omega
    generalize (if (if L < few then L else few) > 1 then (if L < few then L else few) else 1) = m at r1 r2
    refine ⟨by omega, by omega, fun D hD => ?_⟩
    refine lc_range (lo := 0) (n := m.toNat) (fun i H' => ∃ ps : List Addr, ps.length = i ∧ Same H H' ∧ H' D = some (.lst (ps.map V.ref)) ∧ (∀ x ∈ ps, H x = none ∧ x ≠ D ∧ PurseAt H' x 0) ∧ ps.Nodup)
      ⟨[], rfl, same_new hD, upd_same, (fun _ z => nomatch z), List.nodup_nil⟩ ?_ ?_
    · rintro i H' hi ⟨ps, hl, sm, hd, hp, nd⟩
      refine ⟨rfl, .ref a, rfl, _, rfl, a, ns, _, rfl, sm.seq hS, ⟨by omega, by omega⟩, fun H2 p s2 np h2 => ?_⟩
      refine ⟨ps.map V.ref, s2 _ _ hd, by rw [List.length_map]; exact small1000 (by omega), ps ++ [p], by rw [List.length_append, hl]; rfl, fun b z e => ?_, by rw [upd_same, List.map_append]; rfl, fun x hx => ?_, ?_⟩
      · rw [upd_ne (ne_of_none e hD)]
        exact s2 _ _ (sm _ _ e)
      · have pD : p ≠ D := fun z => by
          rw [z, hd] at np
          cases np
        rcases List.mem_append.mp hx with hx | hx
        · obtain ⟨e1, e2, e3⟩ := hp x hx
          exact ⟨e1, e2, (e3.same s2).of_eq (upd_ne e2)⟩
        · obtain rfl := List.mem_singleton.mp hx
          exact ⟨none_of_same sm np, pD, h2.of_eq (upd_ne pD)⟩
      · rw [List.nodup_append]
        refine ⟨nd, by simp, fun x hx y hy e => ?_⟩
        obtain rfl := List.mem_singleton.mp hy
        subst e
        obtain ⟨_, _, e3⟩ := hp x hx
        obtain ⟨o, e4⟩ := e3.some
        rw [np] at e4
        cases e4
    · rintro H' ⟨ps, hl, sm, hd, hp, nd⟩
      exact q H' D ps sm hD hd hp nd (by omega)
/-! ### _law_one_of -/
def spOneOf (K : PySem.W.Frag) : Sp := fun vs H Q _ => ∃ (p l : Addr) (xs : List V) (n : Nat), vs = [.ref p, .ref l] ∧ PurseAt H p n ∧ n ≤ 100000000000 ∧ SqL K H l xs ∧ l ≠ p ∧ 1 ≤ xs.length ∧ xs.length ≤ 1000 ∧
  ∀ (H' : Hp) (i : Nat) (x : V), But p H H' → PurseAt H' p (n + 40) → xs[i]? = some x → Q x H'
theorem small_bits {n : Nat} (h : n ≤ 1000) : ((n : Nat) : Int).natAbs < 2 ^ 1000 := by
  rw [Int.natAbs_natCast]
  exact Nat.lt_of_le_of_lt h (by decide +kernel)
theorem ok_oneOf {f fD fM : Addr} {fd fdD fdM : FuncData} (F : Fun K "_law_one_of" "_law_one_of" sOneOf f fd) (FD : Fun K "_law_draw" "_law_draw" sDraw fD fdD) (FM : Fun K "_law_mixed" "_law_mixed" sMixed fM fdM)
    (gD : mg "_law_draw" = some (.ref fD)) (gM : mg "_law_mixed" = some (.ref fM)) (mr : mg "range" = none) (ml : mg "len" = none) : FnOk P w K mg base CX0 3 f fd ["_law_purse_here", "_law_some"] (spOneOf K) := by
  have GD : FnOk P w K mg base CX0 2 fD fdD ["_law_purse_here", "_law_many"] spDraw := ok_draw FD FM gM mr
  have bD : Binds K fdD ["_law_purse_here", "_law_many"] [] := FD.binds fun _ _ _ _ _ _ us hl => match us, hl with | [_, _], _ => rfl
  refine F.ok scOneOf (fun vs H Q E h => ?_) (fun cdv A outer s H vs Q E hr h => ?_)
  · obtain ⟨p, l, xs, n, rfl, _⟩ := h
    rfl
  · obtain ⟨p, l, xs, n, rfl, hp, hn, hS, ne, l1, l2, q⟩ := h
    refine ⟨_, pss_one (ps_ret (pe_ix ix_list (pv 1) (pe_call GD hr (by rfl) gD FD.kp bD .nil pass0 (pa_cons (pv 0) (pa_cons (pe_callB call_len_seq (by rfl) ml PySem.boot_len (pa_cons (pv 1) pa_nil)) pa_nil))) (fun _ _ => rfl))), ?_⟩
    refine ⟨.ref l, rfl, .ref p, rfl, .ref l, rfl, l, xs, rfl, .inl hS, p, _, n, rfl, hp, hn, by omega, small_bits l2, fun H' r hB hP r0 r1 => ?_⟩
    obtain ⟨j, rfl⟩ : ∃ j : Nat, r = (j : Int) := ⟨r.toNat, by omega⟩
    have hj : j < xs.length := by omega
    exact ⟨l, xs, _, xs[j], rfl, rfl, hB.sql ne hS, atI_nat (List.getElem?_eq_getElem hj), q H' j _ hB hP (List.getElem?_eq_getElem hj)⟩
/-! ### _law_word -/
/-- a word: one to ten signs a to z -/
def IsWord (x : Str) : Prop := 1 ≤ x.length ∧ x.length ≤ 10 ∧ ∀ c ∈ x.cps.toList, 97 ≤ c ∧ c ≤ 122
def spWord : Sp := fun vs H Q _ => ∃ (p : Addr) (n : Nat), vs = [.ref p] ∧ PurseAt H p n ∧ n ≤ 90000000000 ∧ ∀ (H' : Hp) (x : Str), But p H H' → PurseAt H' p (n + 440) → IsWord x → Q (.str x) H'
theorem letter : ∀ j : Fin 26, atI (("abcdefghijklmnopqrstuvwxyz" : Str)).cps.toList ((j.val : Nat) : Int) = some (97 + j.val) := by decide +kernel
theorem ok_word {f fD fM : Addr} {fd fdD fdM : FuncData} (F : Fun K "_law_word" "_law_word" sWord f fd) (FD : Fun K "_law_draw" "_law_draw" sDraw fD fdD) (FM : Fun K "_law_mixed" "_law_mixed" sMixed fM fdM)
    (gD : mg "_law_draw" = some (.ref fD)) (gM : mg "_law_mixed" = some (.ref fM)) (mr : mg "range" = none) : FnOk P w K mg base CX0 3 f fd ["_law_purse_here"] spWord := by
  have GD : FnOk P w K mg base CX0 2 fD fdD ["_law_purse_here", "_law_many"] spDraw := ok_draw FD FM gM mr
  have bD : Binds K fdD ["_law_purse_here", "_law_many"] [] := FD.binds fun _ _ _ _ _ _ us hl => match us, hl with | [_, _], _ => rfl
  refine F.ok scWord (fun vs H Q E h => ?_) (fun cdv A outer s H vs Q E hr h => ?_)
  · obtain ⟨p, n, rfl, _⟩ := h
    rfl
  · obtain ⟨p, n, rfl, hp, hn, q⟩ := h
    refine ⟨_, pss_cons (ps_set (i := 1) scWord.nd rfl (.inl rfl) pe_str)
      (pss_cons (ps_for PassesOwn.never rfl (pi_range1 rfl mr (pa_cons (pe_op op_add pe_int (pe_call GD hr (by rfl) gD FD.kp bD .nil pass0 (pa_cons (pv 0) (pa_cons pe_int pa_nil)))) pa_nil)) (pg_name (i := 2) scWord.nd rfl (.inl rfl))
        (pss_one (ps_set (i := 1) scWord.nd rfl (.inl rfl) (pe_op op_add_str (pv 1) (pe_ix ix_str pe_str (pe_call GD hr (by rfl) gD FD.kp bD .nil pass0 (pa_cons (pv 0) (pa_cons pe_int pa_nil))) (fun _ _ => rfl))))))
      (pss_one (ps_ret (pv 1)))), ?_⟩
    refine ⟨.ref p, rfl, p, 10, n, rfl, hp, by omega, by decide, by decide +kernel, fun H1 r hB hP r0 r1 => ?_⟩
    refine ⟨_, _, rfl, rfl, _, rfl, by omega, by omega, ?_⟩
    refine for_range (lo := 0) (n := (1 + r).toNat)
      (fun i σ H' => ∃ (x : Str) (v2 : Option V), σ = [some (.ref p), some (.str x), v2] ∧ But p H H' ∧ PurseAt H' p (n + 40 + 40 * i) ∧ x.length = i ∧ ∀ c ∈ x.cps.toList, 97 ≤ c ∧ c ≤ 122) ⟨_, _, rfl, hB, hP, rfl, fun c z => by cases z⟩ ?_ ?_
    · rintro i σ H' hi ⟨x, v2, rfl, hB', hP', hl, hc⟩
      refine ⟨_, rfl, .ref p, rfl, p, 26, _, rfl, hP', by omega, by decide, by decide +kernel, fun H2 r2 hB2 hP2 z0 z1 => ?_⟩
      have hj : r2.toNat < 26 := by omega
      have er : r2 = ((r2.toNat : Nat) : Int) := by omega
      have le := letter ⟨r2.toNat, hj⟩
      rw [← er] at le
      refine ⟨_, r2, _, rfl, rfl, by decide +kernel, le, _, _, rfl, rfl, ?_, ?_⟩
      · rw [hl, sizeLine_eq]
        show i + 1 ≤ 16777216
        omega
      · refine ⟨_, _, rfl, hB'.trans hB2, hP2.mono (by omega), ?_, fun c z => ?_⟩
        · rw [strLen_append, hl]
          rfl
        · rw [Str.cps_append, Array.toList_append] at z
          rcases List.mem_append.mp z with z | z
          · exact hc c z
          · have z' : c ∈ [97 + r2.toNat] := z
            obtain rfl := List.mem_singleton.mp z'
            omega
    · rintro σ H' ⟨x, v2, rfl, hB', hP', hl, hc⟩
      exact ⟨_, rfl, q H' x hB' (hP'.mono (by omega)) ⟨by omega, by omega, hc⟩⟩
end
end Eld
end L2

set_option Elab.async false
set_option linter.all false
set_option maxRecDepth 100000
set_option maxHeartbeats 4000000
/-! ## the checks of the program -/
namespace L2
namespace Eld
open PySem PySem.Spec PyProof.Rows PySem.EldX
/-- names of the library's that the module leaves as they are -/
structure Blt (mg : Str → Option Value) : Prop where
  len : mg "len" = none
  isinstance : mg "isinstance" = none
  int : mg "int" = none
  bool : mg "bool" = none
  str : mg "str" = none
  list : mg "list" = none
  set : mg "set" = none
  all : mg "all" = none
  sorted : mg "sorted" = none
  tuple : mg "tuple" = none
  range : mg "range" = none
  min : mg "min" = none
  max : mg "max" = none
  sum : mg "sum" = none
  repr : mg "repr" = none
/-- a list's type -/
theorem tyx_list {K : PySem.W.Frag} {H : Hp} {l : Addr} {xs : List V} (h : SqL K H l xs) : TyX K H (.ref l) (.type "list") := by
  rcases h with (h | ⟨o, h⟩) | ⟨o, vs, n, h, c, _⟩
  · exact .base (.lst h)
  · exact .base (.frz h)
  · exact .kList h c
theorem length_word {x : Str} (h : IsWord x) : x.length ≤ sizeLine := Nat.le_trans h.2.1 (by decide)
section
variable {P : Program} {w : World} {K : PySem.W.Frag} {mg : Str → Option Value} {base : Heap}
/-! ### is_whole -/
def spWhole : Sp := fun vs H Q _ => ∃ i : Int, vs = [.int i] ∧ Q (.bl true) H
theorem ok_whole {f : Addr} {fd : FuncData} {k : Nat} (F : Fun K "is_whole" "is_whole" sWhole f fd) (B : Blt mg) : FnOk P w K mg base CX0 (k + 1) f fd ["value"] spWhole := by
  refine F.ok scWhole (fun vs H Q E h => ?_) (fun cdv A outer s H vs Q E hr h => ?_)
  · obtain ⟨i, rfl, _⟩ := h
    rfl
  · obtain ⟨i, rfl, q⟩ := h
    refine ⟨_, (pss_one (ps_ret (pe_and (pe_callB call_isi (by rfl) B.isinstance (by decide +kernel) (pa_cons (pv 0) (pa_cons (pe_bltn (v := .ty "int") rfl B.int (by decide +kernel) rfl) pa_nil))) (pe_one (pe_not (pe_callB call_isi (by rfl) B.isinstance (by decide +kernel) (pa_cons (pv 0) (pa_cons (pe_bltn (v := .ty "bool") rfl B.bool (by decide +kernel) rfl) pa_nil)))))))), ?_⟩
    refine ⟨.int i, rfl, .int i, .ty "int", _, _, true, rfl, .ty _, .base (.int i), kit_ty (by decide +kernel), true, rfl, iteT ?_⟩
    exact ⟨.int i, rfl, .int i, .ty "bool", _, _, false, rfl, .ty _, .base (.int i), kit_ty (by decide +kernel), false, rfl, q⟩
/-! ### is_name -/
def spIsName : Sp := fun vs H Q _ => ∃ x : Str, vs = [.str x] ∧ IsWord x ∧ ∀ H', Same H H' → Q (.bl true) H'
theorem word_sign {x : Str} {c : Nat} {i : Nat} (h : IsWord x) (e : x.cps[i]? = some c) : 97 ≤ c ∧ c ≤ 122 := h.2.2 c (Array.mem_toList_iff.mpr (Array.mem_of_getElem? e))
theorem sign_in {c : Nat} (h : 97 ≤ c ∧ c ≤ 122) : (!decide ((⟨#[c]⟩ : Str).cps.toList < ("a" : Str).cps.toList)) = true ∧ (!decide (("z" : Str).cps.toList < (⟨#[c]⟩ : Str).cps.toList)) = true := by
  have ea : ("a" : Str).cps.toList = [97] := by decide +kernel
  have ez : ("z" : Str).cps.toList = [122] := by decide +kernel
  rw [ea, ez]
  refine ⟨?_, ?_⟩
  · rw [Bool.not_eq_true', decide_eq_false_iff_not]
    intro z
    rcases List.cons_lt_cons_iff.mp z with z | ⟨_, z⟩
    · omega
    · cases z
  · rw [Bool.not_eq_true', decide_eq_false_iff_not]
    intro z
    rcases List.cons_lt_cons_iff.mp z with z | ⟨_, z⟩
    · omega
    · cases z
theorem all_true {bs : List Bool} (h : ∀ (i : Nat) b, bs[i]? = some b → b = true) : bs.all id = true := List.all_eq_true.mpr fun b hb => by
  obtain ⟨i, hi⟩ := List.mem_iff_getElem?.mp hb
  exact h i b hi
theorem bls_of {acc : List V} (h : ∀ (i : Nat) y, acc[i]? = some y → y = V.bl true) : acc = (List.replicate acc.length true).map V.bl := by
  refine List.ext_getElem? fun i => ?_
  cases e : acc[i]? with
  | none => simp [List.getElem?_eq_none_iff.mp e]
  | some y =>
    have hi : i < acc.length := (List.getElem?_eq_some_iff.mp e).1
    rw [h i y e]
    simp [hi]
theorem ok_isName {f : Addr} {fd : FuncData} {k : Nat} (F : Fun K "is_name" "is_name" sIsName f fd) (B : Blt mg) : FnOk P w K mg base CX0 (k + 1) f fd ["value"] spIsName := by
  refine F.ok scIsName (fun vs H Q E h => ?_) (fun cdv A outer s H vs Q E hr h => ?_)
  · obtain ⟨x, rfl, _⟩ := h
    rfl
  · obtain ⟨x, rfl, hx, q⟩ := h
    refine ⟨_, (pss_cons (ps_if (PW.pt (pw_or (pt_not (pt_val (pe_callB call_isi (by rfl) B.isinstance (by decide +kernel) (pa_cons (pv 0) (pa_cons (pe_bltn (v := .ty "str") rfl B.str (by decide +kernel) rfl) pa_nil))))) (pw_or1 (pt_not (pt_chain op_le op_le pe_int (pe_callB call_len_str (by rfl) B.len PySem.boot_len (pa_cons (pv 0) pa_nil)) pe_int))))) (pss_one (ps_ret pe_bl)) pss_nil)
      (pss_one (ps_ret (pe_callB (cr_all rfl) (by rfl) B.all (by decide +kernel) (pa_cons (pe_lc (own := [("sign", 1)]) (g := gName 1) (tt := tYes) rfl scIsName.nd (pi_str (pv 0)) (blkOk_by (own := [("sign", 1)]) (N := NIsName) (sc := defScope sIsName) (by decide +kernel)) (fun _ _ _ _ _ => pg_name (i := 1) scIsName.nd rfl (.inl rfl)) (fun _ _ _ _ _ => pts_nil) (fun _ _ _ _ _ => (pe_chain op_le_str op_le_str pe_str (pv 1) pe_str))) pa_nil))))), ?_⟩
    refine ⟨.str x, rfl, .str x, .ty "str", _, _, true, rfl, .ty _, .base (.str x), kit_ty (by decide +kernel), true, rfl, iteF ?_⟩
    refine ⟨.str x, rfl, x, rfl, length_word hx, 1, _, rfl, rfl, true, congrArg V.bl (decide_eq_true (by have := hx.1; omega)), iteT ?_⟩
    refine ⟨_, 10, rfl, rfl, true, congrArg V.bl (decide_eq_true (by have := hx.2.1; omega)), iteF ?_⟩
    refine ⟨.str x, rfl, x, rfl, fun D hD => ?_⟩
    refine lc_out walk_str (fun _ y _ => y = .bl true) (Nat.lt_of_le_of_lt (show x.cps.size ≤ 10 from hx.2.1) (by decide)) hD (fun _ _ => trivial) (fun _ _ _ _ y => y.1) (fun _ _ _ _ _ _ _ o => o) ?_ ?_
    · rintro i v G hi sG ⟨_, c, hc, rfl⟩ R hR
      obtain ⟨z1, z2⟩ := sign_in (word_sign hx hc)
      exact ⟨rfl, .str _, rfl, _, _, rfl, rfl, true, congrArg V.bl z1, iteT ⟨_, _, rfl, rfl, hR _ _ (Same.refl _) (congrArg V.bl z2)⟩⟩
    · intro G acc sG hG hl ho
      have e := bls_of ho
      rw [e] at hG
      refine ⟨D, List.replicate acc.length true, rfl, SqL.of hG, ?_⟩
      rw [all_true fun i b hb => by
        have := List.getElem?_eq_some_iff.mp hb
        obtain ⟨h1, h2⟩ := this
        rw [← h2, List.getElem_replicate]]
      exact q G sG
/-! ### are_unlike -/
def spUnlike (K : PySem.W.Frag) : Sp := fun vs H Q _ => ∃ (l : Addr) (ys : List Str), vs = [.ref l] ∧ SqL K H l (ys.map V.str) ∧ ys.length ≤ 1000 ∧ ∀ H', Same H H' → Q (.bl (decide ys.Nodup)) H'
theorem ok_unlike {f : Addr} {fd : FuncData} {k : Nat} (F : Fun K "are_unlike" "are_unlike" sUnlike f fd) (B : Blt mg) : FnOk P w K mg base CX0 (k + 1) f fd ["names"] (spUnlike K) := by
  refine F.ok scUnlike (fun vs H Q E h => ?_) (fun cdv A outer s H vs Q E hr h => ?_)
  · obtain ⟨l, ys, rfl, _⟩ := h
    rfl
  · obtain ⟨l, ys, rfl, hS, hz, q⟩ := h
    refine ⟨_, (pss_one (ps_ret (pe_cmpR op_eq (pe_callB cr_lenS (by rfl) B.len PySem.boot_len (pa_cons (pe_callTy (cr_setS rfl) (by rfl) B.set (by decide +kernel) (pa_cons (pv 0) pa_nil)) pa_nil)) (pe_callB call_len_seq (by rfl) B.len PySem.boot_len (pa_cons (pv 0) pa_nil)) (nomark _)))), ?_⟩
    refine ⟨.ref l, rfl, l, ys, rfl, hS, hz, fun p m np hm hn => ?_⟩
    have s1 : Same H (upd H p (SetSO w p (fun j => decide (j ∈ ys)) m)) := Same.fresh np
    refine ⟨p, _, m, rfl, upd_same, .ref l, rfl, l, ys.map V.str, rfl, .inl (s1.seq hS), rfl, ?_⟩
    have e : decide (V.int (m : Int) = V.int ((ys.map V.str).length : Nat)) = decide ys.Nodup := by
      rw [List.length_map]
      refine decide_eq_decide.mpr ?_
      rw [V.int.injEq, ← hn]
      omega
    show Q (V.bl (decide (V.int (m : Int) = V.int ((ys.map V.str).length : Nat)))) _
    rw [e]
    exact q _ s1
/-! ### are_names -/
def spAreNames (K : PySem.W.Frag) : Sp := fun vs H Q _ => ∃ (l : Addr) (ys : List Str), vs = [.ref l] ∧ SqL K H l (ys.map V.str) ∧ ys.length ≤ 1000 ∧ (∀ y ∈ ys, IsWord y) ∧ ∀ H', Same H H' → Q (.bl (decide ys.Nodup)) H'
/-- the checks, where they stand -/
structure Chk (K : PySem.W.Frag) (mg : Str → Option Value) (fIsName fUnlike : Addr) (dIsName dUnlike : FuncData) : Prop where
  IsName : Fun K "is_name" "is_name" sIsName fIsName dIsName
  Unlike : Fun K "are_unlike" "are_unlike" sUnlike fUnlike dUnlike
  gIsName : mg "is_name" = some (.ref fIsName)
  gUnlike : mg "are_unlike" = some (.ref fUnlike)
theorem Chk.bIsName {f1 f2 : Addr} {d1 d2 : FuncData} (L : Chk K mg f1 f2 d1 d2) : Binds K d1 ["value"] [] := L.IsName.binds fun _ _ _ _ _ _ us hl => match us, hl with | [_], _ => rfl
theorem Chk.bUnlike {f1 f2 : Addr} {d1 d2 : FuncData} (L : Chk K mg f1 f2 d1 d2) : Binds K d2 ["names"] [] := L.Unlike.binds fun _ _ _ _ _ _ us hl => match us, hl with | [_], _ => rfl
theorem ok_areNames {f f1 f2 : Addr} {fd d1 d2 : FuncData} (F : Fun K "are_names" "are_names" sAreNames f fd) (L : Chk K mg f1 f2 d1 d2) (B : Blt mg) : FnOk P w K mg base CX0 2 f fd ["value"] (spAreNames K) := by
  have GIsName : FnOk P w K mg base CX0 1 f1 d1 ["value"] spIsName := ok_isName L.IsName B
  have GUnlike : FnOk P w K mg base CX0 1 f2 d2 ["names"] (spUnlike K) := ok_unlike L.Unlike B
  refine F.ok scAreNames (fun vs H Q E h => ?_) (fun cdv A outer s H vs Q E hr h => ?_)
  · obtain ⟨l, ys, rfl, _⟩ := h
    rfl
  · obtain ⟨l, ys, rfl, hS, hz, hw, q⟩ := h
    refine ⟨_, (pss_cons (ps_if (PW.pt (pw_or (pt_not (pt_val (pe_callB call_isi (by rfl) B.isinstance (by decide +kernel) (pa_cons (pv 0) (pa_cons (pe_bltn (v := .ty "list") rfl B.list (by decide +kernel) rfl) pa_nil))))) (pw_or1 (pt_not (pt_val (pe_callB (cr_all rfl) (by rfl) B.all (by decide +kernel) (pa_cons (pe_lc (own := [("name", 1)]) (g := gName 1) (tt := tYes) rfl scAreNames.nd (pi_list (pv 0)) (blkOk_by (own := [("name", 1)]) (N := NAreNames) (sc := defScope sAreNames) (by decide +kernel)) (fun _ _ _ _ _ => pg_name (i := 1) scAreNames.nd rfl (.inl rfl)) (fun _ _ _ _ _ => pts_nil) (fun _ _ _ _ _ => (pe_call GIsName (hr.mono (by decide)) (by rfl) L.gIsName L.IsName.kp L.bIsName .nil pass0 (pa_cons (pv 1) pa_nil)))) pa_nil))))))) (pss_one (ps_ret pe_bl)) pss_nil)
      (pss_one (ps_ret (pe_call GUnlike (hr.mono (by decide)) (by rfl) L.gUnlike L.Unlike.kp L.bUnlike .nil pass0 (pa_cons (pv 0) pa_nil))))), ?_⟩
    refine ⟨.ref l, rfl, .ref l, .ty "list", _, _, true, rfl, .ty _, tyx_list hS, kit_ty (by decide +kernel), true, rfl, iteF ?_⟩
    refine ⟨.ref l, rfl, l, rfl, ⟨_, hS⟩, fun D hD => ?_⟩
    refine lc_out walk_list (fun _ y _ => y = .bl true) (by rw [List.length_map, sizeLine_eq]; omega) hD (fun G s => s.seq hS) (fun _ _ _ _ y => y.1) (fun _ _ _ _ _ _ _ o => o) ?_ ?_
    · rintro i v G hi sG ⟨_, hv⟩ R hR
      obtain ⟨y, hy, rfl⟩ : ∃ y, ys[i]? = some y ∧ v = V.str y := by
        rw [List.getElem?_map] at hv
        cases e : ys[i]? with
        | none => rw [e] at hv; cases hv
        | some y => rw [e] at hv; exact ⟨y, rfl, (Option.some.inj hv).symm⟩
      exact ⟨rfl, .str y, rfl, y, rfl, hw y (List.mem_of_getElem? hy), fun G' s' => hR _ G' s' rfl⟩
    · intro G acc sG hG hl ho
      have e := bls_of ho
      rw [e] at hG
      refine ⟨D, List.replicate acc.length true, rfl, SqL.of hG, true, congrArg V.bl (all_true fun i b hb => ?_), iteF ?_⟩
      · obtain ⟨h1, h2⟩ := List.getElem?_eq_some_iff.mp hb
        rw [← h2, List.getElem_replicate]
      · exact ⟨.ref l, rfl, l, ys, rfl, sG.seq hS, hz, fun G' s' => q G' (sG.trans s')⟩
end
end Eld
end L2

set_option Elab.async false
set_option linter.all false
set_option maxRecDepth 100000
set_option maxHeartbeats 4000000
/-! ## askers -/
namespace L2
namespace Eld
open PySem PySem.Spec PyProof.Rows PySem.EldX
/-- what an asker is made of -/
structure Ask where
  nm : Str
  ks : List Str
  m : Int
theorem Ask.ext' {a b : Ask} (h1 : a.nm = b.nm) (h2 : a.ks = b.ks) (h3 : a.m = b.m) : a = b := by
  cases a
  cases b
  cases h1
  cases h2
  cases h3
  rfl
instance : DecidableEq Ask := fun a b =>
  if h1 : a.nm = b.nm then if h2 : a.ks = b.ks then if h3 : a.m = b.m then .isTrue (Ask.ext' h1 h2 h3) else .isFalse fun e => h3 (e ▸ rfl) else .isFalse fun e => h2 (e ▸ rfl) else .isFalse fun e => h1 (e ▸ rfl)
abbrev afs (nm : Str) (t : Addr) (m : Int) : List (Str × V) := [(("_name" : Str), .str nm), (("_fits" : Str), .ref t), (("_most" : Str), .int m)]
/-- the asker k at a -/
def AskAt (C : Addr) (H : Hp) (a : Addr) (k : Ask) : Prop := ∃ dx t : Addr, H a = some (.ins C dx (afs k.nm t k.m)) ∧ H t = some (.tup (k.ks.map V.str))
theorem AskAt.same {C : Addr} {H H' : Hp} {a : Addr} {k : Ask} (h : AskAt C H a k) (s : Same H H') : AskAt C H' a k := by
  obtain ⟨dx, t, h1, h2⟩ := h
  exact ⟨dx, t, s _ _ h1, s _ _ h2⟩
/-- .. where nothing but a list changes -/
theorem AskAt.off {C D : Addr} {H H' : Hp} {a : Addr} {k : Ask} {xs : List V} (h : AskAt C H a k) (hD : H D = some (.lst xs)) (s : ∀ b o, b ≠ D → H b = some o → H' b = some o) : AskAt C H' a k := by
  obtain ⟨dx, t, h1, h2⟩ := h
  refine ⟨dx, t, s _ _ (fun e => ?_) h1, s _ _ (fun e => ?_) h2⟩
  · rw [e, hD] at h1
    cases h1
  · rw [e, hD] at h2
    cases h2
theorem AskAt.ins {C : Addr} {H : Hp} {a : Addr} {k : Ask} (h : AskAt C H a k) : ∃ (dx : Addr) (fs : List (Str × V)), H a = some (.ins C dx fs) := by
  obtain ⟨dx, t, h1, _⟩ := h
  exact ⟨dx, _, h1⟩
theorem strs_inj {xs ys : List Str} (h : xs.map V.str = ys.map V.str) : xs = ys := List.map_inj_right (fun a b e => by cases e; rfl) |>.mp h
/-- there is one asker at an address -/
theorem AskAt.unique {C : Addr} {H : Hp} {a : Addr} {k k' : Ask} (h : AskAt C H a k) (h' : AskAt C H a k') : k = k' := by
  obtain ⟨dx, t, h1, h2⟩ := h
  obtain ⟨dx', t', h1', h2'⟩ := h'
  rw [h1] at h1'
  have e1 := Option.some.inj h1'
  injection e1 with _ _ e2
  simp only [List.cons.injEq, Prod.mk.injEq, V.str.injEq, V.ref.injEq, V.int.injEq, true_and, and_true] at e2
  obtain ⟨e3, e4, e5⟩ := e2
  subst e4
  rw [h2] at h2'
  have e6 := Option.some.inj h2'
  injection e6 with e7
  exact Ask.ext' e3 (strs_inj e7) e5
/-- what a valid asker is -/
structure AskOk (k : Ask) : Prop where
  nm : IsWord k.nm
  ks : ∀ y ∈ k.ks, IsWord y
  nd : k.ks.Nodup
  ne : k.ks ≠ []
  lt : k.ks.length < 64
  so : sortedS k.ks = true
  m : 1 ≤ k.m
/-- a plain class of one's own, asked by isinstance -/
structure InsC (K : PySem.W.Frag) (C : Addr) : Prop where
  cl : Cls K C
  ha : PySem.W.findIn K (.ref C) "__class__" = some (some (.builtin "object.__class__"))
  hn : PySem.W.specialIn K (.builtin "object.__class__") "__get__" = some (some (.builtin "getset_descriptor.__get__"))
  ht : PySem.W.takesIn K (.builtin "object.__class__") = some true
  hm : PySem.W.mroIn K C (.type "object") = some true
  me : PySem.W.kitOne K (.ref C) (.ref C) = some true
structure ACls (K : PySem.W.Frag) (C fI pN gN pF gF pM gM fE : Addr) : Prop where
  ins : InsC K C
  noN : NoAttr K C "_name"
  noF : NoAttr K C "_fits"
  noM : NoAttr K C "_most"
  make : Mk K C fI
  pN : PropOf K C "name" pN gN
  pF : PropOf K C "fits" pF gF
  pM : PropOf K C "most" pM gM
  own : OwnE K C fE
theorem tyx_ask {K : PySem.W.Frag} {C a : Addr} {H : Hp} {dx : Addr} {fs : List (Str × V)} (T : InsC K C) (h : H a = some (.ins C dx fs)) : TyX K H (.ref a) (.ref C) := .base (TyOf.ins h T.cl T.ha T.hn T.ht T.hm)
/-- a list that is tracked or written, away from an instance -/
theorem sql_off {K : PySem.W.Frag} {C a dx l : Addr} {H H' : Hp} {fs : List (Str × V)} {xs : List V} (h : SqL K H l xs) (ha : H a = some (.ins C dx fs)) (s : ∀ b o, b ≠ a → H b = some o → H' b = some o) : SqL K H' l xs := by
  rcases h with (h | ⟨o, h⟩) | h
  · exact .inl (.inl (s _ _ (fun e => by rw [e, ha] at h; cases h) h))
  · exact .inl (.inr ⟨o, s _ _ (fun e => by rw [e, ha] at h; cases h) h⟩)
  · exact .inr h
theorem off_upd {a : Addr} {H : Hp} {o : HO} : ∀ b u, b ≠ a → H b = some u → upd H a o b = some u := fun b u hb e => by
  rw [upd_ne hb]
  exact e
theorem putF_len {f : Str} {v : V} : ∀ fs : List (Str × V), (putF f v fs).length ≤ fs.length + 1
  | [] => Nat.le_refl _
  | (g, x) :: r => by
    have ih := putF_len (f := f) (v := v) r
    unfold putF
    split
    · simp
    · simp only [List.length_cons]
      omega
theorem putF_few {f : Str} {v : V} {fs : List (Str × V)} (h : fs.length < 900) : (putF f v fs).length < 1000 := Nat.lt_of_le_of_lt (putF_len fs) (by omega)
section
variable {P : Program} {w : World} {K : PySem.W.Frag} {mg : Str → Option Value} {base : Heap} {C fI pN gN pF gF pM gM fE : Addr}
/-- more checks, where they stand -/
structure Chk2 (K : PySem.W.Frag) (mg : Str → Option Value) (fWhole fAreNames : Addr) (dWhole dAreNames : FuncData) : Prop where
  Whole : Fun K "is_whole" "is_whole" sWhole fWhole dWhole
  AreNames : Fun K "are_names" "are_names" sAreNames fAreNames dAreNames
  gWhole : mg "is_whole" = some (.ref fWhole)
  gAreNames : mg "are_names" = some (.ref fAreNames)
theorem Chk2.bWhole {f1 f2 : Addr} {d1 d2 : FuncData} (L : Chk2 K mg f1 f2 d1 d2) : Binds K d1 ["value"] [] := L.Whole.binds fun _ _ _ _ _ _ us hl => match us, hl with | [_], _ => rfl
theorem Chk2.bAreNames {f1 f2 : Addr} {d1 d2 : FuncData} (L : Chk2 K mg f1 f2 d1 d2) : Binds K d2 ["value"] [] := L.AreNames.binds fun _ _ _ _ _ _ us hl => match us, hl with | [_], _ => rfl
/-! ### __init__ -/
def spAInit (K : PySem.W.Frag) (C : Addr) : Sp := fun vs H Q _ => ∃ (a dx l : Addr) (nm : Str) (ys : List Str) (m : Int), vs = [.ref a, .str nm, .ref l, .int m] ∧ H a = some (.ins C dx []) ∧ IsWord nm ∧ SqL K H l (ys.map V.str) ∧ (∀ y ∈ ys, IsWord y) ∧ ys.Nodup ∧ ys ≠ [] ∧ ys.length < 64 ∧ 1 ≤ m ∧
  ∀ (H' : Hp) (zs : List Str), (∀ b o, b ≠ a → H b = some o → H' b = some o) → AskAt C H' a ⟨nm, zs, m⟩ → zs.Perm ys → sortedS zs = true → Q .non H'
theorem ok_ainit {f f1 f2 f3 f4 : Addr} {fd d1 d2 d3 d4 : FuncData} (F : Fun K "__init__" "Asker.__init__" sAInit f fd) (L : Chk K mg f1 f2 d1 d2) (L2 : Chk2 K mg f3 f4 d3 d4) (B : Blt mg) (T : ACls K C fI pN gN pF gF pM gM fE) :
    FnOk P w K mg base CX0 3 f fd ["self", "name", "fits", "most"] (spAInit K C) := by
  have GIsName : FnOk P w K mg base CX0 1 f1 d1 ["value"] spIsName := ok_isName L.IsName B
  have GWhole : FnOk P w K mg base CX0 1 f3 d3 ["value"] spWhole := ok_whole L2.Whole B
  have GAreNames : FnOk P w K mg base CX0 2 f4 d4 ["value"] (spAreNames K) := ok_areNames L2.AreNames L B
  refine F.ok scAInit (fun vs H Q E h => ?_) (fun cdv A outer s H vs Q E hr h => ?_)
  · obtain ⟨a, dx, l, nm, ys, m, rfl, _⟩ := h
    rfl
  · obtain ⟨a, dx, l, nm, ys, m, rfl, ha, hnm, hS, hw, hnd, hne, hlt, hm, q⟩ := h
    refine ⟨_, (pss_cons (ps_if (pt_not (pt_val (pe_call GIsName (hr.mono (by decide)) (by rfl) L.gIsName L.IsName.kp L.bIsName .nil pass0 (pa_cons (pv 1) pa_nil)))) (pss_one (ps_dead _)) pss_nil)
      (pss_cons (ps_if (PW.pt (pw_or (pt_not (pt_val (pe_call GAreNames (hr.mono (by decide)) (by rfl) L2.gAreNames L2.AreNames.kp L2.bAreNames .nil pass0 (pa_cons (pv 2) pa_nil)))) (pw_or1 (pt_cmpR op_eq (pe_callB call_len_seq (by rfl) B.len PySem.boot_len (pa_cons (pv 2) pa_nil)) pe_int (nomark _))))) (pss_one (ps_dead _)) pss_nil)
      (pss_cons (ps_if (PW.pt (pw_or (pt_not (pt_val (pe_call GWhole (hr.mono (by decide)) (by rfl) L2.gWhole L2.Whole.kp L2.bWhole .nil pass0 (pa_cons (pv 3) pa_nil)))) (pw_or1 (pt_cmpR op_lt (pv 3) pe_int (nomark _))))) (pss_one (ps_dead _)) pss_nil)
      (pss_cons (ps_fld (pv 0) (pv 1) rfl)
      (pss_cons (ps_fld (pv 0) (pe_callTy call_tuple_of (by rfl) B.tuple (by decide +kernel) (pa_cons (pe_callB cr_sortedS (by rfl) B.sorted (by decide +kernel) (pa_cons (pv 2) pa_nil)) pa_nil)) rfl)
      (pss_one (ps_fld (pv 0) (pv 3) rfl))))))), ?_⟩
    refine ⟨.str nm, rfl, nm, rfl, hnm, fun H1 s1 => ⟨true, rfl, iteF ?_⟩⟩
    refine ⟨.ref l, rfl, l, ys, rfl, s1.seq hS, by omega, hw, fun H2 s2 => ⟨_, rfl, ?_⟩⟩
    rw [decide_eq_true hnd]
    have s12 := s1.trans s2
    refine iteF ⟨.ref l, rfl, l, _, rfl, .inl (s12.seq hS), rfl, _, rfl, ?_⟩
    have hpos : 0 < ys.length := List.length_pos_iff.mpr hne
    have e0 : decide (V.int ((ys.map V.str).length : Nat) = V.int 0) = false := by
      rw [List.length_map]
      refine decide_eq_false fun z => ?_
      rw [V.int.injEq] at z
      omega
    rw [e0]
    refine iteF ⟨.int m, rfl, m, rfl, true, rfl, iteF ⟨.int m, rfl, m, 1, rfl, rfl, _, rfl, ?_⟩⟩
    rw [decide_eq_false (by omega : ¬ m < 1)]
    refine iteF ⟨.str nm, rfl, .ref a, rfl, a, C, dx, [], rfl, s12 _ _ ha, T.ins.cl, T.noN, by decide, ?_⟩
    refine ⟨.ref l, rfl, l, ys, rfl, sql_off (s12.seq hS) (s12 _ _ ha) off_upd, hlt, fun zs p hp hs np => ?_⟩
    refine ⟨p, zs.map V.str, rfl, .inl ⟨.inl (.inl upd_same), fun t nt => ?_⟩⟩
    have npa : p ≠ a := fun e => by
      rw [e, upd_same] at np
      cases np
    have nta : t ≠ a := fun e => by
      rw [e, upd_ne (Ne.symm npa), upd_same] at nt
      cases nt
    refine ⟨.ref a, rfl, a, C, dx, _, rfl, by rw [upd_ne (Ne.symm nta), upd_ne (Ne.symm npa)]; exact upd_same, T.ins.cl, T.noF, putF_few (by decide), ?_⟩
    refine ⟨.int m, rfl, .ref a, rfl, a, C, dx, _, rfl, upd_same, T.ins.cl, T.noM, Nat.lt_of_le_of_lt (putF_len _) (Nat.lt_of_le_of_lt (Nat.succ_le_succ (putF_len _)) (by decide)), ?_⟩
    refine q _ zs (fun b o hb e => ?_) ⟨dx, t, upd_same, by rw [upd_ne nta, upd_ne nta]; exact upd_same⟩ hp hs
    have e2 := s12 b o e
    have e3 : upd H2 a (.ins C dx (putF "_name" (.str nm) [])) b = some o := by
      rw [upd_ne hb]
      exact e2
    rw [upd_ne hb, upd_ne hb, upd_ne (ne_of_none (by rw [upd_ne (ne_of_none e3 np)]; exact e3) nt), upd_ne (ne_of_none e3 np)]
    exact e3
/-- Asker(nm, l, m) -/
theorem made_asker {H1 : Hp} {Q : Addr → Hp → Prop} {E : XK} {nm : Str} {l : Addr} {ys : List Str} {m : Int} (hnm : IsWord nm) (hS : SqL K H1 l (ys.map V.str)) (hw : ∀ y ∈ ys, IsWord y) (hnd : ys.Nodup) (hne : ys ≠ []) (hlt : ys.length < 64) (hm : 1 ≤ m)
    (q : ∀ (H' : Hp) (x : Addr) (zs : List Str), Same H1 H' → H1 x = none → AskAt C H' x ⟨nm, zs, m⟩ → zs.Perm ys → sortedS zs = true → Q x H') :
    ∀ x dx, H1 x = none → H1 dx = none → dx ≠ x → spAInit K C (.ref x :: ([.str nm, .ref l, .int m] ++ [])) (upd (upd H1 dx (.own x)) x (.ins C dx [])) (fun v H2 => v = .non ∧ Q x H2) E := by
  intro x dx nx ndx ne
  have s1 : Same H1 (upd (upd H1 dx (.own x)) x (.ins C dx [])) := Same.put (Same.fresh ndx) nx
  refine ⟨x, dx, l, nm, ys, m, rfl, upd_same, hnm, s1.seq hS, hw, hnd, hne, hlt, hm, fun H' zs k A hp hs => ⟨rfl, q H' x zs (fun b o e => k b o (ne_of_none e nx) (s1 b o e)) nx A hp hs⟩⟩
/-! ### name, fits, most -/
def spAName (C : Addr) : Sp := fun vs H Q _ => ∃ (a : Addr) (k : Ask), vs = [.ref a] ∧ AskAt C H a k ∧ Q (.str k.nm) H
def spAMost (C : Addr) : Sp := fun vs H Q _ => ∃ (a : Addr) (k : Ask), vs = [.ref a] ∧ AskAt C H a k ∧ Q (.int k.m) H
def spAFits (C : Addr) : Sp := fun vs H Q _ => ∃ (a : Addr) (k : Ask), vs = [.ref a] ∧ AskAt C H a k ∧ ∀ p, H p = none → Q (.ref p) (upd H p (.lst (k.ks.map V.str)))
theorem ok_aname {f : Addr} {fd : FuncData} {k : Nat} (F : Fun K "name" "Asker.name" sAName f fd) (T : ACls K C fI pN gN pF gF pM gM fE) : FnOk P w K mg base CX0 (k + 1) f fd ["self"] (spAName C) := by
  refine F.ok scAName (fun vs H Q E h => ?_) (fun cdv A outer s H vs Q E hr h => ?_)
  · obtain ⟨a, k, rfl, _⟩ := h
    rfl
  · obtain ⟨a, k, rfl, ⟨dx, t, h1, h2⟩, q⟩ := h
    refine ⟨_, (pss_one (ps_ret (pe_fld (pv 0) rfl))), ?_⟩
    exact ⟨.ref a, rfl, a, C, dx, _, _, rfl, h1, T.ins.cl, T.noN, rfl, q⟩
theorem ok_amost {f : Addr} {fd : FuncData} {k : Nat} (F : Fun K "most" "Asker.most" sAMost f fd) (T : ACls K C fI pN gN pF gF pM gM fE) : FnOk P w K mg base CX0 (k + 1) f fd ["self"] (spAMost C) := by
  refine F.ok scAMost (fun vs H Q E h => ?_) (fun cdv A outer s H vs Q E hr h => ?_)
  · obtain ⟨a, k, rfl, _⟩ := h
    rfl
  · obtain ⟨a, k, rfl, ⟨dx, t, h1, h2⟩, q⟩ := h
    refine ⟨_, (pss_one (ps_ret (pe_fld (pv 0) rfl))), ?_⟩
    exact ⟨.ref a, rfl, a, C, dx, _, _, rfl, h1, T.ins.cl, T.noM, rfl, q⟩
theorem ok_afits {f : Addr} {fd : FuncData} {k : Nat} (F : Fun K "fits" "Asker.fits" sAFits f fd) (B : Blt mg) (T : ACls K C fI pN gN pF gF pM gM fE) : FnOk P w K mg base CX0 (k + 1) f fd ["self"] (spAFits C) := by
  refine F.ok scAFits (fun vs H Q E h => ?_) (fun cdv A outer s H vs Q E hr h => ?_)
  · obtain ⟨a, k, rfl, _⟩ := h
    rfl
  · obtain ⟨a, k, rfl, ⟨dx, t, h1, h2⟩, q⟩ := h
    refine ⟨_, (pss_one (ps_ret (pe_callTy call_list_of (by rfl) B.list (by decide +kernel) (pa_cons (pe_fld (pv 0) rfl) pa_nil)))), ?_⟩
    exact ⟨.ref a, rfl, a, C, dx, _, _, rfl, h1, T.ins.cl, T.noF, rfl, t, k.ks.map V.str, rfl, .inr (SqT.of h2), q⟩
/-! ### == -/
abbrev DFl : Eqd := fun x y _ b => flatV x = true ∧ flatV y = true ∧ eqV x y = b
theorem eql_strs {H : Hp} : ∀ xs ys : List Str, EqL DFl H (xs.map V.str) (ys.map V.str) (decide (xs = ys))
  | [], [] => .nil
  | [], y :: ys => by
    rw [decide_eq_false (by simp)]
    exact .left
  | x :: xs, [] => by
    rw [decide_eq_false (by simp)]
    exact .right
  | x :: xs, y :: ys => by
    have e : eqV (V.str x) (V.str y) = decide (x = y) := by
      show (x == y) = decide (x = y)
      by_cases q : x = y <;> simp [q]
    by_cases h : x = y
    · subst h
      have ih := eql_strs (H := H) xs ys
      rw [show decide (x :: xs = x :: ys) = decide (xs = ys) by simp]
      exact .go ⟨rfl, rfl, by rw [e]; simp⟩ ih
    · rw [decide_eq_false (by simp [h])]
      exact .stop ⟨rfl, rfl, by rw [e]; simp [h]⟩
/-- the answer of an asker's == -/
def RA (K : PySem.W.Frag) (C : Addr) (a : Addr) (y : V) (H : Hp) (b : Bool) : Prop :=
  ∃ k : Ask, AskAt C H a k ∧ ((∃ (c : Addr) (k' : Ask), y = .ref c ∧ AskAt C H c k' ∧ b = decide (k = k')) ∨ ∃ t : Value, TyX K H y t ∧ PySem.W.kitOne K t (.ref C) = some false ∧ b = false)
theorem ok_aeq {f : Addr} {fd : FuncData} (F : Fun K "__eq__" "Asker.__eq__" sAEq f fd) (B : Blt mg) (T : ACls K C fI pN gN pF gF pM gM fE) (gC : mg "Asker" = some (.ref C)) : FnOk P w K mg base CX0 2 f fd ["self", "other"] (spEqB (RA K C)) := by
  refine F.ok scAEq (fun vs H Q E h => ?_) (fun cdv A outer s H vs Q E hr h => ?_)
  · obtain ⟨a, y, b, rfl, _⟩ := h
    rfl
  · obtain ⟨a, y, b, rfl, ⟨k, ⟨dx, t, h1, h2⟩, r⟩, q⟩ := h
    refine ⟨_, (pss_one (ps_ret (pe_and (pe_callB call_isi (by rfl) B.isinstance (by decide +kernel) (pa_cons (pv 1) (pa_cons (pe_glob (v := .ref C) rfl gC rfl) pa_nil))) (pe_and (pe_cmpR op_eq (pe_fld (pv 0) rfl) (pe_fld (pv 1) rfl) (nomark _)) (pe_and (pe_cmpR (op_rcB (rcB_tup eqB_flat) (hr.mono (by decide))) (pe_fld (pv 0) rfl) (pe_fld (pv 1) rfl) (nomark _)) (pe_one (pe_cmpR op_eq (pe_fld (pv 0) rfl) (pe_fld (pv 1) rfl) (nomark _)))))))), ?_⟩
    rcases r with ⟨c, k', rfl, ⟨dx', t', h1', h2'⟩, rfl⟩ | ⟨u, ty, no, rfl⟩
    · refine ⟨.ref c, rfl, .ref c, .ref C, .ref C, .ref C, true, rfl, .own C, tyx_ask T.ins h1', T.ins.me, true, rfl, iteT ?_⟩
      refine ⟨.ref a, rfl, a, C, dx, _, _, rfl, h1, T.ins.cl, T.noN, rfl, .ref c, rfl, c, C, dx', _, _, rfl, h1', T.ins.cl, T.noN, rfl, rfl, _, rfl, ?_⟩
      rw [show decide (V.str k.nm = V.str k'.nm) = decide (k.nm = k'.nm) by simp]
      refine ite2 (fun e1 => ?_) fun e1 => ?_
      · have e1 := of_decide_eq_true e1
        refine ⟨.ref a, rfl, a, C, dx, _, _, rfl, h1, T.ins.cl, T.noF, rfl, .ref c, rfl, c, C, dx', _, _, rfl, h1', T.ins.cl, T.noF, rfl, decide (k.ks = k'.ks), ⟨t, t', _, _, rfl, rfl, SqT.of h2, SqT.of h2', eql_strs _ _⟩, _, rfl, ?_⟩
        refine ite2 (fun e2 => ?_) fun e2 => ?_
        · have e2 := of_decide_eq_true e2
          refine ⟨.ref a, rfl, a, C, dx, _, _, rfl, h1, T.ins.cl, T.noM, rfl, .ref c, rfl, c, C, dx', _, _, rfl, h1', T.ins.cl, T.noM, rfl, rfl, ?_⟩
          have e : decide (V.int k.m = V.int k'.m) = decide (k = k') := decide_eq_decide.mpr ⟨fun z => Ask.ext' e1 e2 (V.int.inj z), fun z => by rw [z]⟩
          show Q (V.bl (decide (V.int k.m = V.int k'.m))) H
          rw [e]
          exact q
        · have e2 : k.ks ≠ k'.ks := fun z => e2 (decide_eq_true z)
          rw [decide_eq_false (p := k = k') fun z => e2 (by rw [z])] at q
          exact q
      · have e1 : k.nm ≠ k'.nm := fun z => e1 (decide_eq_true z)
        rw [decide_eq_false (p := k = k') fun z => e1 (by rw [z])] at q
        exact q
    · exact ⟨y, rfl, y, .ref C, u, .ref C, false, rfl, .own C, ty, no, false, rfl, iteF q⟩
end
end Eld
end L2

set_option Elab.async false
set_option linter.all false
set_option maxRecDepth 100000
set_option maxHeartbeats 4000000
/-! ## lines -/
namespace L2
namespace Eld
open PySem PySem.Spec PyProof.Rows PySem.EldX
/-- askers, one by one -/
inductive Asks (C : Addr) (H : Hp) : List Addr → List Ask → Prop
  | nil : Asks C H [] []
  | cons {a : Addr} {k : Ask} {as : List Addr} {ks : List Ask} : AskAt C H a k → Asks C H as ks → Asks C H (a :: as) (k :: ks)
theorem Asks.len {C : Addr} {H : Hp} : ∀ {as : List Addr} {ks : List Ask}, Asks C H as ks → as.length = ks.length
  | _, _, .nil => rfl
  | _, _, .cons _ t => congrArg (· + 1) t.len
theorem Asks.same {C : Addr} {H H' : Hp} (s : Same H H') : ∀ {as : List Addr} {ks : List Ask}, Asks C H as ks → Asks C H' as ks
  | _, _, .nil => .nil
  | _, _, .cons h t => .cons (h.same s) (t.same s)
theorem Asks.get {C : Addr} {H : Hp} : ∀ {as : List Addr} {ks : List Ask} {i : Nat} {a : Addr}, Asks C H as ks → as[i]? = some a → ∃ k, ks[i]? = some k ∧ AskAt C H a k
  | _, _, i, _, .nil, h => by simp at h
  | _, _, 0, _, .cons h t, e => by
    simp only [List.getElem?_cons_zero, Option.some.injEq] at e
    subst e
    exact ⟨_, rfl, h⟩
  | _, _, i + 1, _, .cons h t, e => by
    simp only [List.getElem?_cons_succ] at e ⊢
    exact t.get e
theorem Asks.append {C : Addr} {H : Hp} : ∀ {as : List Addr} {ks : List Ask} {bs : List Addr} {ls : List Ask}, Asks C H as ks → Asks C H bs ls → Asks C H (as ++ bs) (ks ++ ls)
  | _, _, _, _, .nil, q => q
  | _, _, _, _, .cons h t, q => .cons h (t.append q)
theorem Asks.take {C : Addr} {H : Hp} : ∀ {as : List Addr} {ks : List Ask} (i : Nat), Asks C H as ks → Asks C H (as.take i) (ks.take i)
  | _, _, 0, _ => .nil
  | _, _, _ + 1, .nil => .nil
  | _, _, i + 1, .cons h t => .cons h (t.take i)
theorem Asks.drop {C : Addr} {H : Hp} : ∀ {as : List Addr} {ks : List Ask} (i : Nat), Asks C H as ks → Asks C H (as.drop i) (ks.drop i)
  | _, _, 0, h => h
  | _, _, _ + 1, .nil => .nil
  | _, _, i + 1, .cons h t => t.drop i
theorem Asks.rev {C : Addr} {H : Hp} : ∀ {as : List Addr} {ks : List Ask}, Asks C H as ks → Asks C H as.reverse ks.reverse
  | _, _, .nil => .nil
  | _, _, .cons h t => by
    rw [List.reverse_cons, List.reverse_cons]
    exact t.rev.append (.cons h .nil)
theorem Asks.unique {C : Addr} {H : Hp} : ∀ {as : List Addr} {ks ls : List Ask}, Asks C H as ks → Asks C H as ls → ks = ls
  | _, _, _, .nil, .nil => rfl
  | _, _, _, .cons h t, .cons h' t' => by rw [h.unique h', t.unique t']
theorem Asks.off {C D : Addr} {H H' : Hp} {xs : List V} (hD : H D = some (.lst xs)) (s : ∀ b o, b ≠ D → H b = some o → H' b = some o) : ∀ {as : List Addr} {ks : List Ask}, Asks C H as ks → Asks C H' as ks
  | _, _, .nil => .nil
  | _, _, .cons h t => .cons (h.off hD s) (t.off hD s)
/-- away from an instance of another class -/
theorem AskAt.away {C D a : Addr} {H H' : Hp} {dx b : Addr} {fs : List (Str × V)} {k : Ask} (ha : H a = some (.ins D dx fs)) (ne : D ≠ C) (s : ∀ b o, b ≠ a → H b = some o → H' b = some o) (h : AskAt C H b k) : AskAt C H' b k := by
  obtain ⟨dx', t, h1, h2⟩ := h
  refine ⟨dx', t, s _ _ (fun e => ?_) h1, s _ _ (fun e => ?_) h2⟩
  · rw [e, ha] at h1
    cases h1
    exact ne rfl
  · rw [e, ha] at h2
    cases h2
theorem Asks.away {C D a : Addr} {H H' : Hp} {dx : Addr} {fs : List (Str × V)} (ha : H a = some (.ins D dx fs)) (ne : D ≠ C) (s : ∀ b o, b ≠ a → H b = some o → H' b = some o) : ∀ {as : List Addr} {ks : List Ask}, Asks C H as ks → Asks C H' as ks
  | _, _, .nil => .nil
  | _, _, .cons h t => .cons (h.away ha ne s) (Asks.away ha ne s t)
abbrev lfs (t : Addr) : List (Str × V) := [(("_askers" : Str), .ref t)]
/-- the line of the askers at as, who are ks, stands at a -/
def LineAt (CL CA : Addr) (H : Hp) (a : Addr) (as : List Addr) (ks : List Ask) : Prop := ∃ dx t : Addr, H a = some (.ins CL dx (lfs t)) ∧ H t = some (.tup (as.map V.ref)) ∧ Asks CA H as ks
theorem LineAt.same {CL CA : Addr} {H H' : Hp} {a : Addr} {as : List Addr} {ks : List Ask} (h : LineAt CL CA H a as ks) (s : Same H H') : LineAt CL CA H' a as ks := by
  obtain ⟨dx, t, h1, h2, h3⟩ := h
  exact ⟨dx, t, s _ _ h1, s _ _ h2, h3.same s⟩
theorem LineAt.ins {CL CA : Addr} {H : Hp} {a : Addr} {as : List Addr} {ks : List Ask} (h : LineAt CL CA H a as ks) : ∃ (dx : Addr) (fs : List (Str × V)), H a = some (.ins CL dx fs) := by
  obtain ⟨dx, t, h1, _⟩ := h
  exact ⟨dx, _, h1⟩
structure LCls (K : PySem.W.Frag) (C fI fE fL fA fN fK fR fP : Addr) : Prop where
  ins : InsC K C
  noA : NoAttr K C "_askers"
  make : Mk K C fI
  own : OwnE K C fE
  len : PySem.W.findIn K (.ref C) "__len__" = some (some (.ref fL))
  lfn : PySem.W.isFn K (.ref fL) = true
  mA : Meth K C "askers" fA
  mN : Meth K C "names" fN
  mK : Meth K C "kinds" fK
  mR : Meth K C "asker" fR
  mP : Meth K C "place" fP
theorem ref_at {as : List Addr} {i : Nat} {v : V} (h : (as.map V.ref)[i]? = some v) : ∃ a, as[i]? = some a ∧ v = .ref a := by
  rw [List.getElem?_map] at h
  cases e : as[i]? with
  | none => rw [e] at h; cases h
  | some a => rw [e] at h; exact ⟨a, rfl, (Option.some.inj h).symm⟩
section
variable {P : Program} {w : World} {K : PySem.W.Frag} {mg : Str → Option Value} {base : Heap} {CA fI pN gN pF gF pM gM fE CL fLI fLE fLL fLA fLN fLK fLR fLP : Addr}
/-! ### _are_askers -/
def spAreAskers (K : PySem.W.Frag) (CA : Addr) : Sp := fun vs H Q _ => ∃ (l : Addr) (as : List Addr) (ks : List Ask), vs = [.ref l] ∧ SqL K H l (as.map V.ref) ∧ Asks CA H as ks ∧ ks.length ≤ 1000 ∧ ∀ H', Same H H' → Q (.bl (decide ((ks.map Ask.nm).Nodup))) H'
/-- names of askers, told one by one -/
theorem lc_names {J : It} {n : Nat} {G : Hp → Prop} {as : List Addr} {ks : List Ask} {σ : St} {H1 : Hp} {D : Addr} {Qd : Hp → Prop} {vs : List Nat} {g : TG} {te : TE} (w : Walk J n G (YAt (as.map V.ref))) (hn : n = ks.length) (hz : ks.length ≤ 1000) (hD : H1 D = none) (hA : Asks CA H1 as ks) (hG : ∀ H, Same H1 H → G H)
    (hs : ∀ a (k : Ask) H, AskAt CA H a k → ∀ Q : VK, (∀ H4, Same H H4 → Q (.str k.nm) H4) → g (.ref a) (wipe σ vs) H fun σ2 H2 => wipe σ2 vs = wipe σ vs ∧ te σ2 H2 Q) (hd : ∀ H, Same H1 H → H D = some (.lst ((ks.map Ask.nm).map V.str)) → Qd H) :
    ∃ W : Nat → Nat → Hp → Prop, (∃ m, W 0 m (upd H1 D (.lst []))) ∧ ∀ i m H, W i m H →
      (J.stop i H ∧ Qd H) ∨ (J.go i H ∧ ∃ Nx : Hp → Prop, (∀ H', Nx H' → ∃ m', m' < m ∧ W (i + 1) m' H') ∧ ∀ x H', J.yld i H x H' → g x (wipe σ vs) H' fun σ2 H2 => wipe σ2 vs = wipe σ vs ∧ tYes σ2 H2 fun b H3 =>
        if b = true then te σ2 H3 fun y H4 => ∃ acc, H4 D = some (.lst acc) ∧ acc.length < sizeLine ∧ Nx (upd H4 D (.lst (acc ++ [y]))) else Nx H3) := by
  subst hn
  refine lc_out w (fun i y _ => ∃ k, ks[i]? = some k ∧ y = .str k.nm) (by rw [sizeLine_eq]; omega) hD hG (fun _ _ _ _ y => y.1) (fun _ _ _ _ _ _ _ o => o) ?_ ?_
  · rintro i x H hi s ⟨_, hx⟩ Q hQ
    obtain ⟨a, ha, rfl⟩ := ref_at hx
    obtain ⟨k, hk, A⟩ := hA.get ha
    exact hs a k H (A.same s) Q fun H4 s4 => hQ _ H4 s4 ⟨k, hk, rfl⟩
  · intro H acc s e hl o
    refine hd H s ?_
    rw [e, eq_map_of (xs := ks) (f := fun k => V.str k.nm) (by omega) o, List.map_map] <;> rfl
theorem ok_areAskers {f f1 f2 : Addr} {fd d1 d2 dAN : FuncData} (F : Fun K "_are_askers" "_are_askers" sAreAskers f fd) (L : Chk K mg f1 f2 d1 d2) (B : Blt mg) (TA : ACls K CA fI pN gN pF gF pM gM fE) (gA : mg "Asker" = some (.ref CA)) (FAN : Fun K "name" "Asker.name" sAName gN dAN) :
    FnOk P w K mg base CX0 3 f fd ["value"] (spAreAskers K CA) := by
  have GUnlike : FnOk P w K mg base CX0 1 f2 d2 ["names"] (spUnlike K) := ok_unlike L.Unlike B
  have GAName : FnOk P w K mg base CX0 1 gN dAN ["self"] (spAName CA) := ok_aname FAN TA
  have bAName : Binds K dAN ["self"] [] := FAN.binds fun _ _ _ _ _ _ us hl => match us, hl with | [_], _ => rfl
  refine F.ok scAreAskers (fun vs H Q E h => ?_) (fun cdv A outer s H vs Q E hr h => ?_)
  · obtain ⟨l, as, ks, rfl, _⟩ := h
    rfl
  · obtain ⟨l, as, ks, rfl, hS, hA, hz, q⟩ := h
    have hl := hA.len
    refine ⟨_, (pss_cons (ps_if (PW.pt (pw_or (pt_not (pt_val (pe_callB call_isi (by rfl) B.isinstance (by decide +kernel) (pa_cons (pv 0) (pa_cons (pe_bltn (v := .ty "list") rfl B.list (by decide +kernel) rfl) pa_nil))))) (pw_or1 (pt_not (pt_val (pe_callB (cr_all rfl) (by rfl) B.all (by decide +kernel) (pa_cons (pe_lc (own := [("asker", 1)]) (g := gName 1) (tt := tYes) (te := tCB (rIsi K) (tCons (tVar 1) (tCons (tC (.ref CA)) tNil))) rfl scAreAskers.nd (pi_list (pv 0)) (blkOk_by (own := [("asker", 1)]) (N := NAreAskers) (sc := defScope sAreAskers) (by decide +kernel)) (fun _ _ _ _ _ => pg_name (i := 1) scAreAskers.nd rfl (.inl rfl)) (fun _ _ _ _ _ => pts_nil) (fun _ _ _ _ _ => (pe_callB call_isi (by rfl) B.isinstance (by decide +kernel) (pa_cons (pv 1) (pa_cons (pe_glob (v := .ref CA) rfl gA rfl) pa_nil))))) pa_nil))))))) (pss_one (ps_ret pe_bl)) pss_nil)
      (pss_one (ps_ret (pe_call GUnlike (hr.mono (by decide)) (by rfl) L.gUnlike L.Unlike.kp L.bUnlike .nil pass0 (pa_cons (pe_lc (own := [("asker", 1)]) (g := gName 1) (tt := tYes) rfl scAreAskers.nd (pi_list (pv 0)) (blkOk_by (own := [("asker", 1)]) (N := NAreAskers) (sc := defScope sAreAskers) (by decide +kernel)) (fun _ _ _ _ _ => pg_name (i := 1) scAreAskers.nd rfl (.inl rfl)) (fun _ _ _ _ _ => pts_nil) (fun _ _ _ _ _ => (pe_prop (pv 1) TA.ins.cl TA.pN GAName (hr.mono (by decide)) bAName .nil pass0 rfl))) pa_nil))))), ?_⟩
    refine ⟨.ref l, rfl, .ref l, .ty "list", _, _, true, rfl, .ty _, tyx_list hS, kit_ty (by decide +kernel), true, rfl, iteF ?_⟩
    refine ⟨.ref l, rfl, l, rfl, ⟨_, hS⟩, fun D hD => ?_⟩
    refine lc_out walk_list (fun _ y _ => y = .bl true) (by rw [List.length_map, sizeLine_eq]; omega) hD (fun G s => s.seq hS) (fun _ _ _ _ y => y.1) (fun _ _ _ _ _ _ _ o => o) ?_ ?_
    · rintro i v G hi sG ⟨_, hv⟩ R hR
      obtain ⟨a, ha, rfl⟩ := ref_at hv
      obtain ⟨k, hk, hAk⟩ := hA.get ha
      obtain ⟨dx, fs, hI⟩ := (hAk.same sG).ins
      exact ⟨rfl, .ref a, rfl, .ref a, .ref CA, .ref CA, .ref CA, true, rfl, .own CA, tyx_ask TA.ins hI, TA.ins.me, hR _ _ (Same.refl _) rfl⟩
    · intro G acc sG hG hl' ho
      have e := bls_of ho
      rw [e] at hG
      refine ⟨D, List.replicate acc.length true, rfl, SqL.of hG, true, congrArg V.bl (all_true fun i b hb => ?_), iteF ?_⟩
      · obtain ⟨h1, h2⟩ := List.getElem?_eq_some_iff.mp hb
        rw [← h2, List.getElem_replicate]
      · refine ⟨.ref l, rfl, l, rfl, ⟨_, sG.seq hS⟩, fun D2 hD2 => ?_⟩
        refine lc_names (as := as) (ks := ks) walk_list (by rw [List.length_map]; exact hl) hz hD2 (hA.same sG) (fun G' s' => (sG.trans s').seq hS) (fun a k G' hAk R hR => ?_) fun G' s' e' => ?_
        · obtain ⟨dx, fs, hI⟩ := hAk.ins
          exact ⟨rfl, .ref a, rfl, a, dx, fs, rfl, hI, a, k, rfl, hAk, hR G' (Same.refl _)⟩
        · exact ⟨D2, ks.map Ask.nm, rfl, SqL.of e', by rw [List.length_map]; exact hz, fun G2 s2 => q G2 (sG.trans (s'.trans s2))⟩
/-! ### Line(l) -/
def spLInit (K : PySem.W.Frag) (CL CA : Addr) : Sp := fun vs H Q _ => ∃ (a dx l : Addr) (as : List Addr) (ks : List Ask), vs = [.ref a, .ref l] ∧ H a = some (.ins CL dx []) ∧ SqL K H l (as.map V.ref) ∧ Asks CA H as ks ∧ ks.length ≤ 1000 ∧ (ks.map Ask.nm).Nodup ∧
  ∀ H' : Hp, (∀ b o, b ≠ a → H b = some o → H' b = some o) → LineAt CL CA H' a as ks → Q .non H'
theorem ok_linit {f f1 f2 f3 : Addr} {fd d1 d2 d3 dAN : FuncData} (F : Fun K "__init__" "Line.__init__" sLInit f fd) (FA : Fun K "_are_askers" "_are_askers" sAreAskers f3 d3) (gAreAskers : mg "_are_askers" = some (.ref f3)) (L : Chk K mg f1 f2 d1 d2) (B : Blt mg) (TA : ACls K CA fI pN gN pF gF pM gM fE) (gA : mg "Asker" = some (.ref CA))
    (FAN : Fun K "name" "Asker.name" sAName gN dAN) (T : LCls K CL fLI fLE fLL fLA fLN fLK fLR fLP) (ne : CL ≠ CA) : FnOk P w K mg base CX0 4 f fd ["self", "askers"] (spLInit K CL CA) := by
  have GAreAskers : FnOk P w K mg base CX0 3 f3 d3 ["value"] (spAreAskers K CA) := ok_areAskers FA L B TA gA FAN
  have bAreAskers : Binds K d3 ["value"] [] := FA.binds fun _ _ _ _ _ _ us hl => match us, hl with | [_], _ => rfl
  refine F.ok scLInit (fun vs H Q E h => ?_) (fun cdv A outer s H vs Q E hr h => ?_)
  · obtain ⟨a, dx, l, as, ks, rfl, _⟩ := h
    rfl
  · obtain ⟨a, dx, l, as, ks, rfl, ha, hS, hA, hz, hnd, q⟩ := h
    refine ⟨_, (pss_cons (ps_if (pt_not (pt_val (pe_call GAreAskers (hr.mono (by decide)) (by rfl) gAreAskers FA.kp bAreAskers .nil pass0 (pa_cons (pv 1) pa_nil)))) (pss_one (ps_dead _)) pss_nil)
      (pss_one (ps_fld (pv 0) (pe_callTy call_tuple_of (by rfl) B.tuple (by decide +kernel) (pa_cons (pv 1) pa_nil)) rfl))), ?_⟩
    refine ⟨.ref l, rfl, l, as, ks, rfl, hS, hA, hz, fun H1 s1 => ⟨_, rfl, ?_⟩⟩
    rw [decide_eq_true hnd]
    refine iteF ⟨.ref l, rfl, l, as.map V.ref, rfl, .inl ⟨s1.seq hS, fun t nt => ?_⟩⟩
    have nta : t ≠ a := fun e => by
      rw [e, s1 _ _ ha] at nt
      cases nt
    have h0 : upd H1 t (.tup (as.map V.ref)) a = some (.ins CL dx []) := by
      rw [upd_ne (Ne.symm nta)]
      exact s1 _ _ ha
    refine ⟨.ref a, rfl, a, CL, dx, [], rfl, h0, T.ins.cl, T.noA, by decide, ?_⟩
    have s2 : Same H (upd H1 t (.tup (as.map V.ref))) := s1.trans (Same.fresh nt)
    refine q _ (fun b o hb e => by rw [upd_ne hb]; exact s2 b o e) ⟨dx, t, upd_same, by rw [upd_ne nta]; exact upd_same, (hA.same s2).away h0 ne off_upd⟩
theorem made_line {H1 : Hp} {Q : Addr → Hp → Prop} {E : XK} {l : Addr} {as : List Addr} {ks : List Ask} (hS : SqL K H1 l (as.map V.ref)) (hA : Asks CA H1 as ks) (hz : ks.length ≤ 1000) (hnd : (ks.map Ask.nm).Nodup) (q : ∀ (H' : Hp) (x : Addr), Same H1 H' → H1 x = none → LineAt CL CA H' x as ks → Q x H') :
    ∀ x dx, H1 x = none → H1 dx = none → dx ≠ x → spLInit K CL CA (.ref x :: ([.ref l] ++ [])) (upd (upd H1 dx (.own x)) x (.ins CL dx [])) (fun v H2 => v = .non ∧ Q x H2) E := by
  intro x dx nx ndx ne
  have s1 : Same H1 (upd (upd H1 dx (.own x)) x (.ins CL dx [])) := Same.put (Same.fresh ndx) nx
  exact ⟨x, dx, l, as, ks, rfl, upd_same, s1.seq hS, hA.same s1, hz, hnd, fun H' k A => ⟨rfl, q H' x (fun b o e => k b o (ne_of_none e nx) (s1 b o e)) nx A⟩⟩
/-! ### askers(), names(), len -/
def spLAskers (CL CA : Addr) : Sp := fun vs H Q _ => ∃ (a : Addr) (as : List Addr) (ks : List Ask), vs = [.ref a] ∧ LineAt CL CA H a as ks ∧ ∀ p, H p = none → Q (.ref p) (upd H p (.lst (as.map V.ref)))
def spLNames (CL CA : Addr) : Sp := fun vs H Q _ => ∃ (a : Addr) (as : List Addr) (ks : List Ask), vs = [.ref a] ∧ LineAt CL CA H a as ks ∧ ks.length ≤ 1000 ∧ ∀ H' p, Same H H' → H p = none → H' p = some (.lst ((ks.map Ask.nm).map V.str)) → Q (.ref p) H'
def spLLen (CL CA : Addr) : Sp := fun vs H Q _ => ∃ (a : Addr) (as : List Addr) (ks : List Ask), vs = [.ref a] ∧ LineAt CL CA H a as ks ∧ Q (.int ks.length) H
theorem ok_laskers {f : Addr} {fd : FuncData} {k : Nat} (F : Fun K "askers" "Line.askers" sLAskers f fd) (B : Blt mg) (T : LCls K CL fLI fLE fLL fLA fLN fLK fLR fLP) : FnOk P w K mg base CX0 (k + 1) f fd ["self"] (spLAskers CL CA) := by
  refine F.ok scLAskers (fun vs H Q E h => ?_) (fun cdv A outer s H vs Q E hr h => ?_)
  · obtain ⟨a, as, ks, rfl, _⟩ := h
    rfl
  · obtain ⟨a, as, ks, rfl, ⟨dx, t, h1, h2, h3⟩, q⟩ := h
    refine ⟨_, (pss_one (ps_ret (pe_callTy call_list_of (by rfl) B.list (by decide +kernel) (pa_cons (pe_fld (pv 0) rfl) pa_nil)))), ?_⟩
    exact ⟨.ref a, rfl, a, CL, dx, _, _, rfl, h1, T.ins.cl, T.noA, rfl, t, as.map V.ref, rfl, .inr (SqT.of h2), q⟩
theorem ok_lnames {f : Addr} {fd dAN : FuncData} (F : Fun K "names" "Line.names" sLNames f fd) (TA : ACls K CA fI pN gN pF gF pM gM fE) (FAN : Fun K "name" "Asker.name" sAName gN dAN) (T : LCls K CL fLI fLE fLL fLA fLN fLK fLR fLP) : FnOk P w K mg base CX0 3 f fd ["self"] (spLNames CL CA) := by
  have GAName : FnOk P w K mg base CX0 1 gN dAN ["self"] (spAName CA) := ok_aname FAN TA
  have bAName : Binds K dAN ["self"] [] := FAN.binds fun _ _ _ _ _ _ us hl => match us, hl with | [_], _ => rfl
  refine F.ok scLNames (fun vs H Q E h => ?_) (fun cdv A outer s H vs Q E hr h => ?_)
  · obtain ⟨a, as, ks, rfl, _⟩ := h
    rfl
  · obtain ⟨a, as, ks, rfl, ⟨dx, t, h1, h2, h3⟩, hz, q⟩ := h
    refine ⟨_, (pss_one (ps_ret (pe_lc (own := [("asker", 1)]) (g := gName 1) (tt := tYes) rfl scLNames.nd (pi_tup (pe_fld (pv 0) rfl)) (blkOk_by (own := [("asker", 1)]) (N := NLNames) (sc := defScope sLNames) (by decide +kernel)) (fun _ _ _ _ _ => pg_name (i := 1) scLNames.nd rfl (.inl rfl)) (fun _ _ _ _ _ => pts_nil) (fun _ _ _ _ _ => (pe_prop (pv 1) TA.ins.cl TA.pN GAName (hr.mono (by decide)) bAName .nil pass0 rfl))))), ?_⟩
    refine ⟨.ref a, rfl, a, CL, dx, _, _, rfl, h1, T.ins.cl, T.noA, rfl, t, rfl, ⟨_, SqT.of h2⟩, fun D hD => ?_⟩
    refine lc_names (as := as) (ks := ks) walk_tup (by rw [List.length_map]; exact h3.len) hz hD h3 (fun G s => SqT.of (s _ _ h2)) (fun b k G hAk R hR => ?_) fun G s e => q G D s hD e
    obtain ⟨dx, fs, hI⟩ := hAk.ins
    exact ⟨rfl, .ref b, rfl, b, dx, fs, rfl, hI, b, k, rfl, hAk, hR G (Same.refl _)⟩
theorem ok_llen {f : Addr} {fd : FuncData} {k : Nat} (F : Fun K "__len__" "Line.__len__" sLLen f fd) (B : Blt mg) (T : LCls K CL fLI fLE fLL fLA fLN fLK fLR fLP) : FnOk P w K mg base CX0 (k + 1) f fd ["self"] (spLLen CL CA) := by
  refine F.ok scLLen (fun vs H Q E h => ?_) (fun cdv A outer s H vs Q E hr h => ?_)
  · obtain ⟨a, as, ks, rfl, _⟩ := h
    rfl
  · obtain ⟨a, as, ks, rfl, ⟨dx, t, h1, h2, h3⟩, q⟩ := h
    refine ⟨_, (pss_one (ps_ret (pe_callB call_len_seq (by rfl) B.len PySem.boot_len (pa_cons (pe_fld (pv 0) rfl) pa_nil)))), ?_⟩
    refine ⟨.ref a, rfl, a, CL, dx, _, _, rfl, h1, T.ins.cl, T.noA, rfl, t, as.map V.ref, rfl, .inr (SqT.of h2), ?_⟩
    rw [List.length_map, h3.len]
    exact q
/-! ### == -/
theorem eql_asks {H : Hp} (TA : ACls K CA fI pN gN pF gF pM gM fE) : ∀ {as bs : List Addr} {ks ls : List Ask}, Asks CA H as ks → Asks CA H bs ls → EqL (DId (DIn K CA (RA K CA))) H (as.map V.ref) (bs.map V.ref) (decide (ks = ls))
  | _, _, _, _, .nil, .nil => .nil
  | _, _, _, _, .nil, .cons h t => by
    rw [decide_eq_false (by simp)]
    exact .left
  | _, _, _, _, .cons h t, .nil => by
    rw [decide_eq_false (by simp)]
    exact .right
  | _, _, _, _, .cons (a := a) (k := k) (ks := ks) h t, .cons (a := b) (k := l) (ks := ls) h' t' => by
    have ih := eql_asks TA t t'
    obtain ⟨dx, fs, hI⟩ := h.ins
    obtain ⟨dx', fs', hI'⟩ := h'.ins
    by_cases e : a = b
    · subst e
      obtain rfl := h.unique h'
      rw [show decide (k :: ks = k :: ls) = decide (ks = ls) by simp]
      exact .go ⟨a, a, rfl, rfl, .inl ⟨rfl, rfl⟩⟩ ih
    · have d : ∀ x : Bool, x = decide (k = l) → DId (DIn K CA (RA K CA)) (.ref a) (.ref b) H x := fun x hx =>
        ⟨a, b, rfl, rfl, .inr ⟨e, a, dx, fs, .ref CA, rfl, hI, tyx_ask TA.ins hI', by simp [PySem.W.notFirst], k, h, .inl ⟨b, l, rfl, h', hx⟩⟩⟩
      by_cases q : k = l
      · subst q
        rw [show decide (k :: ks = k :: ls) = decide (ks = ls) by simp]
        exact .go (d true (by simp)) ih
      · rw [decide_eq_false (by simp [q])]
        exact .stop (d false (by simp [q]))
/-- the answer of a line's == -/
def RL (K : PySem.W.Frag) (CL CA : Addr) (a : Addr) (y : V) (H : Hp) (b : Bool) : Prop :=
  ∃ (as : List Addr) (ks : List Ask), LineAt CL CA H a as ks ∧ ((∃ (c : Addr) (as' : List Addr) (ks' : List Ask), y = .ref c ∧ LineAt CL CA H c as' ks' ∧ b = decide (ks = ks')) ∨ ∃ t : Value, TyX K H y t ∧ PySem.W.kitOne K t (.ref CL) = some false ∧ b = false)
theorem ok_leq {f : Addr} {fd dAE : FuncData} (F : Fun K "__eq__" "Line.__eq__" sLEq f fd) (B : Blt mg) (TA : ACls K CA fI pN gN pF gF pM gM fE) (gA : mg "Asker" = some (.ref CA)) (FAE : Fun K "__eq__" "Asker.__eq__" sAEq fE dAE) (T : LCls K CL fLI fLE fLL fLA fLN fLK fLR fLP) (gL : mg "Line" = some (.ref CL)) :
    FnOk P w K mg base CX0 4 f fd ["self", "other"] (spEqB (RL K CL CA)) := by
  have GAEq : FnOk P w K mg base CX0 2 fE dAE ["self", "other"] (spEqB (RA K CA)) := ok_aeq FAE B TA gA
  have bAEq : Binds K dAE ["self", "other"] [] := FAE.binds fun _ _ _ _ _ _ us hl => match us, hl with | [_, _], _ => rfl
  refine F.ok scLEq (fun vs H Q E h => ?_) (fun cdv A outer s H vs Q E hr h => ?_)
  · obtain ⟨a, y, b, rfl, _⟩ := h
    rfl
  · obtain ⟨a, y, b, rfl, ⟨as, ks, ⟨dx, t, h1, h2, h3⟩, r⟩, q⟩ := h
    refine ⟨_, (pss_one (ps_ret (pe_and (pe_callB call_isi (by rfl) B.isinstance (by decide +kernel) (pa_cons (pv 1) (pa_cons (pe_glob (v := .ref CL) rfl gL rfl) pa_nil))) (pe_one (pe_cmpR (op_rcB (rcB_tup (eqB_of (rcB_own GAEq TA.own bAEq pass0))) (hr.mono (by decide))) (pe_fld (pv 0) rfl) (pe_fld (pv 1) rfl) (nomark _)))))), ?_⟩
    rcases r with ⟨c, as', ks', rfl, ⟨dx', t', h1', h2', h3'⟩, rfl⟩ | ⟨u, ty, no, rfl⟩
    · refine ⟨.ref c, rfl, .ref c, .ref CL, .ref CL, .ref CL, true, rfl, .own CL, tyx_ask T.ins h1', T.ins.me, true, rfl, iteT ?_⟩
      exact ⟨.ref a, rfl, a, CL, dx, _, _, rfl, h1, T.ins.cl, T.noA, rfl, .ref c, rfl, c, CL, dx', _, _, rfl, h1', T.ins.cl, T.noA, rfl, _, ⟨t, t', _, _, rfl, rfl, SqT.of h2, SqT.of h2', eql_asks TA h3 h3'⟩, q⟩
    · exact ⟨y, rfl, y, .ref CL, u, .ref CL, false, rfl, .own CL, ty, no, false, rfl, iteF q⟩
end
end Eld
end L2

set_option Elab.async false
set_option linter.all false
set_option maxRecDepth 100000
set_option maxHeartbeats 4000000
/-! ## lines: kinds, place, asker -/
namespace L2
namespace Eld
open PySem PySem.Spec PyProof.Rows PySem.EldX
section
variable {J J1 : It} {n n1 : Nat} {G G1 : Hp → Prop} {Y Y1 : Nat → Hp → V → Hp → Prop} {w0 : World}
/-- the first clause by a walk -/
theorem sc2_it (w : Walk J n G Y) {g g1 : TG} {wi1 : TI} {te : TE} {vs vs1 : List Nat} {σ : St} {H1 : Hp} {D : Addr} {Qd : Hp → Prop} (Pv : Nat → Hp → Prop) (h0 : Pv 0 (upd H1 D (SetSO w0 D (fun _ => false) 0))) (hG : ∀ i H, i ≤ n → Pv i H → G H)
    (hs : ∀ i x H H', i < n → Pv i H → Y i H x H' → g x (wipe σ vs) H' fun σ2 H2 => wipe σ2 vs = wipe σ vs ∧ wi1 σ2 H2 fun J1 H4 => ∃ W1 : Nat → Nat → Hp → Prop, (∃ m, W1 0 m H4) ∧ ∀ j k G, W1 j k G → (J1.stop j G ∧ Pv (i + 1) G) ∨ (J1.go j G ∧
      ∃ Nx1 : Hp → Prop, (∀ G', Nx1 G' → ∃ k', k' < k ∧ W1 (j + 1) k' G') ∧ ∀ x G', J1.yld j G x G' → g1 x (wipe σ2 vs1) G' fun σ3 H5 => wipe σ3 vs1 = wipe σ2 vs1 ∧ te σ3 H5 fun y H6 =>
        ∃ (c : Str) (S : Str → Bool) (n : Nat), y = .str c ∧ H6 D = some (SetSO w0 D S n) ∧ n + 1 < scanBound ∧ Nx1 (upd H6 D (SetSO w0 D (fun j => S j || decide (j = c)) (if S c = true then n else n + 1)))))
    (hd : ∀ H, Pv n H → Qd H) :
    ∃ W : Nat → Nat → Hp → Prop, (∃ m, W 0 m (upd H1 D (SetSO w0 D (fun _ => false) 0))) ∧ ∀ i m G, W i m G → (J.stop i G ∧ Qd G) ∨ (J.go i G ∧
      ∃ Nx : Hp → Prop, (∀ G', Nx G' → ∃ m', m' < m ∧ W (i + 1) m' G') ∧ ∀ x G', J.yld i G x G' → g x (wipe σ vs) G' fun σ2 H2 => wipe σ2 vs = wipe σ vs ∧ wi1 σ2 H2 fun J1 H4 =>
        ∃ W1 : Nat → Nat → Hp → Prop, (∃ m, W1 0 m H4) ∧ ∀ j k G, W1 j k G → (J1.stop j G ∧ Nx G) ∨ (J1.go j G ∧
          ∃ Nx1 : Hp → Prop, (∀ G', Nx1 G' → ∃ k', k' < k ∧ W1 (j + 1) k' G') ∧ ∀ x G', J1.yld j G x G' → g1 x (wipe σ2 vs1) G' fun σ3 H5 => wipe σ3 vs1 = wipe σ2 vs1 ∧ te σ3 H5 fun y H6 =>
            ∃ (c : Str) (S : Str → Bool) (n : Nat), y = .str c ∧ H6 D = some (SetSO w0 D S n) ∧ n + 1 < scanBound ∧ Nx1 (upd H6 D (SetSO w0 D (fun j => S j || decide (j = c)) (if S c = true then n else n + 1))))) := by
  refine ⟨fun i m H => m = n - i ∧ i ≤ n ∧ Pv i H, ⟨n, by simp, Nat.zero_le _, h0⟩, ?_⟩
  rintro i m H ⟨rfl, hi, p⟩
  rcases Nat.lt_or_ge i n with lt | ge
  · exact .inr ⟨w.goes i H lt (hG i H hi p), Pv (i + 1), fun H' q => ⟨n - (i + 1), by omega, rfl, lt, q⟩, fun x H' y => hs i x H H' lt p (w.yields i H x H' lt (hG i H hi p) y)⟩
  · obtain rfl : i = n := by omega
    exact .inl ⟨w.stops H (hG i H hi p), hd H p⟩
/-- the second clause by a walk -/
theorem sc_in (w : Walk J1 n1 G1 Y1) {g1 : TG} {te : TE} {vs1 : List Nat} {σ : St} {H1 : Hp} {D : Addr} {Qd : Hp → Prop} (Pv : Nat → Hp → Prop) (h0 : Pv 0 H1) (hG : ∀ i H, i ≤ n1 → Pv i H → G1 H)
    (hs : ∀ i x H H', i < n1 → Pv i H → Y1 i H x H' → g1 x (wipe σ vs1) H' fun σ3 H5 => wipe σ3 vs1 = wipe σ vs1 ∧ te σ3 H5 fun y H6 =>
      ∃ (c : Str) (S : Str → Bool) (n : Nat), y = .str c ∧ H6 D = some (SetSO w0 D S n) ∧ n + 1 < scanBound ∧ Pv (i + 1) (upd H6 D (SetSO w0 D (fun j => S j || decide (j = c)) (if S c = true then n else n + 1))))
    (hd : ∀ H, Pv n1 H → Qd H) :
    ∃ W1 : Nat → Nat → Hp → Prop, (∃ m, W1 0 m H1) ∧ ∀ j k G, W1 j k G → (J1.stop j G ∧ Qd G) ∨ (J1.go j G ∧
      ∃ Nx1 : Hp → Prop, (∀ G', Nx1 G' → ∃ k', k' < k ∧ W1 (j + 1) k' G') ∧ ∀ x G', J1.yld j G x G' → g1 x (wipe σ vs1) G' fun σ3 H5 => wipe σ3 vs1 = wipe σ vs1 ∧ te σ3 H5 fun y H6 =>
        ∃ (c : Str) (S : Str → Bool) (n : Nat), y = .str c ∧ H6 D = some (SetSO w0 D S n) ∧ n + 1 < scanBound ∧ Nx1 (upd H6 D (SetSO w0 D (fun j => S j || decide (j = c)) (if S c = true then n else n + 1)))) := by
  refine ⟨fun i m H => m = n1 - i ∧ i ≤ n1 ∧ Pv i H, ⟨n1, by simp, Nat.zero_le _, h0⟩, ?_⟩
  rintro i m H ⟨rfl, hi, p⟩
  rcases Nat.lt_or_ge i n1 with lt | ge
  · exact .inr ⟨w.goes i H lt (hG i H hi p), Pv (i + 1), fun H' q => ⟨n1 - (i + 1), by omega, rfl, lt, q⟩, fun x H' y => hs i x H H' lt p (w.yields i H x H' lt (hG i H hi p) y)⟩
  · obtain rfl : i = n1 := by omega
    exact .inl ⟨w.stops H (hG i H hi p), hd H p⟩
end
/-- the set at D has just these members -/
def HasS (w0 : World) (H : Hp) (D : Addr) (M : Str → Prop) : Prop := ∃ (S : Str → Bool) (n : Nat) (xs : List Str), H D = some (SetSO w0 D S n) ∧ xs.Nodup ∧ xs.length = n ∧ (∀ j, S j = true ↔ j ∈ xs) ∧ ∀ j, j ∈ xs ↔ M j
theorem HasS.add {w0 : World} {H : Hp} {D : Addr} {M : Str → Prop} {U : List Str} {c : Str} (h : HasS w0 H D M) (hU : ∀ j, M j → j ∈ U) (hl : U.length < 64) :
    ∃ (S : Str → Bool) (n : Nat), H D = some (SetSO w0 D S n) ∧ n + 1 < scanBound ∧ HasS w0 (upd H D (SetSO w0 D (fun j => S j || decide (j = c)) (if S c = true then n else n + 1))) D (fun j => M j ∨ j = c) := by
  obtain ⟨S, n, xs, e, nd, rfl, hS, hM⟩ := h
  have le : xs.length ≤ U.length := nodup_le xs U nd fun y hy => hU y ((hM y).mp hy)
  refine ⟨S, xs.length, e, Nat.lt_of_le_of_lt (show xs.length + 1 ≤ 65 by omega) (by decide), ?_⟩
  by_cases hc : S c = true
  · refine ⟨_, _, xs, upd_same, nd, by rw [if_pos hc], fun j => ?_, fun j => ?_⟩
    · rw [Bool.or_eq_true, hS, decide_eq_true_eq]
      exact ⟨fun z => z.elim id fun z => z ▸ (hS c).mp hc, .inl⟩
    · rw [hM]
      exact ⟨.inl, fun z => z.elim id fun z => z ▸ (hM c).mp ((hS c).mp hc)⟩
  · have nc : c ∉ xs := fun z => hc ((hS c).mpr z)
    refine ⟨_, _, xs ++ [c], upd_same, ?_, by rw [if_neg hc, List.length_append]; rfl, fun j => ?_, fun j => ?_⟩
    · rw [List.nodup_append]
      refine ⟨nd, by simp, fun x hx y hy e => ?_⟩
      obtain rfl := List.mem_singleton.mp hy
      subst e
      exact nc hx
    · rw [Bool.or_eq_true, hS, decide_eq_true_eq, List.mem_append, List.mem_singleton]
    · rw [List.mem_append, List.mem_singleton, hM]
theorem HasS.same {w0 : World} {H H' : Hp} {D : Addr} {M : Str → Prop} (h : HasS w0 H D M) (s : Same H H') : HasS w0 H' D M := by
  obtain ⟨S, n, xs, e, r⟩ := h
  exact ⟨S, n, xs, s _ _ e, r⟩
theorem HasS.iff {w0 : World} {H : Hp} {D : Addr} {M M' : Str → Prop} (h : HasS w0 H D M) (e : ∀ j, M j ↔ M' j) : HasS w0 H D M' := by
  obtain ⟨S, n, xs, e1, r1, r2, r3, r4⟩ := h
  exact ⟨S, n, xs, e1, r1, r2, r3, fun j => (r4 j).trans (e j)⟩
theorem str_at {xs : List Str} {i : Nat} {v : V} (h : (xs.map V.str)[i]? = some v) : ∃ x, xs[i]? = some x ∧ v = .str x := by
  rw [List.getElem?_map] at h
  cases e : xs[i]? with
  | none => rw [e] at h; cases h
  | some x => rw [e] at h; exact ⟨x, rfl, (Option.some.inj h).symm⟩
theorem mem_take_succ {α : Type} {xs : List α} {i : Nat} {x : α} (h : xs[i]? = some x) (y : α) : y ∈ xs.take (i + 1) ↔ y ∈ xs.take i ∨ y = x := by
  rw [List.take_add_one, h]
  simp
section
variable {P : Program} {w : World} {K : PySem.W.Frag} {mg : Str → Option Value} {base : Heap} {CA fI pN gN pF gF pM gM fE CL fLI fLE fLL fLA fLN fLK fLR fLP : Addr}
/-! ### kinds() -/
def spLKinds (CL CA : Addr) : Sp := fun vs H Q _ => ∃ (a : Addr) (as : List Addr) (ks : List Ask) (U : List Str), vs = [.ref a] ∧ LineAt CL CA H a as ks ∧ U.length < 64 ∧ (∀ k ∈ ks, ∀ x ∈ k.ks, x ∈ U) ∧
  ∀ (H' : Hp) (p : Addr) (zs : List Str), Same H H' → H p = none → H' p = some (.lst (zs.map V.str)) → sortedS zs = true → zs.Nodup → (∀ x, x ∈ zs ↔ ∃ k ∈ ks, x ∈ k.ks) → Q (.ref p) H'
theorem ok_lkinds {f : Addr} {fd dAF : FuncData} (F : Fun K "kinds" "Line.kinds" sLKinds f fd) (B : Blt mg) (TA : ACls K CA fI pN gN pF gF pM gM fE) (FAF : Fun K "fits" "Asker.fits" sAFits gF dAF) (T : LCls K CL fLI fLE fLL fLA fLN fLK fLR fLP) : FnOk P w K mg base CX0 3 f fd ["self"] (spLKinds CL CA) := by
  have GAFits : FnOk P w K mg base CX0 1 gF dAF ["self"] (spAFits CA) := ok_afits FAF B TA
  have bAFits : Binds K dAF ["self"] [] := FAF.binds fun _ _ _ _ _ _ us hl => match us, hl with | [_], _ => rfl
  refine F.ok scLKinds (fun vs H Q E h => ?_) (fun cdv A outer s H vs Q E hr h => ?_)
  · obtain ⟨a, as, ks, U, rfl, _⟩ := h
    rfl
  · obtain ⟨a, as, ks, U, rfl, ⟨dx, t, h1, h2, h3⟩, hU, hin, q⟩ := h
    refine ⟨_, (pss_one (ps_ret (pe_callB (cr_sortedSetS rfl) (by rfl) B.sorted (by decide +kernel) (pa_cons (pe_sc2 (own := [("asker", 1), ("kind", 2)]) (vs1 := [2]) (g := gName 1) (g1 := gName 2) (wi1 := iList K (tProp CA (spAFits CA) [] (fun _ _ _ => False) (tVar 1))) rfl scLKinds.nd (pi_tup (pe_fld (pv 0) rfl)) (blkOk_by (own := [("asker", 1), ("kind", 2)]) (N := NLKinds) (sc := defScope sLKinds) (by decide +kernel)) (by decide) (fun _ _ _ _ _ => pg_name (i := 1) scLKinds.nd rfl (.inl rfl)) (fun _ _ _ _ _ => (pi_list (pe_prop (pv 1) TA.ins.cl TA.pF GAFits (hr.mono (by decide)) bAFits .nil pass0 rfl))) (fun _ _ _ _ _ => pg_name (i := 2) scLKinds.nd rfl (.inl rfl)) (fun _ _ _ _ _ => (pv 2))) pa_nil)))), ?_⟩
    refine ⟨.ref a, rfl, a, CL, dx, _, _, rfl, h1, T.ins.cl, T.noA, rfl, t, rfl, ⟨_, SqT.of h2⟩, fun D hD => ?_⟩
    have hin' : ∀ i j, (∃ k ∈ ks.take i, j ∈ k.ks) → j ∈ U := fun i j ⟨k, hk, hj⟩ => hin k (List.mem_of_mem_take hk) j hj
    refine sc2_it (n := as.length) (by have := walk_tup (K := K) (a := t) (xs := as.map V.ref); rw [List.length_map] at this; exact this) (fun i G => Same H G ∧ HasS w G D fun j => ∃ k ∈ ks.take i, j ∈ k.ks)
      ⟨Same.fresh hD, _, 0, [], upd_same, .nil, rfl, fun j => by simp, fun j => by simp⟩ (fun i G _ p => SqT.of (p.1 _ _ h2)) ?_ ?_
    · rintro i x G G' hi ⟨sG, hs⟩ ⟨rfl, hx⟩
      obtain ⟨b, hb, rfl⟩ := ref_at hx
      obtain ⟨k, hk, hAk⟩ := h3.get hb
      have hAk := hAk.same sG
      obtain ⟨dx', fs', hI⟩ := hAk.ins
      have hkin : ∀ x ∈ k.ks, x ∈ U := hin k (List.mem_of_getElem? hk)
      refine ⟨rfl, .ref b, rfl, b, dx', fs', rfl, hI, b, k, rfl, hAk, fun l nl => ⟨l, rfl, ⟨_, SqL.of upd_same⟩, ?_⟩⟩
      have nDl : D ≠ l := fun e => by
        obtain ⟨S, n, xs, e1, _⟩ := hs
        rw [e, nl] at e1
        cases e1
      refine sc_in (n1 := k.ks.length) (by have := walk_list (K := K) (a := l) (xs := k.ks.map V.str); rw [List.length_map] at this; exact this) (fun j G2 => Same H G2 ∧ G2 l = some (.lst (k.ks.map V.str)) ∧ HasS w G2 D fun z => (∃ k ∈ ks.take i, z ∈ k.ks) ∨ z ∈ k.ks.take j)
        ⟨sG.trans (Same.fresh nl), upd_same, (hs.same (Same.fresh nl)).iff fun j => by simp⟩ (fun j G2 _ p => SqL.of p.2.1) ?_ ?_
      · rintro j y G2 G2' hj ⟨s2, e2, hs2⟩ ⟨rfl, hy⟩
        obtain ⟨c, hc, rfl⟩ := str_at hy
        obtain ⟨S, n, e3, room, more⟩ := hs2.add (c := c) (U := U) (fun z hz => hz.elim (hin' i z) fun hz => hkin z (List.mem_of_mem_take hz)) hU
        refine ⟨rfl, .str c, rfl, c, S, n, rfl, e3, room, s2.put hD, by rw [upd_ne (Ne.symm nDl)]; exact e2, more.iff fun z => ?_⟩
        rw [mem_take_succ hc]
        exact or_assoc
      · rintro G2 ⟨s2, e2, hs2⟩
        refine ⟨s2, hs2.iff fun z => ?_⟩
        rw [List.take_length]
        constructor
        · rintro (⟨k', hk', hz⟩ | hz)
          · exact ⟨k', (mem_take_succ hk k').mpr (.inl hk'), hz⟩
          · exact ⟨k, (mem_take_succ hk k).mpr (.inr rfl), hz⟩
        · rintro ⟨k', hk', hz⟩
          rcases (mem_take_succ hk k').mp hk' with h | rfl
          · exact .inl ⟨k', h, hz⟩
          · exact .inr hz
    · rintro G ⟨sG, S, n, xs, e, nd, rfl, hS, hM⟩
      have le : xs.length ≤ U.length := nodup_le xs U nd fun y hy => hin' _ y ((hM y).mp hy)
      refine ⟨D, S, xs.length, rfl, e, by omega, fun zs p hso hnd hmem hlen np => ?_⟩
      refine q _ p zs (sG.trans (Same.fresh np)) (Same.free sG np) upd_same hso hnd fun x => ?_
      rw [hmem, hS, hM, h3.len, List.take_length]
/-! ### place(name), asker(name) -/
def spLPlace (CL CA : Addr) : Sp := fun vs H Q _ => ∃ (a : Addr) (as : List Addr) (ks : List Ask) (x : Str) (j : Nat) (k : Ask), vs = [.ref a, .str x] ∧ LineAt CL CA H a as ks ∧ ks.length ≤ 1000 ∧ (ks.map Ask.nm).Nodup ∧ ks[j]? = some k ∧ k.nm = x ∧ ∀ H', Same H H' → Q (.int (j : Nat)) H'
theorem strs_flat (xs : List Str) : (xs.map V.str).all flatV = true := List.all_eq_true.mpr fun v hv => by
  obtain ⟨x, _, rfl⟩ := List.mem_map.mp hv
  rfl
theorem eqV_str (x y : Str) : eqV (V.str x) (V.str y) = decide (x = y) := by
  show (x == y) = decide (x = y)
  by_cases q : x = y <;> simp [q]
theorem inV_strs (x : Str) (xs : List Str) : inV (.str x) (xs.map V.str) = decide (x ∈ xs) := by
  unfold inV
  rw [List.any_map]
  by_cases h : x ∈ xs
  · rw [decide_eq_true h, List.any_eq_true]
    exact ⟨x, h, by show eqV (V.str x) (V.str x) = true; rw [eqV_str]; simp⟩
  · rw [decide_eq_false h, List.any_eq_false]
    intro y hy
    show ¬ eqV (V.str y) (V.str x) = true
    rw [eqV_str, decide_eq_true_eq]
    rintro rfl
    exact h hy
theorem ok_lplace {f : Addr} {fd dLN dAN : FuncData} (F : Fun K "place" "Line.place" sLPlace f fd) (B : Blt mg) (TA : ACls K CA fI pN gN pF gF pM gM fE) (FAN : Fun K "name" "Asker.name" sAName gN dAN) (T : LCls K CL fLI fLE fLL fLA fLN fLK fLR fLP) (FLN : Fun K "names" "Line.names" sLNames fLN dLN) :
    FnOk P w K mg base CX0 4 f fd ["self", "name"] (spLPlace CL CA) := by
  have GLNames : FnOk P w K mg base CX0 3 fLN dLN ["self"] (spLNames CL CA) := ok_lnames FLN TA FAN T
  have bLNames : Binds K dLN ["self"] [] := FLN.binds fun _ _ _ _ _ _ us hl => match us, hl with | [_], _ => rfl
  refine F.ok scLPlace (fun vs H Q E h => ?_) (fun cdv A outer s H vs Q E hr h => ?_)
  · obtain ⟨a, as, ks, x, j, k, rfl, _⟩ := h
    rfl
  · obtain ⟨a, as, ks, x, j, k, rfl, hL, hz, hnd, hj, rfl, q⟩ := h
    obtain ⟨dx, t, h1, _⟩ := id hL
    refine ⟨_, (pss_cons (ps_set (i := 2) scLPlace.nd rfl (.inl rfl) (pe_meth0 (pv 0) T.ins.cl T.mN GLNames (hr.mono (by decide)) bLNames .nil pass0))
      (pss_cons (ps_if (pt_cmpR op_notIn_seq (pv 1) (pv 2) (by rfl)) (pss_one (ps_dead _)) pss_nil)
      (pss_one (ps_ret (pe_bm PySem.F.plainAttrs_list PySem.F.slot_list_index PySem.F.type_list_index mt_index (pv 2) (pa_cons (pv 1) pa_nil)))))), ?_⟩
    refine ⟨.ref a, rfl, a, dx, _, rfl, h1, rfl, a, as, ks, rfl, hL, hz, fun H1 p s1 np e1 => ?_⟩
    refine ⟨.str k.nm, rfl, .ref p, rfl, p, _, rfl, .inl (SqL.of e1), rfl, strs_flat _, _, rfl, ?_⟩
    have hm : k.nm ∈ ks.map Ask.nm := List.mem_map.mpr ⟨k, List.mem_of_getElem? hj, rfl⟩
    rw [inV_strs, decide_eq_true hm]
    refine iteF ⟨.ref p, rfl, .inl ⟨rfl, _, SqL.of e1⟩, .str k.nm, rfl, p, (ks.map Ask.nm).map V.str, .str k.nm, j, .str k.nm, rfl, rfl, SqL.of e1, rfl, strs_flat _, ?_, by rw [eqV_str]; simp, fun m z hm hz' => ?_, q H1 s1⟩
    · rw [List.getElem?_map, List.getElem?_map, hj] <;> rfl
    · obtain ⟨y, hy, rfl⟩ := str_at hz'
      rw [eqV_str, decide_eq_false_iff_not]
      rintro rfl
      have hj' : (ks.map Ask.nm)[j]? = some k.nm := by rw [List.getElem?_map, hj] <;> rfl
      obtain ⟨l1, e1⟩ := List.getElem?_eq_some_iff.mp hy
      obtain ⟨l2, e2⟩ := List.getElem?_eq_some_iff.mp hj'
      exact List.pairwise_iff_getElem.mp hnd m j l1 l2 hm (e1.trans e2.symm)
def spLAsk (CL CA : Addr) : Sp := fun vs H Q _ => ∃ (a : Addr) (as : List Addr) (ks : List Ask) (x : Str) (j : Nat) (k : Ask) (b : Addr), vs = [.ref a, .str x] ∧ LineAt CL CA H a as ks ∧ ks.length ≤ 1000 ∧ (ks.map Ask.nm).Nodup ∧ ks[j]? = some k ∧ k.nm = x ∧ as[j]? = some b ∧ ∀ H', Same H H' → Q (.ref b) H'
theorem ok_lask {f : Addr} {fd dLN dAN dLP : FuncData} (F : Fun K "asker" "Line.asker" sLAsk f fd) (B : Blt mg) (TA : ACls K CA fI pN gN pF gF pM gM fE) (FAN : Fun K "name" "Asker.name" sAName gN dAN) (T : LCls K CL fLI fLE fLL fLA fLN fLK fLR fLP) (FLN : Fun K "names" "Line.names" sLNames fLN dLN) (FLP : Fun K "place" "Line.place" sLPlace fLP dLP) :
    FnOk P w K mg base CX0 5 f fd ["self", "name"] (spLAsk CL CA) := by
  have GLPlace : FnOk P w K mg base CX0 4 fLP dLP ["self", "name"] (spLPlace CL CA) := ok_lplace FLP B TA FAN T FLN
  have bLPlace : Binds K dLP ["self", "name"] [] := FLP.binds fun _ _ _ _ _ _ us hl => match us, hl with | [_, _], _ => rfl
  refine F.ok scLAsk (fun vs H Q E h => ?_) (fun cdv A outer s H vs Q E hr h => ?_)
  · obtain ⟨a, as, ks, x, j, k, b, rfl, _⟩ := h
    rfl
  · obtain ⟨a, as, ks, x, j, k, b, rfl, hL, hz, hnd, hj, rfl, hb, q⟩ := h
    obtain ⟨dx, t, h1, h2, h3⟩ := id hL
    refine ⟨_, (pss_one (ps_ret (pe_ix ix_tup (pe_fld (pv 0) rfl) (pe_meth (pv 0) T.ins.cl T.mP GLPlace (hr.mono (by decide)) bLPlace .nil pass0 (pa_cons (pv 1) pa_nil)) (fun _ _ => rfl)))), ?_⟩
    refine ⟨.ref a, rfl, a, CL, dx, _, _, rfl, h1, T.ins.cl, T.noA, rfl, .ref a, rfl, a, dx, _, rfl, h1, rfl, .str k.nm, rfl, a, as, ks, k.nm, j, k, rfl, hL, hz, hnd, hj, rfl, fun H' s' => ?_⟩
    exact ⟨t, as.map V.ref, j, .ref b, rfl, rfl, SqT.of (s' _ _ h2), atI_nat (by rw [List.getElem?_map, hb] <;> rfl), q H' s'⟩
end
end Eld
end L2

set_option Elab.async false
set_option linter.all false
set_option maxRecDepth 100000
set_option maxHeartbeats 4000000
/-! ## a purse among tracked things; filtered lists of texts -/
namespace L2
namespace Eld
open PySem PySem.Spec PyProof.Rows PySem.EldX
/-- all but the purse -/
abbrev Kp (p : Addr) (H H' : Hp) : Prop := Kept (· = p) H H'
theorem Kp.of_but {p : Addr} {H H' : Hp} (h : But p H H') : Kp p H H' := Kept.of_but h
theorem Kp.sql {K : PySem.W.Frag} {p l : Addr} {H H' : Hp} {xs : List V} (k : Kp p H H') (ne : l ≠ p) (h : SqL K H l xs) : SqL K H' l xs := by
  rcases h with (h | ⟨o, h⟩) | h
  · exact .inl (.inl (k _ _ ne h))
  · exact .inl (.inr ⟨o, k _ _ ne h⟩)
  · exact .inr h
theorem purse_lst {H : Hp} {p : Addr} {n : Nat} (h : PurseAt H p n) : ∃ xs : List V, H p = some (.lst xs) := by
  obtain ⟨a, b, c, d, e, _⟩ := h
  exact ⟨_, e⟩
theorem Kp.ask {C p a : Addr} {H H' : Hp} {k : Ask} {n : Nat} (s : Kp p H H') (hp : PurseAt H p n) (h : AskAt C H a k) : AskAt C H' a k := by
  obtain ⟨xs, e⟩ := purse_lst hp
  exact h.off e fun b o hb eb => s b o hb eb
theorem Kp.asks {C p : Addr} {H H' : Hp} {n : Nat} (s : Kp p H H') (hp : PurseAt H p n) {as : List Addr} {ks : List Ask} (h : Asks C H as ks) : Asks C H' as ks := by
  obtain ⟨xs, e⟩ := purse_lst hp
  exact h.off e fun b o hb eb => s b o hb eb
theorem Kp.ne {p q : Addr} {H : Hp} {n : Nat} (hp : PurseAt H p n) (hq : H q = none) : q ≠ p := fun e => by
  obtain ⟨xs, e1⟩ := purse_lst hp
  rw [← e, hq] at e1
  cases e1
theorem Kp.free {p q : Addr} {H H' : Hp} (s : Kp p H H') (ne : q ≠ p) (h : H' q = none) : H q = none := by
  cases e : H q with
  | none => rfl
  | some o =>
    rw [s q o ne e] at h
    cases h
theorem Kp.same {p : Addr} {H H' : Hp} (s : Same H H') : Kp p H H' := Kept.of_same s
theorem PurseAt.put {H : Hp} {p D : Addr} {n : Nat} {o : HO} (h : PurseAt H p n) (ne : D ≠ p) : PurseAt (upd H D o) p n := h.of_eq (upd_ne (Ne.symm ne))
theorem PurseAt.fresh {H : Hp} {p D : Addr} {n : Nat} {o : HO} (h : PurseAt H p n) (nD : H D = none) : PurseAt (upd H D o) p n := h.same (Same.fresh nD)
/-- what keep lets through -/
theorem lc_keep {J : It} {n : Nat} {G : Hp → Prop} {xs : List Str} {keep : Str → Bool} (w : Walk J n G (YAt (xs.map V.str))) (hn : n = xs.length) {g : TG} {tt : TT} {te : TE} {vs : List Nat} {σ : St} {H1 : Hp} {D : Addr} {Qd : Hp → Prop} (hz : xs.length ≤ 1000) (hD : H1 D = none) (hG : ∀ H, Same H1 H → G H)
    (hs : ∀ x H, Same H1 H → x ∈ xs → ∀ (N : VK) (M : Hp → Prop), (keep x = true → N (.str x) H) → (keep x = false → M H) → g (.str x) (wipe σ vs) H fun σ2 H2 => wipe σ2 vs = wipe σ vs ∧ tt σ2 H2 fun b H3 => if b = true then te σ2 H3 N else M H3)
    (hd : ∀ H, Same H1 H → H D = some (.lst ((xs.filter keep).map V.str)) → Qd H) :
    ∃ W : Nat → Nat → Hp → Prop, (∃ m, W 0 m (upd H1 D (.lst []))) ∧ ∀ i m H, W i m H →
      (J.stop i H ∧ Qd H) ∨ (J.go i H ∧ ∃ Nx : Hp → Prop, (∀ H', Nx H' → ∃ m', m' < m ∧ W (i + 1) m' H') ∧ ∀ x H', J.yld i H x H' → g x (wipe σ vs) H' fun σ2 H2 => wipe σ2 vs = wipe σ vs ∧ tt σ2 H2 fun b H3 =>
        if b = true then te σ2 H3 fun y H4 => ∃ acc, H4 D = some (.lst acc) ∧ acc.length < sizeLine ∧ Nx (upd H4 D (.lst (acc ++ [y]))) else Nx H3) := by
  subst hn
  refine lc_it w (fun i H => Same H1 H ∧ H D = some (.lst (((xs.take i).filter keep).map V.str))) ⟨Same.fresh hD, by rw [upd_same]; rfl⟩ (fun i H _ p => hG H p.1) ?_ fun H p => hd H p.1 (by rw [p.2, List.take_length])
  rintro i v H H' hi ⟨s, e⟩ ⟨rfl, hv⟩
  obtain ⟨x, hx, rfl⟩ := str_at hv
  have et : xs.take (i + 1) = xs.take i ++ [x] := by rw [List.take_add_one, hx]; rfl
  refine hs x H' s (List.mem_of_getElem? hx) _ _ (fun hk => ?_) fun hk => ?_
  · refine ⟨_, e, ?_, s.put hD, ?_⟩
    · rw [List.length_map, sizeLine_eq]
      have := List.length_filter_le keep (xs.take i)
      rw [List.length_take] at this
      omega
    · rw [upd_same, et, List.filter_append, List.map_append]
      simp [hk]
  · refine ⟨s, ?_⟩
    rw [e, et, List.filter_append]
    simp [hk]
end Eld
end L2

set_option Elab.async false
set_option linter.all false
set_option maxRecDepth 100000
set_option maxHeartbeats 4000000
/-! ## dicts whose keys are texts and tuples side by side: looking up, storing -/
namespace PySem.Mx
open PySem
abbrev Ent := NestedKey × Value × Value
def atK (xs : List Ent) (k : NestedKey) : Option (Value × Value) := (xs.find? fun x => decide (x.1 = k)).map (·.2)
def putA (k : NestedKey) (v : Value) (x : Ent) : Ent := if x.1 = k then (x.1, x.2.1, v) else x
def storedM (xs : List Ent) (k : NestedKey) (a : Value) (v : Value) : List Ent := if (atK xs k).isSome then xs.map (putA k v) else xs ++ [(k, a, v)]
theorem stored_new {xs : List Ent} {k : NestedKey} (h : atK xs k = none) (a v : Value) : storedM xs k a v = xs ++ [(k, a, v)] := by simp [storedM, h]
theorem stored_old {xs : List Ent} {k : NestedKey} {p : Value × Value} (h : atK xs k = some p) (a v : Value) : storedM xs k a v = xs.map (putA k v) := by simp [storedM, h]
theorem idx_unique {xs : List Ent} (hn : (xs.map (·.1)).Nodup) : ∀ {i j : Nat} {k : NestedKey} {p q : Value × Value}, xs[i]? = some (k, p) → xs[j]? = some (k, q) → i = j := by
  intro i j k p q hi hj
  have hi' : (xs.map (·.1))[i]? = some k := by rw [List.getElem?_map, hi]; rfl
  have hj' : (xs.map (·.1))[j]? = some k := by rw [List.getElem?_map, hj]; rfl
  exact (List.getElem?_inj (List.getElem?_eq_some_iff.mp hi').1 hn).mp (hi'.trans hj'.symm)
theorem atK_of_get {xs : List Ent} (hn : (xs.map (·.1)).Nodup) {i : Nat} {k : NestedKey} {p : Value × Value} (hx : xs[i]? = some (k, p)) : atK xs k = some p := by
  induction xs generalizing i with
  | nil => simp at hx
  | cons x rest ih =>
    rw [List.map_cons, List.nodup_cons] at hn
    cases i with
    | zero =>
      simp only [List.getElem?_cons_zero, Option.some.injEq] at hx
      subst hx; simp [atK]
    | succ j =>
      simp only [List.getElem?_cons_succ] at hx
      have hmem : k ∈ rest.map (·.1) := List.mem_map.mpr ⟨(k, p), List.mem_of_getElem? hx, rfl⟩
      have hne : ¬ x.1 = k := fun e => hn.1 (e ▸ hmem)
      have := ih hn.2 hx
      simpa [atK, List.find?_cons, hne] using this
theorem atK_none {xs : List Ent} {k : NestedKey} (h : ∀ (j : Nat) (p : Value × Value), xs[j]? ≠ some (k, p)) : atK xs k = none := by
  have : (xs.find? fun x => decide (x.1 = k)) = none := by
    rw [List.find?_eq_none]
    intro x hx hk
    obtain ⟨j, hj⟩ := List.mem_iff_getElem?.mp hx
    have hk' : x.1 = k := of_decide_eq_true hk
    exact h j x.2 (by rw [hj, ← hk'])
  simp [atK, this]
theorem not_mem_keys {xs : List Ent} {k : NestedKey} (h : ∀ (j : Nat) (p : Value × Value), xs[j]? ≠ some (k, p)) : k ∉ xs.map (·.1) := by
  intro hm
  obtain ⟨x, hx, rfl⟩ := List.mem_map.mp hm
  obtain ⟨j, hj⟩ := List.mem_iff_getElem?.mp hx
  exact h j x.2 hj
theorem map_putA_off (xs : List Ent) (k : NestedKey) (v : Value) (hn : k ∉ xs.map (·.1)) : xs.map (putA k v) = xs := by
  induction xs with
  | nil => rfl
  | cons x xs ih =>
    simp only [List.map_cons, List.mem_cons, not_or] at hn ⊢
    rw [putA, if_neg (fun e => hn.1 e.symm), ih hn.2]
theorem keys_map_putA (xs : List Ent) (k : NestedKey) (v : Value) : (xs.map (putA k v)).map (·.1) = xs.map (·.1) := by
  induction xs with
  | nil => rfl
  | cons x xs ih =>
    simp only [List.map_cons, ih]
    by_cases hk : x.1 = k <;> simp [putA, hk]
theorem modify_map_putA {β : Type} (f : Ent → β) (g : β → β) (k : NestedKey) (v : Value) (hg : ∀ a v₀, g (f (k, a, v₀)) = f (k, a, v)) :
    ∀ {xs : List Ent} {j : Nat} {p : Value × Value}, (xs.map (·.1)).Nodup → xs[j]? = some (k, p) → (xs.map f).modify j g = (xs.map (putA k v)).map f := by
  intro xs
  induction xs with
  | nil => intro j p _ hj; simp at hj
  | cons x rest ih =>
    intro j p hn hj
    rw [List.map_cons, List.nodup_cons] at hn
    cases j with
    | zero =>
      simp only [List.getElem?_cons_zero, Option.some.injEq] at hj
      subst hj
      rw [List.map_cons, List.map_cons, map_putA_off rest k v hn.1, putA, if_pos rfl, List.map_cons]
      show g (f (k, p)) :: rest.map f = f (k, p.1, v) :: rest.map f
      rw [show (k, p) = (k, p.1, p.2) from rfl, hg]
    | succ j =>
      simp only [List.getElem?_cons_succ] at hj
      have hmem : k ∈ rest.map (·.1) := List.mem_map.mpr ⟨(k, p), List.mem_of_getElem? hj, rfl⟩
      have hne : ¬ x.1 = k := fun e => hn.1 (e ▸ hmem)
      rw [List.map_cons, List.map_cons, putA, if_neg hne, List.map_cons]
      show f x :: (rest.map f).modify j g = f x :: (rest.map (putA k v)).map f
      rw [ih hn.2 hj]
section
variable {prog : Program} {w : World} {A : Around} {E : Value → Shared → Prop} {s : Shared}
/-- a key: the value, in the heap -/
abbrev IsK (h : Heap) (k : NestedKey) (v : Value) : Prop := NestedIs h k v ∧ k.depth ≤ 8
def entOf (w : World) (x : Ent) : DictEntry := ⟨x.1.hash w, x.2.1, x.2.2⟩
theorem ent_at {es : Array DictEntry} {xs : List Ent} (he : es.toList = xs.map (entOf w)) (j : Nat) : es[j]? = (xs[j]?).map (entOf w) := by
  rw [← Array.getElem?_toList, he, List.getElem?_map]
theorem size_ents {es : Array DictEntry} {xs : List Ent} (he : es.toList = xs.map (entOf w)) : es.size = xs.length := by
  rw [← Array.length_toList, he, List.length_map]
theorem isK_inj {h : Heap} {x y : NestedKey} {v : Value} (hx : IsK h x v) (hy : IsK h y v) : x = y := NestedIs.inj _ _ _ hx.1 hy.1
theorem isK_eq {x y : NestedKey} {a b : Value} {Q : Bool → Shared → Prop} (hu : A.units + 8 < cLine) (hx : IsK s.heap x a) (hy : IsK s.heap y b) (h : Q (decide (x = y)) s) : wpAny (model prog w) A (eqBool a b) Q E s :=
  eqAt_key x y A s _ _ hx.1 hy.1 (by have := hx.2; omega) _ _ _ _ (by rw [← NestedKey.decide_eq]; exact h)
theorem isK_hash {k : NestedKey} {v : Value} {Q : Int → Shared → Prop} (hu : A.units + 8 < cLine) (hk : IsK s.heap k v) (h : Q (k.hash w) { s with toks := s.toks + k.draws }) : wpAny (model prog w) A (pyHash v) Q E s :=
  pyHash_key _ _ _ _ _ hk.1 (by have := hk.2; omega) h
theorem tell_quiet {kv : Value} {k : NestedKey} {stored : List Value} {Q : Bool → Shared → Prop} (hkey : IsK s.heap k kv)
    (hst : ∀ v ∈ stored, ∃ k', IsK s.heap k' v) (h : Q false s) : wpAny (model prog w) A (tableMayTell kv stored) Q E s := by
  unfold tableMayTell
  split
  · exact wpAny_pure h
  · refine wpAny_bind (quiet_key k _ 8 s hkey.1 hkey.2 A E _ ?_)
    simp only [Bool.not_true, Bool.false_eq_true, if_false]
    refine wpAny_bind ?_
    refine wpAny_forIn_list _ (fun rest r s' => s' = s ∧ r = (none, ()) ∧ ∀ v ∈ rest, ∃ k', IsK s.heap k' v) _ ?_ ?_ _ _ ⟨rfl, rfl, hst⟩
    · rintro x rest r s' ⟨rfl, rfl, hr⟩
      obtain ⟨k', hb⟩ := hr x List.mem_cons_self
      refine wpAny_bind (quiet_key k' _ 8 _ hb.1 hb.2 A E _ ?_)
      simp only [Bool.not_true, Bool.false_eq_true, if_false]
      exact wpAny_pure ⟨rfl, rfl, fun v hv => hr v (List.mem_cons_of_mem _ hv)⟩
    · rintro r s' ⟨rfl, rfl, _⟩
      exact wpAny_pure h
/-- what a lookup finds -/
def FndM (xs : List Ent) (k : NestedKey) (Q : Option Nat → Shared → Prop) (s : Shared) : Prop :=
  ((∀ (j : Nat) (p : Value × Value), xs[j]? ≠ some (k, p)) → Q none s) ∧ ∀ (j : Nat) (p : Value × Value), xs[j]? = some (k, p) → Q (some j) s
theorem dictFind_mx {d : Addr} {kv : Value} {o : Obj} {es ep} {xs : List Ent} {k : NestedKey} {Q : Option Nat → Shared → Prop} (hu : A.units + 8 < cLine) (hkey : IsK s.heap k kv) (hkv0 : (∃ z t, kv = .str z t) ∨ ∃ a, kv = .ref a)
    (ho : s.heap.get? d = some o) (hd : o.data = .dict es ep) (he : es.toList = xs.map (entOf w)) (his : ∀ x ∈ xs, IsK s.heap x.1 x.2.1) (hn : (xs.map (·.1)).Nodup)
    (hq : FndM xs k Q s) : wpAny (model prog w) A (dictFind d kv (k.hash w)) Q E s := by
  obtain ⟨hnone, hsome⟩ := hq
  have hsz : es.size = xs.length := size_ents he
  have haskey : ∀ (j : Nat) (p : Value × Value), xs[j]? = some (k, p) → ((es[j]?.map (·.hash)) == some (k.hash w)) = true := by
    intro j p hj
    rw [ent_at he j, hj]
    simp [entOf]
  have hmem : ∀ e ∈ es, ∃ x ∈ xs, e = entOf w x := by
    intro e hin
    have : e ∈ xs.map (entOf w) := he ▸ Array.mem_toList_iff.mpr hin
    obtain ⟨x, hx, rfl⟩ := List.mem_map.mp this
    exact ⟨x, hx, rfl⟩
  have hany : ¬ (es.any fun e => e.key == kv && e.hash != k.hash w) = true := by
    rw [← Array.any_toList, List.any_eq_true]
    rintro ⟨e, hin, hc⟩
    obtain ⟨x, hx, rfl⟩ := hmem e (Array.mem_toList_iff.mp hin)
    simp only [entOf, Bool.and_eq_true, beq_iff_eq, bne_iff_ne, ne_eq] at hc
    obtain ⟨hxa, hne⟩ := hc
    have := his x hx
    rw [hxa] at this
    exact hne (by rw [isK_inj this hkey])
  have hst : ∀ v ∈ (placesWithHash es.size (fun i => es[i]?.map (·.hash)) (k.hash w)).filterMap (fun i => es[i]?.map (·.key)), ∃ k', IsK s.heap k' v := by
    intro v hv
    obtain ⟨i, _, hi⟩ := List.mem_filterMap.mp hv
    cases hei : es[i]? with
    | none => rw [hei] at hi; cases hi
    | some e =>
      rw [hei] at hi
      obtain rfl : e.key = v := by simpa using hi
      obtain ⟨x, hx, rfl⟩ := hmem e (Array.mem_of_getElem? hei)
      exact ⟨x.1, his x hx⟩
  have hget : ∀ x, x < es.size → ∃ k' b v', xs[x]? = some (k', b, v') ∧ es[x]? = some ⟨k'.hash w, b, v'⟩ ∧ IsK s.heap k' b := fun x hlt => by
    obtain ⟨⟨k', b, v'⟩, hkv⟩ : ∃ y, xs[x]? = some y := ⟨xs[x]'(by rw [← hsz]; exact hlt), List.getElem?_eq_getElem _⟩
    exact ⟨k', b, v', hkv, by rw [ent_at he x, hkv]; rfl, his _ (List.mem_of_getElem? hkv)⟩
  have hend : ∀ i, i ≤ es.size → [] = (List.range' i (es.size - i)).filter (fun i => (es[i]?.map (·.hash)) == some (k.hash w)) → (∀ j p, j < i → xs[j]? ≠ some (k, p)) → ∀ (j : Nat) (p : Value × Value), xs[j]? ≠ some (k, p) := by
    intro i hi hr hno j p hj
    have hall : ∀ j, i ≤ j → j < es.size → ((es[j]?.map (·.hash)) == some (k.hash w)) = false := by
      intro j h1 h2
      have := List.filter_eq_nil_iff.mp hr.symm j (List.mem_range'_1.mpr ⟨h1, by omega⟩)
      simpa using this
    rcases Nat.lt_or_ge j i with h | h
    · exact hno j p h hj
    · have hjl : j < es.size := by
        rw [hsz]
        rcases Nat.lt_or_ge j xs.length with h' | h'
        · exact h'
        · rw [List.getElem?_eq_none h'] at hj; exact nomatch hj
      have := hall j h hjl
      rw [haskey j p hj] at this
      exact absurd this (by decide)
  -- the walk over keys carried by value
  have plain : wpAny (model prog w) A (dictWalkPlain d kv (k.hash w) es (placesWithHash es.size (fun i => es[i]?.map (·.hash)) (k.hash w))) Q E s := by
    refine wpAny_bind ?_
    refine wpAny_forIn_list _
      (fun rest b s' => s' = s ∧ b = (none, ()) ∧ ∃ i, rest = (List.range' i (es.size - i)).filter (fun i => (es[i]?.map (·.hash)) == some (k.hash w)) ∧ i ≤ es.size ∧
        ∀ j p, j < i → xs[j]? ≠ some (k, p)) _ ?_ ?_ _ _
      ⟨rfl, rfl, 0, by rw [placesWithHash, List.range_eq_range', Nat.sub_zero], Nat.zero_le _, fun _ _ h => absurd h (Nat.not_lt_zero _)⟩
    · rintro x rest b s' ⟨rfl, rfl, i, hr, hi, hno⟩
      obtain ⟨hix, hxn, hpx, hskip, hrest⟩ := filter_range'_cons _ _ _ _ _ hr.symm
      have hlt : x < es.size := by omega
      have hrest' : rest = (List.range' (x + 1) (es.size - (x + 1))).filter (fun i => (es[i]?.map (·.hash)) == some (k.hash w)) := by rw [hrest]; congr 2; omega
      obtain ⟨k', b, v', hkv, hex, hib⟩ := hget x hlt
      have hno' : ¬ k' = k → ∀ j p, j < x + 1 → xs[j]? ≠ some (k, p) := fun hne j p hjx hj => by
        rcases Nat.lt_or_ge j i with h | h
        · exact hno j p h hj
        · rcases Nat.lt_or_ge j x with h' | h'
          · have := hskip j h h'
            rw [haskey j p hj] at this
            exact absurd this (by decide)
          · obtain rfl : j = x := by omega
            rw [hkv] at hj
            injection hj with hj
            injection hj with hj
            exact hne hj
      rw [hex]
      dsimp only
      by_cases hh : (k'.hash w == k.hash w) = true
      · rw [if_pos hh]
        refine wpAny_bind (wpAny_dictEpoch ho hd (wpAny_bind (isK_eq hu hib hkey (wpAny_bind (wpAny_dictEpoch ho hd ?_)))))
        show wpAny _ _ (if (ep != ep) = true then _ else _) _ E _
        rw [if_neg (by simp)]
        by_cases hkk : k' = k
        · rw [decide_eq_true hkk]
          subst hkk
          exact wpAny_bind (wpAny_rule (wpAny_pure (wpAny_pure (hsome x _ hkv))))
        · rw [decide_eq_false hkk]
          exact wpAny_bind (wpAny_rule (wpAny_pure ⟨rfl, rfl, x + 1, hrest', hlt, hno' hkk⟩))
      · rw [if_neg hh]
        refine wpAny_pure ⟨rfl, rfl, x + 1, hrest', hlt, hno' fun hkk => ?_⟩
        rw [hkk] at hh; simp at hh
    · rintro b s' ⟨rfl, rfl, i, hr, hi, hno⟩
      exact wpAny_pure (hnone (hend i hi hr hno))
  unfold dictFind
  try with_reducible refine wpAny_holding ?_
  refine wpAny_bind (wpAny_dictEntries ho hd ?_)
  dsimp only
  rcases hkv0 with ⟨z, t, rfl⟩ | ⟨a, rfl⟩
  · dsimp only
    have found : (es.all fun e => isExactStrKey e.key) = true → wpAny (model prog w) A (foundByValue d (.str z t) es z) Q E s := fun hstrs => by
      have hkz : k = .text z := by
        obtain ⟨h1, _⟩ := hkey
        cases h1
        rfl
      have hfun : ∀ (j : Nat) (hj : j < es.size), (es[j].key.isStr z = true ↔ ∃ p, xs[j]? = some (k, p)) := fun j hj => by
        obtain ⟨k', b, v', hkv, hex, hib⟩ := hget j hj
        rw [Array.getElem?_eq_getElem hj] at hex
        have ej := Option.some.inj hex
        rw [ej, hkv]
        show b.isStr z = true ↔ _
        have hb : isExactStrKey b = true := by
          have := Array.all_eq_true.mp hstrs j hj
          rw [ej] at this
          exact this
        obtain ⟨h1, _⟩ := hib
        cases h1 with
        | text y u =>
          rw [hkz]
          constructor
          · intro h
            have : y = z := by simpa [Value.isStr] using h
            subst this
            exact ⟨_, rfl⟩
          · rintro ⟨p, h⟩
            injection h with h
            injection h with h _
            injection h with h
            subst h
            simp [Value.isStr]
        | none => cases hb
        | bool _ => cases hb
        | int _ _ => cases hb
        | tup _ _ _ _ => cases hb
      unfold foundByValue
      cases hf : es.findIdx? (fun e => e.key.isStr z) with
      | none =>
        refine wpAny_pure (hnone fun j p hj => ?_)
        have hjl : j < es.size := by
          rw [hsz]
          exact (List.getElem?_eq_some_iff.mp hj).1
        have h1 := Array.findIdx?_eq_none_iff.mp hf es[j] (Array.getElem_mem hjl)
        have h2 := (hfun j hjl).mpr ⟨p, hj⟩
        rw [h2] at h1
        cases h1
      | some i =>
        obtain ⟨hlt, hi, _⟩ := Array.findIdx?_eq_some_iff_getElem.mp hf
        obtain ⟨p, hp⟩ := (hfun i hlt).mp hi
        obtain ⟨k', b, v', hkv, hex, hib⟩ := hget i hlt
        rw [hp] at hkv
        injection hkv with hkv
        injection hkv with hk1 _
        subst hk1
        rw [Array.getElem?_eq_getElem hlt] at hex
        have ej := Option.some.inj hex
        simp only [Array.getElem?_eq_getElem hlt]
        rw [ej]
        refine wpAny_bind (wpAny_dictEpoch ho hd (wpAny_bind (isK_eq hu hib hkey (wpAny_bind (wpAny_dictEpoch ho hd ?_)))))
        show wpAny _ _ (if (ep != ep) = true then _ else _) _ E _
        rw [if_neg (by simp), decide_eq_true rfl]
        exact wpAny_bind (wpAny_rule (wpAny_pure (hsome i p hp)))
    by_cases hstrs : (es.all fun e => isExactStrKey e.key) = true
    · rw [if_pos hstrs]
      exact found hstrs
    · rw [if_neg hstrs]
      by_cases hall : ((Value.str z t :: (placesWithHash es.size (fun i => es[i]?.map (·.hash)) (k.hash w)).filterMap (fun i => es[i]?.map (·.key))).all carriedByValue) = true
      · rw [if_pos hall]
        exact plain
      · rw [if_neg hall]
        by_cases hone : (((placesWithHash es.size (fun i => es[i]?.map (·.hash)) (k.hash w)).filterMap (fun i => es[i]?.map (·.key))) == [Value.str z t]) = true <;>
        (first | rw [if_pos hone] | rw [if_neg hone]) <;> (first | refine wpAny_bind (wpAny_pure ?_) | refine wpAny_bind (tell_quiet hkey hst ?_)) <;> (
          rw [if_neg (by simp)]
          refine wpAny_bind ?_
          refine wpAny_forIn_list _
            (fun rest b s' => s' = s ∧ ∃ i hit, b = (none, hit) ∧ rest = (List.range' i (es.size - i)).filter (fun i => (es[i]?.map (·.hash)) == some (k.hash w)) ∧ i ≤ es.size ∧
              ((hit = none ∧ ∀ j p, j < i → xs[j]? ≠ some (k, p)) ∨ ∃ j p, hit = some j ∧ j < i ∧ xs[j]? = some (k, p))) _ ?_ ?_ _ _
            ⟨rfl, 0, none, rfl, by rw [placesWithHash, List.range_eq_range', Nat.sub_zero], Nat.zero_le _, .inl ⟨rfl, fun _ _ h => absurd h (Nat.not_lt_zero _)⟩⟩
          · rintro x rest b s' ⟨rfl, i, hit, rfl, hr, hi, hH⟩
            obtain ⟨hix, hxn, hpx, hskip, hrest⟩ := filter_range'_cons _ _ _ _ _ hr.symm
            have hlt : x < es.size := by omega
            have hrest' : rest = (List.range' (x + 1) (es.size - (x + 1))).filter (fun i => (es[i]?.map (·.hash)) == some (k.hash w)) := by rw [hrest]; congr 2; omega
            obtain ⟨k', b, v', hkv, hex, hib⟩ := hget x hlt
            have hHx : (hit = none ∧ ∀ j p, j < x → xs[j]? ≠ some (k, p)) ∨ ∃ j p, hit = some j ∧ j < x ∧ xs[j]? = some (k, p) := by
              rcases hH with ⟨h0, hno⟩ | ⟨j, p, h1, hji, hj⟩
              · refine .inl ⟨h0, fun j p hjx hj => ?_⟩
                rcases Nat.lt_or_ge j i with h | h
                · exact hno j p h hj
                · have := hskip j h hjx
                  rw [haskey j p hj] at this
                  exact absurd this (by decide)
              · exact .inr ⟨j, p, h1, by omega, hj⟩
            have hstay : ¬ k' = k → ((hit = none ∧ ∀ j p, j < x + 1 → xs[j]? ≠ some (k, p)) ∨ ∃ j p, hit = some j ∧ j < x + 1 ∧ xs[j]? = some (k, p)) := by
              intro hne
              rcases hHx with ⟨h0, hno⟩ | ⟨j, p, h1, hjx, hj⟩
              · refine .inl ⟨h0, fun j p hjx hj => ?_⟩
                rcases Nat.lt_or_ge j x with h | h
                · exact hno j p h hj
                · have hjx' : j = x := by omega
                  subst hjx'
                  rw [hkv] at hj
                  injection hj with hj
                  injection hj with hj
                  exact hne hj
              · exact .inr ⟨j, p, h1, by omega, hj⟩
            rw [hex]
            dsimp only
            by_cases hh : (k'.hash w == k.hash w) = true
            · rw [if_pos hh]
              refine wpAny_bind (wpAny_dictEpoch ho hd (wpAny_bind (isK_eq hu hib hkey (wpAny_bind (wpAny_dictEpoch ho hd ?_)))))
              show wpAny _ _ (if (ep != ep) = true then _ else _) _ E _
              rw [if_neg (by simp)]
              by_cases hkk : k' = k
              · rw [decide_eq_true hkk]
                subst hkk
                rcases hHx with ⟨rfl, _⟩ | ⟨j, p, _, hjx, hj⟩
                · first | rw [if_pos rfl] | skip
                  simp only [Option.isSome_none, Bool.false_eq_true, if_false]
                  first | refine wpAny_bind (wpAny_pure ?_) | skip
                  refine wpAny_bind (wpAny_rule ?_)
                  split
                  · exact wpAny_pure (wpAny_pure (hsome x _ hkv))
                  · exact wpAny_pure ⟨rfl, x + 1, some x, rfl, hrest', hlt, .inr ⟨x, _, rfl, Nat.lt_succ_self x, hkv⟩⟩
                · exact absurd (idx_unique hn hj hkv) (by omega)
              · rw [decide_eq_false hkk]
                simp only [Bool.false_eq_true, if_false]
                refine wpAny_bind (wpAny_rule ?_)
                first | rw [if_neg (by simp)] | skip
                first
                  | exact wpAny_pure ⟨rfl, x + 1, hit, rfl, hrest', hlt, hstay hkk⟩
                  | exact wpAny_bind (wpAny_pure (wpAny_pure ⟨rfl, x + 1, hit, rfl, hrest', hlt, hstay hkk⟩))
            · rw [if_neg hh]
              refine wpAny_pure ⟨rfl, x + 1, hit, rfl, hrest', hlt, hstay ?_⟩
              intro hkk
              rw [hkk] at hh; simp at hh
          · rintro b s' ⟨rfl, i, hit, rfl, hr, hi, hH⟩
            rcases hH with ⟨rfl, hno⟩ | ⟨j, p, rfl, _, hj⟩
            · exact wpAny_pure (hnone (hend i hi hr hno))
            · exact wpAny_pure (hsome j p hj))
  · rw [if_neg (show ¬ ((Value.ref a :: (placesWithHash es.size (fun i => es[i]?.map (·.hash)) (k.hash w)).filterMap (fun i => es[i]?.map (·.key))).all carriedByValue) = true by simp [carriedByValue])]
    rw [if_neg hany]
    by_cases hone : (((placesWithHash es.size (fun i => es[i]?.map (·.hash)) (k.hash w)).filterMap (fun i => es[i]?.map (·.key))) == [Value.ref a]) = true <;>
    (first | rw [if_pos hone] | rw [if_neg hone]) <;> (first | refine wpAny_bind (wpAny_pure ?_) | refine wpAny_bind (tell_quiet hkey hst ?_)) <;> (
      rw [if_neg (by simp)]
      refine wpAny_bind ?_
      refine wpAny_forIn_list _
        (fun rest b s' => s' = s ∧ ∃ i hit, b = (none, hit) ∧ rest = (List.range' i (es.size - i)).filter (fun i => (es[i]?.map (·.hash)) == some (k.hash w)) ∧ i ≤ es.size ∧
          ((hit = none ∧ ∀ j p, j < i → xs[j]? ≠ some (k, p)) ∨ ∃ j p, hit = some j ∧ j < i ∧ xs[j]? = some (k, p))) _ ?_ ?_ _ _
        ⟨rfl, 0, none, rfl, by rw [placesWithHash, List.range_eq_range', Nat.sub_zero], Nat.zero_le _, .inl ⟨rfl, fun _ _ h => absurd h (Nat.not_lt_zero _)⟩⟩
      · rintro x rest b s' ⟨rfl, i, hit, rfl, hr, hi, hH⟩
        obtain ⟨hix, hxn, hpx, hskip, hrest⟩ := filter_range'_cons _ _ _ _ _ hr.symm
        have hlt : x < es.size := by omega
        have hrest' : rest = (List.range' (x + 1) (es.size - (x + 1))).filter (fun i => (es[i]?.map (·.hash)) == some (k.hash w)) := by rw [hrest]; congr 2; omega
        obtain ⟨k', b, v', hkv, hex, hib⟩ := hget x hlt
        have hHx : (hit = none ∧ ∀ j p, j < x → xs[j]? ≠ some (k, p)) ∨ ∃ j p, hit = some j ∧ j < x ∧ xs[j]? = some (k, p) := by
          rcases hH with ⟨h0, hno⟩ | ⟨j, p, h1, hji, hj⟩
          · refine .inl ⟨h0, fun j p hjx hj => ?_⟩
            rcases Nat.lt_or_ge j i with h | h
            · exact hno j p h hj
            · have := hskip j h hjx
              rw [haskey j p hj] at this
              exact absurd this (by decide)
          · exact .inr ⟨j, p, h1, by omega, hj⟩
        have hstay : ¬ k' = k → ((hit = none ∧ ∀ j p, j < x + 1 → xs[j]? ≠ some (k, p)) ∨ ∃ j p, hit = some j ∧ j < x + 1 ∧ xs[j]? = some (k, p)) := by
          intro hne
          rcases hHx with ⟨h0, hno⟩ | ⟨j, p, h1, hjx, hj⟩
          · refine .inl ⟨h0, fun j p hjx hj => ?_⟩
            rcases Nat.lt_or_ge j x with h | h
            · exact hno j p h hj
            · have hjx' : j = x := by omega
              subst hjx'
              rw [hkv] at hj
              injection hj with hj
              injection hj with hj
              exact hne hj
          · exact .inr ⟨j, p, h1, by omega, hj⟩
        rw [hex]
        dsimp only
        by_cases hh : (k'.hash w == k.hash w) = true
        · rw [if_pos hh]
          refine wpAny_bind (wpAny_dictEpoch ho hd (wpAny_bind (isK_eq hu hib hkey (wpAny_bind (wpAny_dictEpoch ho hd ?_)))))
          show wpAny _ _ (if (ep != ep) = true then _ else _) _ E _
          rw [if_neg (by simp)]
          by_cases hkk : k' = k
          · rw [decide_eq_true hkk]
            subst hkk
            rcases hHx with ⟨rfl, _⟩ | ⟨j, p, _, hjx, hj⟩
            · first | rw [if_pos rfl] | skip
              simp only [Option.isSome_none, Bool.false_eq_true, if_false]
              first | refine wpAny_bind (wpAny_pure ?_) | skip
              refine wpAny_bind (wpAny_rule ?_)
              split
              · exact wpAny_pure (wpAny_pure (hsome x _ hkv))
              · exact wpAny_pure ⟨rfl, x + 1, some x, rfl, hrest', hlt, .inr ⟨x, _, rfl, Nat.lt_succ_self x, hkv⟩⟩
            · exact absurd (idx_unique hn hj hkv) (by omega)
          · rw [decide_eq_false hkk]
            simp only [Bool.false_eq_true, if_false]
            refine wpAny_bind (wpAny_rule ?_)
            first | rw [if_neg (by simp)] | skip
            first
              | exact wpAny_pure ⟨rfl, x + 1, hit, rfl, hrest', hlt, hstay hkk⟩
              | exact wpAny_bind (wpAny_pure (wpAny_pure ⟨rfl, x + 1, hit, rfl, hrest', hlt, hstay hkk⟩))
        · rw [if_neg hh]
          refine wpAny_pure ⟨rfl, x + 1, hit, rfl, hrest', hlt, hstay ?_⟩
          intro hkk
          rw [hkk] at hh; simp at hh
      · rintro b s' ⟨rfl, i, hit, rfl, hr, hi, hH⟩
        rcases hH with ⟨rfl, hno⟩ | ⟨j, p, rfl, _, hj⟩
        · exact wpAny_pure (hnone (hend i hi hr hno))
        · exact wpAny_pure (hsome j p hj))
end
end PySem.Mx

set_option Elab.async false
set_option linter.all false
set_option maxRecDepth 100000
set_option maxHeartbeats 4000000
/-! ## dicts whose keys are texts and tuples side by side: what the methods do -/
namespace PySem.Mx
open PySem
section
variable {prog : Program} {w : World} {A : Around} {E : Value → Shared → Prop} {s : Shared}
abbrev KeyV (v : Value) : Prop := (∃ z t, v = .str z t) ∨ ∃ a, v = .ref a
def DictM (w : World) (h : Heap) (d : Addr) (xs : List Ent) : Prop :=
  ∃ o es ep, h.get? d = some o ∧ o.ExactDict ∧ o.data = .dict es ep ∧ es.toList = xs.map (entOf w) ∧ (xs.map (·.1)).Nodup
theorem DictM.typeIs {d : Addr} {xs : List Ent} (hm : DictM w s.heap d xs) : s.TypeIs (.ref d) "dict" := let ⟨o, _, _, ho, hc, _⟩ := hm; ⟨o, ho, hc.1⟩
theorem dictGet_mx {d : Addr} {kv : Value} {xs : List Ent} {k : NestedKey} {Q : Option Value → Shared → Prop} (hu : A.units + 8 < cLine) (hkey : IsK s.heap k kv) (hk0 : KeyV kv) (hm : DictM w s.heap d xs) (his : ∀ x ∈ xs, IsK s.heap x.1 x.2.1)
    (h : Q ((atK xs k).map (·.2)) { s with toks := s.toks + k.draws }) : wpAny (model prog w) A (dictGet d kv) Q E s := by
  obtain ⟨o, es, ep, ho, _, hd, he, hn⟩ := hm
  unfold dictGet
  try with_reducible refine wpAny_holding ?_
  refine wpAny_bind (isK_hash hu hkey (wpAny_bind (dictFind_mx (s := { s with toks := s.toks + k.draws }) hu hkey hk0 ho hd he his hn ⟨fun hno => ?_, fun j p hj => ?_⟩)))
  · rw [atK_none hno] at h
    exact wpAny_pure h
  · rw [atK_of_get hn hj] at h
    refine wpAny_bind (wpAny_dictEntries (s := { s with toks := s.toks + k.draws }) ho hd ?_)
    rw [ent_at he j, hj]
    exact wpAny_pure h
theorem nodup_stored {xs : List Ent} {k : NestedKey} {a v : Value} (hn : (xs.map (·.1)).Nodup) (h : atK xs k = none) : ((storedM xs k a v).map (·.1)).Nodup := by
  rw [stored_new h, List.map_append, List.nodup_append]
  refine ⟨hn, by simp, ?_⟩
  intro x hx y hy e
  simp only [List.map_cons, List.map_nil, List.mem_singleton] at hy
  rw [hy] at e
  obtain ⟨z, hz, ez⟩ := List.mem_map.mp hx
  have : atK xs k ≠ none := by
    unfold atK
    rw [ne_eq, Option.map_eq_none_iff, List.find?_eq_none]
    intro q
    exact q z hz (decide_eq_true (ez.trans e))
  exact this h
theorem dictSetHashed_mx {d : Addr} {kv : Value} {xs : List Ent} {k : NestedKey} {v : Value} {Q : Unit → Shared → Prop} (hu : A.units + 8 < cLine) (hkey : IsK s.heap k kv) (hk0 : KeyV kv) (hm : DictM w s.heap d xs) (his : ∀ x ∈ xs, IsK s.heap x.1 x.2.1)
    (hQ : ∀ h', DictM w h' d (storedM xs k kv v) → Heap.SameBut d s.heap h' → Q () { s with heap := h' })
    (hsz : xs.length ≤ sizeLine) : wpAny (model prog w) A (dictSetHashed d kv (k.hash w) v) Q E s := by
  obtain ⟨o, es, ep, ho, hc, hd, he, hn⟩ := hm
  unfold dictSetHashed
  try with_reducible refine wpAny_holding ?_
  refine wpAny_bind (dictFind_mx hu hkey hk0 ho hd he his hn ⟨fun hno => ?_, fun j p hj => ?_⟩)
  · have ha := atK_none hno
    refine wpAny_bind (wpAny_rule (wpAny_updateDictKeys (hz := by have e := size_ents he; omega) ho hd (hQ _ ⟨_, _, ep + 1, Heap.get?_update_self _ ho (Obj.isFreed_of_dict (Obj.data_mapDictKeys hd _)),
      hc.mapDictKeys _, Obj.data_mapDictKeys hd _, ?_, nodup_stored hn ha⟩ (Heap.SameBut.update ..))))
    rw [stored_new ha]
    simp [he, entOf]
  · refine wpAny_bind (wpAny_rule (wpAny_bind (wpAny_updateDict ho hd (wpAny_point (hQ _ ⟨_, _, ep, Heap.get?_update_self _ ho (Obj.isFreed_of_dict (Obj.data_mapDict hd _)),
      hc.mapDict _, Obj.data_mapDict hd _, ?_, ?_⟩ (Heap.SameBut.update ..))))))
    · rw [stored_old (atK_of_get hn hj)]
      have := modify_map_putA (entOf w) (fun e : DictEntry => { e with val := v }) k v (fun _ _ => rfl) hn hj
      rw [← he] at this
      obtain ⟨l⟩ := es
      simpa using this
    · rw [stored_old (atK_of_get hn hj), keys_map_putA]
      exact hn
theorem dictSet_mx {d : Addr} {kv : Value} {xs : List Ent} {k : NestedKey} {v : Value} {Q : Unit → Shared → Prop} (hu : A.units + 8 < cLine) (hkey : IsK s.heap k kv) (hk0 : KeyV kv) (hm : DictM w s.heap d xs) (his : ∀ x ∈ xs, IsK s.heap x.1 x.2.1)
    (hQ : ∀ h', DictM w h' d (storedM xs k kv v) → Heap.SameBut d s.heap h' → Q () { s with heap := h', toks := s.toks + k.draws })
    (hsz : xs.length ≤ sizeLine) : wpAny (model prog w) A (dictSet d kv v) Q E s := by
  unfold dictSet
  try with_reducible refine wpAny_holding ?_
  exact wpAny_bind (isK_hash hu hkey (dictSetHashed_mx (s := { s with toks := s.toks + k.draws }) hu hkey hk0 hm his hQ hsz))
theorem dictSetDefault_mx {d : Addr} {kv : Value} {xs : List Ent} {k : NestedKey} {dflt : Value} {Q : Value → Shared → Prop} (hu : A.units + 8 < cLine) (hkey : IsK s.heap k kv) (hk0 : KeyV kv) (hm : DictM w s.heap d xs) (his : ∀ x ∈ xs, IsK s.heap x.1 x.2.1)
    (h1 : ∀ p, atK xs k = some p → Q p.2 { s with toks := s.toks + k.draws })
    (h2 : atK xs k = none → ∀ h', DictM w h' d (storedM xs k kv dflt) → Heap.SameBut d s.heap h' → Q dflt { s with heap := h', toks := s.toks + k.draws })
    (hsz : xs.length ≤ sizeLine) : wpAny (model prog w) A (dictSetDefault d kv dflt) Q E s := by
  obtain ⟨o, es, ep, ho, hc, hd, he, hn⟩ := hm
  unfold dictSetDefault
  try with_reducible refine wpAny_holding ?_
  refine wpAny_bind (isK_hash hu hkey ?_)
  refine wpAny_bind (dictFind_mx (s := { s with toks := s.toks + k.draws }) hu hkey hk0 ho hd he his hn ⟨fun hno => ?_, fun j p hj => ?_⟩)
  · have ha := atK_none hno
    refine wpAny_bind (wpAny_rule (wpAny_bind (wpAny_updateDictKeys (hz := by have e := size_ents he; omega) (s := { s with toks := s.toks + k.draws }) ho hd (wpAny_pure (h2 ha _ ⟨_, _, ep + 1, Heap.get?_update_self _ ho (Obj.isFreed_of_dict (Obj.data_mapDictKeys hd _)),
      hc.mapDictKeys _, Obj.data_mapDictKeys hd _, ?_, nodup_stored hn ha⟩ (Heap.SameBut.update ..))))))
    rw [stored_new ha]
    simp [he, entOf]
  · refine wpAny_bind (wpAny_dictEntries (s := { s with toks := s.toks + k.draws }) ho hd ?_)
    rw [ent_at he j, hj]
    exact wpAny_bind (wpAny_rule (wpAny_pure (h1 p (atK_of_get hn hj))))
theorem contains_mx {d : Addr} {kv : Value} {xs : List Ent} {k : NestedKey} {Q : Bool → Shared → Prop} (hu : A.in1.units + 8 < cLine) (hkey : IsK s.heap k kv) (hk0 : KeyV kv) (hd : (d == sysModules) = false) (hm : DictM w s.heap d xs) (his : ∀ x ∈ xs, IsK s.heap x.1 x.2.1)
    (h : Q (atK xs k).isSome { s with toks := s.toks + k.draws }) : wpAny (model prog w) A (contains (.ref d) kv) Q E s := by
  unfold PySem.contains
  try with_reducible refine wpAny_holding ?_
  refine wpAny_bind (wpAny_specialOf hm.typeIs slot_dict_contains.lookup ?_)
  show wpAny _ _ (if (some (Value.builtin "dict.__contains__") == some Value.none) = true then _ else _) _ E s
  rw [if_neg (by rw [beq_builtin_none]; exact Bool.false_ne_true)]
  refine wpAny_bind (wpAny_callSpecialUnlessNone?_slot (name := Str.ofString "__contains__") hm.typeIs slot_dict_contains
    (wpAny_call_entry slot_dict_contains hm.typeIs entry_dict_contains ?_ (args_dict_contains _ _)))
  show wpAny _ _ (dictGet d kv >>= _) _ _ s
  refine wpAny_bind (dictGet_mx hu hkey hk0 hm his ?_)
  cases hf : atK xs k with
  | some p =>
    rw [hf] at h
    show wpAny _ _ (ret (.bool true)) _ _ _
    exact wpAny_pure ⟨_, rfl, wpAny_truthy_bool h⟩
  | none =>
    rw [hf] at h
    show wpAny _ _ (Builtin.Dict.pendingKey? d kv >>= _) _ _ _
    exact wpAny_bind (wpAny_pendingKey_other hd (wpAny_pure ⟨_, rfl, wpAny_truthy_bool h⟩))
theorem in_mx {d : Addr} {kv : Value} {xs : List Ent} {k : NestedKey} {Q : Value → Shared → Prop} (hu : A.in1.units + 8 < cLine) (hkey : IsK s.heap k kv) (hk0 : KeyV kv) (hd : (d == sysModules) = false) (hm : DictM w s.heap d xs) (his : ∀ x ∈ xs, IsK s.heap x.1 x.2.1)
    (h : Q (.bool (atK xs k).isSome) { s with toks := s.toks + k.draws }) : wpAny (model prog w) A (compareOp .In kv (.ref d)) Q E s := by
  show wpAny _ _ (do return .bool (← contains (.ref d) kv)) Q E s
  exact wpAny_bind (contains_mx hu hkey hk0 hd hm his (wpAny_pure h))
theorem notIn_mx {d : Addr} {kv : Value} {xs : List Ent} {k : NestedKey} {Q : Value → Shared → Prop} (hu : A.in1.units + 8 < cLine) (hkey : IsK s.heap k kv) (hk0 : KeyV kv) (hd : (d == sysModules) = false) (hm : DictM w s.heap d xs) (his : ∀ x ∈ xs, IsK s.heap x.1 x.2.1)
    (h : Q (.bool (!(atK xs k).isSome)) { s with toks := s.toks + k.draws }) : wpAny (model prog w) A (compareOp .NotIn kv (.ref d)) Q E s := by
  show wpAny _ _ (do return .bool (!(← contains (.ref d) kv))) Q E s
  exact wpAny_bind (contains_mx hu hkey hk0 hd hm his (wpAny_pure h))
theorem getItem_mx {d : Addr} {kv : Value} {xs : List Ent} {k : NestedKey} {p : Value × Value} {Q : Value → Shared → Prop} (hu : A.in1.units + 8 < cLine) (hkey : IsK s.heap k kv) (hk0 : KeyV kv) (hm : DictM w s.heap d xs) (his : ∀ x ∈ xs, IsK s.heap x.1 x.2.1) (hp : atK xs k = some p)
    (h : Q p.2 { s with toks := s.toks + k.draws }) : wpAny (model prog w) A (getItem (.ref d) kv) Q E s := by
  unfold getItem
  try with_reducible refine wpAny_holding ?_
  refine wpAny_bind (wpAny_sequenceKey hm.typeIs (by decide) ?_)
  refine wpAny_bind (wpAny_callSpecial?_slot (name := Str.ofString "__getitem__") hm.typeIs slot_dict_getitem
    (wpAny_call_entry slot_dict_getitem hm.typeIs entry_dict_getitem ?_ (args_dict_getitem _ _)))
  show wpAny _ _ (dictGet d kv >>= _) _ _ s
  refine wpAny_bind (dictGet_mx hu hkey hk0 hm his ?_)
  rw [hp]
  exact wpAny_pure ⟨p.2, rfl, wpAny_pure h⟩
theorem setItem_mx {d : Addr} {kv : Value} {xs : List Ent} {k : NestedKey} {v : Value} {Q : Unit → Shared → Prop} (hu : A.in1.units + 8 < cLine) (hkey : IsK s.heap k kv) (hk0 : KeyV kv) (hm : DictM w s.heap d xs) (his : ∀ x ∈ xs, IsK s.heap x.1 x.2.1)
    (hQ : ∀ h', DictM w h' d (storedM xs k kv v) → Heap.SameBut d s.heap h' → Q () { s with heap := h', toks := s.toks + k.draws })
    (hsz : xs.length ≤ sizeLine) : wpAny (model prog w) A (setItem (.ref d) kv v) Q E s := by
  unfold setItem
  try with_reducible refine wpAny_holding ?_
  refine wpAny_bind (wpAny_sequenceKey hm.typeIs (by decide) ?_)
  refine wpAny_bind (wpAny_callSpecial?_slot (name := Str.ofString "__setitem__") hm.typeIs slot_dict_setitem
    (wpAny_call_entry slot_dict_setitem hm.typeIs entry_dict_setitem ?_ (args_dict_setitem _ _ _)))
  show wpAny _ _ (Builtin.Dict.notOrdered "__setitem__" ⟨[.ref d, kv, v], []⟩ >>= _) _ _ s
  refine wpAny_bind (wpAny_notOrdered_dict hm.typeIs ?_)
  show wpAny _ _ (dictSet d kv v >>= _) _ _ s
  exact wpAny_bind (dictSet_mx hu hkey hk0 hm his (fun h' hm' hs' => wpAny_pure ⟨.none, rfl, wpAny_pure (hQ h' hm' hs')⟩) hsz)
end
section
variable {prog : Program} {w : World} (d : Addr) (kv : Value)
theorem meets_get_mx (hd : (d == sysModules) = false) (dflt : Value) :
    MeetsIn prog w (Builtin.«dict.get» ⟨[.ref d, kv, dflt], []⟩) (fun A R s => A.in1.units + 8 < cLine ∧ KeyV kv ∧ ∃ k xs, IsK s.heap k kv ∧ DictM w s.heap d xs ∧ (∀ x ∈ xs, IsK s.heap x.1 x.2.1) ∧
      R (.ok (.ret (((atK xs k).map (·.2)).getD dflt))) { s with toks := s.toks + k.draws }) :=
  .of_wp fun A R s ⟨hu, hk0, k, xs, hkey, hm, his, h⟩ => by
    show wpAny _ _ (dictGet d kv >>= _) _ _ s
    refine wpAny_bind (dictGet_mx hu hkey hk0 hm his ?_)
    cases hf : (atK xs k).map (·.2) with
    | some v =>
      rw [hf] at h
      exact wpAny_pure ⟨v, rfl, h⟩
    | none =>
      rw [hf] at h
      show wpAny _ _ (Builtin.Dict.missed d kv >>= _) _ _ _
      exact wpAny_bind (wpAny_missed_other hd (wpAny_pure ⟨dflt, rfl, h⟩))
theorem meets_setdefault_mx (hd : (d == sysModules) = false) (dflt : Value) :
    MeetsIn prog w (Builtin.«dict.setdefault» ⟨[.ref d, kv, dflt], []⟩) (fun A R s => A.in1.units + 8 < cLine ∧ KeyV kv ∧ ∃ k xs, IsK s.heap k kv ∧ DictM w s.heap d xs ∧ (∀ x ∈ xs, IsK s.heap x.1 x.2.1) ∧ xs.length ≤ sizeLine ∧
      (∀ p, atK xs k = some p → R (.ok (.ret p.2)) { s with toks := s.toks + k.draws }) ∧
      (atK xs k = none → ∀ h', DictM w h' d (storedM xs k kv dflt) → Heap.SameBut d s.heap h' → R (.ok (.ret dflt)) { s with heap := h', toks := s.toks + k.draws })) :=
  .of_wp fun A R s ⟨hu, hk0, k, xs, hkey, hm, his, hz, h1, h2⟩ => by
    unfold Builtin.«dict.setdefault»
    refine wpAny_bind ?_
    unfold Builtin.Dict.keyAndDefault
    refine wpAny_bind (wpAny_notOrdered_dict hm.typeIs ?_)
    show wpAny _ _ (pure (d, kv, some dflt)) _ _ s
    refine wpAny_pure ?_
    show wpAny _ _ (if (d == sysModules) = true then _ else (dictSetDefault d kv dflt >>= _)) _ _ s
    rw [if_neg (by rw [hd]; exact Bool.false_ne_true)]
    exact wpAny_bind (dictSetDefault_mx hu hkey hk0 hm his (fun p hp => wpAny_pure ⟨p.2, rfl, h1 p hp⟩) (fun hn h' hm' hs' => wpAny_pure ⟨dflt, rfl, h2 hn h' hm' hs'⟩) hz)
end
end PySem.Mx

set_option Elab.async false
set_option linter.all false
set_option maxRecDepth 100000
set_option maxHeartbeats 4000000
/-! ## dicts whose keys are texts and tuples of texts: what stands in the heap -/
namespace L2
namespace Eld
open PySem PySem.Spec PyProof.Rows
abbrev MEnt := NestedKey × V × V
abbrev MRel : List MEnt → List PySem.Mx.Ent → Prop := Paired fun e x => e.1 = x.1 ∧ RelV e.2.1 x.2.1 ∧ RelV e.2.2 x.2.2
def MxR (w : World) (h : Heap) (a : Addr) (es : List MEnt) : Prop := es.length ≤ sizeLine ∧ (a == sysModules) = false ∧ ∃ xs, MRel es xs ∧ PySem.Mx.DictM w h a xs
def MxO (w : World) (a : Addr) (es : List MEnt) : HO := .ext fun h => MxR w h a es
theorem mxO_new {w : World} {P : Program} {H : Hp} {h : Heap} {a : Addr} {es : List MEnt} (R : MxR w h a es) : ObjOk P w H h a (MxO w a es) := by
  obtain ⟨_, _, _, _, o, _, _, ho, _⟩ := id R
  refine ⟨R, ⟨o, ho⟩, fun h1 h2 p k => ?_⟩
  obtain ⟨a1, a2, xs, a3, o, ds, ep, ho, r⟩ := p
  exact ⟨a1, a2, xs, a3, o, ds, ep, k o ho, r⟩
theorem rd_mx {w : World} {P : Program} {H : Hp} {h : Heap} {a : Addr} {es : List MEnt} (ok : HOk P w H h) (e : Rd H a (MxO w a es)) : MxR w h a es := (e.ok ok).1
/-- a value that is a key -/
def KeyIs (H : Hp) (k : NestedKey) (v : V) : Prop := (∃ x, k = .text x ∧ v = .str x) ∨ ∃ (q : Addr) (xs : List Str), k = .tup (xs.map .text) ∧ v = .ref q ∧ H q = some (.tup (xs.map V.str))
theorem KeyIs.same {H H' : Hp} {k : NestedKey} {v : V} (h : KeyIs H k v) (s : ∀ b xs, H b = some (.tup xs) → H' b = some (.tup xs)) : KeyIs H' k v := by
  rcases h with h | ⟨q, xs, h1, h2, h3⟩
  · exact .inl h
  · exact .inr ⟨q, xs, h1, h2, s _ _ h3⟩
theorem nested_texts {h : Heap} : ∀ {xs : List Str} {us : List Value}, Vals (xs.map V.str) us → NestedAll h (xs.map .text) us
  | [], us, r => by
    rw [List.map_nil] at r
    cases r
    exact .nil
  | x :: xs, us, r => by
    rw [List.map_cons] at r
    cases r with
    | cons r1 t =>
      obtain ⟨tk, rfl⟩ := r1
      exact .cons (.text _ _) (nested_texts t)
theorem texts_depth : ∀ xs : List Str, NestedKey.depthAll (xs.map .text) = 0
  | [] => rfl
  | x :: xs => by
    rw [List.map_cons, NestedKey.depthAll, texts_depth xs, NestedKey.depth]
    rfl
theorem keyIs_ok {P : Program} {w : World} {H : Hp} {h : Heap} {k : NestedKey} {v : V} {u : Value} (ok : HOk P w H h) (hk : KeyIs H k v) (r : RelV v u) : PySem.Mx.IsK h k u ∧ PySem.Mx.KeyV u := by
  rcases hk with ⟨x, rfl, rfl⟩ | ⟨q, xs, rfl, rfl, e⟩
  · obtain ⟨t, rfl⟩ := r
    exact ⟨⟨.text x t, by show 0 ≤ 8; decide⟩, .inl ⟨x, t, rfl⟩⟩
  · cases r
    obtain ⟨_, its, rv, o, h1, h2, n, h3⟩ := (show ObjOk P w H h q (.tup (xs.map V.str)) from ok q _ e)
    refine ⟨⟨.tup h1 h2 h3 (by simpa using nested_texts rv), ?_⟩, .inr ⟨q, rfl⟩⟩
    rw [NestedKey.depth, texts_depth]
    decide
/-- the dict at a, with all its keys -/
structure MxAt (w : World) (H : Hp) (a : Addr) (es : List MEnt) : Prop where
  rd : Rd H a (MxO w a es)
  keys : ∀ e ∈ es, KeyIs H e.1 e.2.1
def valM (es : List MEnt) (k : NestedKey) : Option V := (es.find? fun e => decide (e.1 = k)).map (·.2.2)
def putM (es : List MEnt) (k : NestedKey) (kv v : V) : List MEnt := if (valM es k).isSome then es.map (fun e => if e.1 = k then (e.1, e.2.1, v) else e) else es ++ [(k, kv, v)]
theorem MRel.val {es : List MEnt} {xs : List PySem.Mx.Ent} (r : MRel es xs) (k : NestedKey) : RelO (valM es k) ((PySem.Mx.atK xs k).map (·.2)) := by
  unfold valM PySem.Mx.atK
  induction r with
  | nil => exact trivial
  | @cons e x es xs h t ih =>
    obtain ⟨h1, h2, h3⟩ := h
    rw [List.find?_cons, List.find?_cons, ← h1]
    by_cases q : e.1 = k
    · rw [decide_eq_true q]
      exact h3
    · rw [decide_eq_false q]
      exact ih
theorem valM_some {es : List MEnt} {xs : List PySem.Mx.Ent} (r : MRel es xs) (k : NestedKey) : (valM es k).isSome = (PySem.Mx.atK xs k).isSome := by
  have := (r.val k).isSome_eq
  rw [Option.isSome_map] at this
  exact this
theorem MRel.put {es : List MEnt} {xs : List PySem.Mx.Ent} (r : MRel es xs) (k : NestedKey) {kv v : V} {a b : Value} (ra : RelV kv a) (rb : RelV v b) : MRel (putM es k kv v) (PySem.Mx.storedM xs k a b) := by
  have e := valM_some r k
  unfold putM PySem.Mx.storedM
  rw [e]
  by_cases q : (PySem.Mx.atK xs k).isSome = true
  · rw [if_pos q, if_pos q]
    clear e q
    induction r with
    | nil => exact .nil
    | @cons e x es xs h t ih =>
      obtain ⟨h1, h2, h3⟩ := h
      refine .cons ?_ ih
      unfold PySem.Mx.putA
      dsimp only
      by_cases z : e.1 = k
      · rw [if_pos z, if_pos (h1 ▸ z)]
        exact ⟨h1, h2, rb⟩
      · rw [if_neg z, if_neg (h1 ▸ z)]
        exact ⟨h1, h2, h3⟩
  · rw [if_neg q, if_neg q]
    exact Paired.snoc r ⟨rfl, ra, rb⟩
theorem length_putM (es : List MEnt) (k : NestedKey) (kv v : V) : (putM es k kv v).length ≤ es.length + 1 := by
  unfold putM
  split
  · rw [List.length_map]
    omega
  · rw [List.length_append]
    exact Nat.le_refl _
theorem mem_putM {es : List MEnt} {k : NestedKey} {kv v : V} {e : MEnt} (h : e ∈ putM es k kv v) : (∃ e' ∈ es, e'.1 = e.1 ∧ e'.2.1 = e.2.1) ∨ (e.1 = k ∧ e.2.1 = kv) := by
  unfold putM at h
  split at h
  · obtain ⟨e', he', rfl⟩ := List.mem_map.mp h
    refine .inl ⟨e', he', ?_⟩
    split <;> exact ⟨rfl, rfl⟩
  · rcases List.mem_append.mp h with h | h
    · exact .inl ⟨e, h, rfl, rfl⟩
    · obtain rfl := List.mem_singleton.mp h
      exact .inr ⟨rfl, rfl⟩
section
variable {X : Cx} {pins : List (Addr × Obj)} {σ : St} {H : Hp} {s : Shared} {a : Addr} {es : List MEnt} {k : NestedKey} {y v d : V} {u r : Value} {A : Around} {E : Value → Shared → Prop}
theorem MxAt.ents (g : MxAt X.w H a es) (I : Inv X pins σ H s) : ∃ xs, es.length ≤ sizeLine ∧ (a == sysModules) = false ∧ MRel es xs ∧ PySem.Mx.DictM X.w s.heap a xs ∧ ∀ x ∈ xs, PySem.Mx.IsK s.heap x.1 x.2.1 := by
  obtain ⟨z, hd, xs, rel, dm⟩ := rd_mx I.hok g.rd
  refine ⟨xs, z, hd, rel, dm, ?_⟩
  have all : ∀ {l : List MEnt} {m : List PySem.Mx.Ent}, MRel l m → (∀ e ∈ l, KeyIs H e.1 e.2.1) → ∀ x ∈ m, PySem.Mx.IsK s.heap x.1 x.2.1 := by
    intro l m q
    induction q with
    | nil => intro _ x hx; cases hx
    | @cons e x es xs h t ih =>
      intro hk y hy
      obtain ⟨h1, h2, h3⟩ := h
      rcases List.mem_cons.mp hy with z | hy
      · rw [z, ← h1]
        exact (keyIs_ok I.hok (hk e List.mem_cons_self) h2).1
      · exact ih (fun e he => hk e (List.mem_cons_of_mem _ he)) y hy
  exact all rel g.keys
theorem m_getItem {Q : Value → Shared → Prop} (hu : A.units + 9 < cLine) (I : Inv X pins σ H s) (g : MxAt X.w H a es) (hk : KeyIs H k y) (l : valM es k = some v) (ry : RelV y u) (h : ∀ w' s', Inv X pins σ H s' → RelV v w' → Q w' s') :
    wpAny (model X.prog X.w) A (getItem (.ref a) u) Q E s := by
  obtain ⟨xs, z, hd, rel, dm, his⟩ := g.ents I
  obtain ⟨k1, k2⟩ := keyIs_ok I.hok hk ry
  obtain ⟨w', hw, rw'⟩ := RelO.some_of (v := v) (o := (PySem.Mx.atK xs k).map (·.2)) (by rw [← l]; exact rel.val k)
  obtain ⟨p, hp, hp2⟩ := Option.map_eq_some_iff.mp hw
  refine PySem.Mx.getItem_mx (by show A.units + 1 + 8 < cLine; omega) k1 k2 dm his hp ?_
  rw [hp2]
  exact h w' _ (I.tok _) rw'
theorem m_in {Q : Value → Shared → Prop} (hu : A.units + 9 < cLine) (I : Inv X pins σ H s) (g : MxAt X.w H a es) (hk : KeyIs H k y) (ry : RelV y u) (h : ∀ s', Inv X pins σ H s' → Q (.bool (valM es k).isSome) s') :
    wpAny (model X.prog X.w) A (compareOp .In u (.ref a)) Q E s := by
  obtain ⟨xs, z, hd, rel, dm, his⟩ := g.ents I
  obtain ⟨k1, k2⟩ := keyIs_ok I.hok hk ry
  refine PySem.Mx.in_mx (by show A.units + 1 + 8 < cLine; omega) k1 k2 hd dm his ?_
  rw [← valM_some rel k]
  exact h _ (I.tok _)
theorem m_notIn {Q : Value → Shared → Prop} (hu : A.units + 9 < cLine) (I : Inv X pins σ H s) (g : MxAt X.w H a es) (hk : KeyIs H k y) (ry : RelV y u) (h : ∀ s', Inv X pins σ H s' → Q (.bool (!(valM es k).isSome)) s') :
    wpAny (model X.prog X.w) A (compareOp .NotIn u (.ref a)) Q E s := by
  obtain ⟨xs, z, hd, rel, dm, his⟩ := g.ents I
  obtain ⟨k1, k2⟩ := keyIs_ok I.hok hk ry
  refine PySem.Mx.notIn_mx (by show A.units + 1 + 8 < cLine; omega) k1 k2 hd dm his ?_
  rw [← valM_some rel k]
  exact h _ (I.tok _)
theorem m_write {h' : Heap} {t' : Nat} {es' : List MEnt} (I : Inv X pins σ H s) (e : H a = some (MxO X.w a es)) (hs : Heap.SameBut a s.heap h') (new : MxR X.w h' a es') : Inv X pins σ (upd H a (MxO X.w a es')) { s with heap := h', toks := t' } := by
  obtain ⟨_, _, _, _, o, _, _, ho, _⟩ := id new
  exact I.write (x := a) (e := a) (by rw [e]; exact True.intro) (.inl rfl) (fun b q hb z => (hs.2 b hb).trans z) ⟨o, ho⟩ (mxO_new new)
theorem m_setItem {Q : Unit → Shared → Prop} (hu : A.units + 9 < cLine) (I : Inv X pins σ H s) (e : H a = some (MxO X.w a es)) (hks : ∀ e ∈ es, KeyIs H e.1 e.2.1) (hz : es.length < sizeLine) (hk : KeyIs H k y) (ry : RelV y u) (rv : RelV v r) (h : ∀ s', Inv X pins σ (upd H a (MxO X.w a (putM es k y v))) s' → Q () s') :
    wpAny (model X.prog X.w) A (setItem (.ref a) u r) Q E s := by
  obtain ⟨xs, z, hd, rel, dm, his⟩ := (MxAt.mk (.inl e) hks).ents I
  obtain ⟨k1, k2⟩ := keyIs_ok I.hok hk ry
  have hl := length_putM es k y v
  refine PySem.Mx.setItem_mx (by show A.units + 1 + 8 < cLine; omega) k1 k2 dm his (fun h' dm' hs => h _ (m_write I e hs ⟨by omega, hd, _, rel.put k ry rv, dm'⟩)) (by rw [← Paired.length rel]; exact z)
theorem m_get2 {Q : Value → Shared → Prop} (hu : A.units + 9 < cLine) (I : Inv X pins σ H s) (g : MxAt X.w H a es) (hk : KeyIs H k y) (ry : RelV y u) (rd : RelV d r) (h : ∀ w' s', Inv X pins σ H s' → RelV ((valM es k).getD d) w' → Q w' s') :
    wpAny (model X.prog X.w) A (call (.builtin "dict.get") [.ref a, u, r]) Q E s := by
  obtain ⟨xs, z, hd, rel, dm, his⟩ := g.ents I
  obtain ⟨k1, k2⟩ := keyIs_ok I.hok hk ry
  exact call_meetsIn PySem.F.slot_dict_get dm.typeIs PySem.F.entry_dict_get (PySem.F.args_dict_get_3 _ _ _) (PySem.Mx.meets_get_mx a u hd r) ⟨by show A.units + 1 + 8 < cLine; omega, k2, k, xs, k1, dm, his, h _ _ (I.tok _) ((rel.val k).getD rd)⟩
theorem m_setdef {Q : Value → Shared → Prop} (hu : A.units + 9 < cLine) (I : Inv X pins σ H s) (e : H a = some (MxO X.w a es)) (hks : ∀ e ∈ es, KeyIs H e.1 e.2.1) (hz : es.length < sizeLine) (hk : KeyIs H k y) (ry : RelV y u) (rd : RelV d r)
    (h1 : ∀ v w' s', valM es k = some v → Inv X pins σ H s' → RelV v w' → Q w' s') (h2 : valM es k = none → ∀ s', Inv X pins σ (upd H a (MxO X.w a (putM es k y d))) s' → Q r s') :
    wpAny (model X.prog X.w) A (call (.builtin "dict.setdefault") [.ref a, u, r]) Q E s := by
  obtain ⟨xs, z, hd, rel, dm, his⟩ := (MxAt.mk (.inl e) hks).ents I
  obtain ⟨k1, k2⟩ := keyIs_ok I.hok hk ry
  have hl := length_putM es k y d
  refine call_meetsIn PySem.F.slot_dict_setdefault dm.typeIs PySem.F.entry_dict_setdefault (PySem.F.args_dict_setdefault_3 _ _ _) (PySem.Mx.meets_setdefault_mx a u hd r) ⟨by show A.units + 1 + 8 < cLine; omega, k2, k, xs, k1, dm, his, by rw [← Paired.length rel]; exact z, fun p hp => ?_, fun hn h' dm' hs => ?_⟩
  · have hv : RelO (valM es k) (some p.2) := by
      have := rel.val k
      rw [hp] at this
      exact this
    cases e1 : valM es k with
    | none => rw [e1] at hv; cases hv
    | some v' =>
      rw [e1] at hv
      exact h1 v' _ _ e1 (I.tok _) hv
  · have e1 : valM es k = none := by
      cases e1 : valM es k with
      | none => rfl
      | some v' =>
        have := valM_some rel k
        rw [e1, hn] at this
        cases this
    exact h2 e1 _ (m_write I e hs ⟨by omega, hd, _, rel.put k ry rd, dm'⟩)
theorem MxAt.typeIs (g : MxAt X.w H a es) (I : Inv X pins σ H s) : s.TypeIs (.ref a) "dict" := by
  obtain ⟨xs, z, hd, rel, dm, his⟩ := g.ents I
  exact dm.typeIs
theorem MxAt.noDict (g : MxAt X.w H a es) (I : Inv X pins σ H s) : ∀ b, Value.ref a = .ref b → ∃ ob, s.heap.get? b = some ob ∧ ob.dict = none := fun b q => by
  cases q
  obtain ⟨xs, z, hd, rel, dm, his⟩ := g.ents I
  obtain ⟨ob, _, _, h1, h2, _⟩ := dm
  exact ⟨ob, h1, h2.2.1⟩
end
end Eld
end L2

set_option Elab.async false
set_option linter.all false
set_option maxRecDepth 100000
set_option maxHeartbeats 4000000
/-! ## dicts whose keys are texts and tuples of texts: the rules -/
namespace L2
namespace Eld
open PySem PySem.Spec PyProof.Rows
def tMGet (w : World) (td ty : TE) : TE := fun σ H Q => td σ H fun x H1 => ty σ H1 fun y H2 => ∃ a es k v, x = .ref a ∧ MxAt w H2 a es ∧ KeyIs H2 k y ∧ valM es k = some v ∧ Q v H2
def tMIn (w : World) (ty td : TE) : TE := fun σ H Q => ty σ H fun y H1 => td σ H1 fun x H2 => ∃ a es k, x = .ref a ∧ MxAt w H2 a es ∧ KeyIs H2 k y ∧ Q (.bl (valM es k).isSome) H2
def tMNotIn (w : World) (ty td : TE) : TE := fun σ H Q => ty σ H fun y H1 => td σ H1 fun x H2 => ∃ a es k, x = .ref a ∧ MxAt w H2 a es ∧ KeyIs H2 k y ∧ Q (.bl (!(valM es k).isSome)) H2
def sMPut (w : World) (td ty tv : TE) : TS := fun D σ H => tv σ H fun v H1 => td σ H1 fun x H2 => ty σ H2 fun y H3 => ∃ a es k, x = .ref a ∧ H3 a = some (MxO w a es) ∧ (∀ e ∈ es, KeyIs H3 e.1 e.2.1) ∧ es.length < sizeLine ∧ KeyIs H3 k y ∧ D.nx σ (upd H3 a (MxO w a (putM es k y v)))
def sMAug (w : World) (td ty tv : TE) (rd : V → V → Hp → VK → Prop) : TS := fun D σ H => td σ H fun x H1 => ty σ H1 fun y H2 => ∃ a es k v, x = .ref a ∧ MxAt w H2 a es ∧ KeyIs H2 k y ∧ valM es k = some v ∧
  tv σ H2 fun y2 H3 => rd v y2 H3 fun z H4 => ∃ es', H4 a = some (MxO w a es') ∧ (∀ e ∈ es', KeyIs H4 e.1 e.2.1) ∧ es'.length < sizeLine ∧ KeyIs H4 k y ∧ D.nx σ (upd H4 a (MxO w a (putM es' k y z)))
def tMGet2 (w : World) (td ty tx : TE) : TE := fun σ H Q => td σ H fun x H1 => ∃ a es, x = .ref a ∧ MxAt w H1 a es ∧ ty σ H1 fun y H2 => tx σ H2 fun z H3 => ∃ es' k, MxAt w H3 a es' ∧ KeyIs H3 k y ∧ Q ((valM es' k).getD z) H3
def tMDef (w : World) (td ty tx : TE) : TE := fun σ H Q => td σ H fun x H1 => ∃ a es, x = .ref a ∧ MxAt w H1 a es ∧ ty σ H1 fun y H2 => tx σ H2 fun z H3 => ∃ es' k, H3 a = some (MxO w a es') ∧ (∀ e ∈ es', KeyIs H3 e.1 e.2.1) ∧ es'.length < sizeLine ∧ KeyIs H3 k y ∧
  (∀ v, valM es' k = some v → Q v H3) ∧ (valM es' k = none → Q z (upd H3 a (MxO w a (putM es' k y z))))
def tMNew (w : World) : TE := fun _ H Q => ∀ p, H p = none → Q (.ref p) (upd H p (MxO w p []))
section
variable {X : Cx} {o i e f value : Expr} {pos pos' tpos apos cpos : Pos} {td ty tv tx : TE}
theorem pe_mget (hu : X.A.units + 9 < cLine) (ho : PE X o td) (hi : PE X i ty) (hs : NoSl i) : PE X (.Subscript o i pos) (tMGet X.w td ty) := by
  refine ⟨fun pins s σ H Q I h => ?_⟩
  refine subD_of PySem.F.slot_dict_getitem.lookup hs (thn (ho.run pins s σ H _ I h) fun u s1 ⟨x, H1, I1, rx, q1⟩ => thn (hi.run pins s1 σ H1 _ I1 q1) fun iv s2 ⟨y, H2, I2, ry, a, es, k, v, ex, g, hk, l, q2⟩ => ?_)
  subst ex
  obtain rfl : u = Value.ref a := rx
  exact ⟨g.typeIs I2, m_getItem hu I2 g hk l ry fun w' s3 I3 rw' => ⟨v, H2, I3, rw', q2⟩⟩
theorem pc_min (hu : X.A.units + 9 < cLine) (hi : PE X i ty) (ho : PE X o td) : PC X .In i o (tMIn X.w ty td) := by
  refine ⟨fun pins s σ H Q I h => ?_⟩
  refine thn (hi.run pins s σ H _ I h) fun iv s1 ⟨y, H1, I1, ry, q1⟩ => thn (ho.run pins s1 σ H1 _ I1 q1) fun u s2 ⟨x, H2, I2, rx, a, es, k, ex, g, hk, q2⟩ => ?_
  subst ex
  obtain rfl : u = Value.ref a := rx
  exact m_in hu I2 g hk ry fun s3 I3 => ⟨.bl (valM es k).isSome, H2, I3, rfl, q2⟩
theorem pc_mnotin (hu : X.A.units + 9 < cLine) (hi : PE X i ty) (ho : PE X o td) : PC X .NotIn i o (tMNotIn X.w ty td) := by
  refine ⟨fun pins s σ H Q I h => ?_⟩
  refine thn (hi.run pins s σ H _ I h) fun iv s1 ⟨y, H1, I1, ry, q1⟩ => thn (ho.run pins s1 σ H1 _ I1 q1) fun u s2 ⟨x, H2, I2, rx, a, es, k, ex, g, hk, q2⟩ => ?_
  subst ex
  obtain rfl : u = Value.ref a := rx
  exact m_notIn hu I2 g hk ry fun s3 I3 => ⟨.bl (!(valM es k).isSome), H2, I3, rfl, q2⟩
theorem ps_mput (hu : X.A.units + 9 < cLine) (ho : PE X o td) (hi : PE X i ty) (hv : PE X value tv) (hs : swapsWith value (some (.Subscript o i pos')) pos.line X.env = pure false) :
    PS X (.Assign [.Subscript o i pos'] value pos) (sMPut X.w td ty tv) := by
  refine ⟨fun pins s σ H D I h => ?_⟩
  refine wpAny_Assign_Subscript (thn (hv.run pins s σ H _ I h) fun r s1 ⟨v, H1, I1, rv, q1⟩ => thn (ho.run pins s1 σ H1 _ I1 q1) fun u s2 ⟨x, H2, I2, rx, q2⟩ => thn (hi.run pins s2 σ H2 _ I2 q2) fun iv s3 ⟨y, H3, I3, ry, a, es, k, ex, g, hks, hz, hk, q3⟩ => ?_) hs
  subst ex
  obtain rfl : u = Value.ref a := rx
  exact m_setItem hu I3 g hks hz hk ry rv fun s4 I4 => ⟨σ, _, I4, q3⟩
theorem ps_maug {op : Operator} {rd : V → V → Hp → VK → Prop} (hu : X.A.units + 9 < cLine) (ho : PE X o td) (hi : PE X i ty) (hv : PE X value tv) (hop : InOp X op rd)
    (ha : ∀ ov iv new, augStore i ov iv new = (do holding [new, ov, iv] (setItem ov iv new); release [new, ov, iv] []; pure .next)) : PS X (.AugAssign (.Subscript o i tpos) op value pos) (sMAug X.w td ty tv rd) := by
  refine ⟨fun pins s σ H D I h => ?_⟩
  refine wpAny_AugAssign_SubscriptAny (thn (ho.run pins s σ H _ I h) fun u s1 ⟨x, H1, I1, rx, q1⟩ => thn (hi.run pins s1 σ H1 _ I1 q1) fun iv s2 ⟨y, H2, I2, ry, a, es, k, v, ex, g, hk, l, q2⟩ => ?_) ha
  subst ex
  obtain rfl : u = Value.ref a := rx
  refine m_getItem hu I2 g hk l ry fun w' s3 I3 rw' => thn (hv.run pins s3 σ H2 _ I3 q2) fun w2 s4 ⟨y2, H3, I4, ry2, q3⟩ => thn (hop pins s4 σ H3 v y2 w' w2 _ I4 rw' ry2 q3) fun w3 s5 ⟨z, H4, I5, rz, es', e', hks, hz, hk', q4⟩ => ?_
  exact m_setItem hu I5 e' hks hz hk' ry rz fun s6 I6 => ⟨σ, _, I6, q4⟩
theorem pe_mget2 (hu : X.A.units + 9 < cLine) (ho : PE X o td) (he : PE X e ty) (hf : PE X f tx) (m : M2 X o "get" apos e f cpos) : PE X (.Call (.Attribute o "get" apos) [e, f] [] cpos) (tMGet2 X.w td ty tx) := by
  refine ⟨fun pins s σ H Q I h => ?_⟩
  refine wpAny_Call_method m.base m.few m.line PySem.F.plainAttrs_dict PySem.F.slot_dict_get PySem.F.type_dict_get (thn (ho.run pins s σ H _ I h) fun u s1 ⟨x, H1, I1, rx, a, es, ex, g0, q1⟩ => ?_)
  subst ex
  obtain rfl : u = Value.ref a := rx
  refine ⟨g0.typeIs I1, g0.noDict I1, ?_⟩
  rw [m.trees]
  refine Calls.callWith_builtin rfl (Calls.evalArgs_plain (Calls.spliced_cons (thn (he.run pins s1 σ H1 _ I1 q1) fun iv s2 ⟨y, H2, I2, ry, q2⟩ =>
    Calls.spliced_cons (thn (hf.run pins s2 σ H2 _ I2 q2) fun fv s3 ⟨z, H3, I3, rz, es', k, g, hk, q3⟩ => Calls.spliced_nil ?_))))
  exact m_get2 hu I3 g hk ry rz fun w' s4 I4 rw' => ⟨_, H3, I4, rw', q3⟩
theorem pe_mdef (hu : X.A.units + 9 < cLine) (ho : PE X o td) (he : PE X e ty) (hf : PE X f tx) (m : M2 X o "setdefault" apos e f cpos) : PE X (.Call (.Attribute o "setdefault" apos) [e, f] [] cpos) (tMDef X.w td ty tx) := by
  refine ⟨fun pins s σ H Q I h => ?_⟩
  refine wpAny_Call_method m.base m.few m.line PySem.F.plainAttrs_dict PySem.F.slot_dict_setdefault PySem.F.type_dict_setdefault (thn (ho.run pins s σ H _ I h) fun u s1 ⟨x, H1, I1, rx, a, es, ex, g0, q1⟩ => ?_)
  subst ex
  obtain rfl : u = Value.ref a := rx
  refine ⟨g0.typeIs I1, g0.noDict I1, ?_⟩
  rw [m.trees]
  refine Calls.callWith_builtin rfl (Calls.evalArgs_plain (Calls.spliced_cons (thn (he.run pins s1 σ H1 _ I1 q1) fun iv s2 ⟨y, H2, I2, ry, q2⟩ =>
    Calls.spliced_cons (thn (hf.run pins s2 σ H2 _ I2 q2) fun fv s3 ⟨z, H3, I3, rz, es', k, g, hks, hz, hk, h1, h2⟩ => Calls.spliced_nil ?_))))
  exact m_setdef hu I3 g hks hz hk ry rz (fun v w' s4 l I4 rw' => ⟨v, H3, I4, rw', h1 v l⟩) fun l s4 I4 => ⟨z, _, I4, rz, h2 l⟩
theorem mx_empty {w : World} (h : Heap) (hb : sysModules < h.objs.size) : MxR w (h.push { cls := .type "dict", data := .dict #[] }) h.objs.size [] :=
  ⟨Nat.zero_le _, beq_eq_false_iff_ne.mpr (Ne.symm (Nat.ne_of_lt hb)), [], .nil, _, #[], 0, Heap.get?_push_size _ rfl, ⟨rfl, rfl, rfl⟩, rfl, rfl, List.nodup_nil⟩
theorem pe_mnew : PE X (.Dict [] [] pos) (tMNew X.w) := ⟨fun pins s σ H Q I h =>
  wpAny_Dict_empty ⟨.ref s.heap.objs.size, _, I.laid (a := s.heap.objs.size) (o := MxO X.w s.heap.objs.size []) (t' := s.toks) (fun _ _ q => Heap.get?_push_of_some _ q) (Nat.le_refl _) (mxO_new (mx_empty s.heap I.big)), rfl, h _ (I.hok.fresh (Nat.le_refl _))⟩⟩
end
/-! ### a dict of texts, told as one of these -/
abbrev toM (ts : List (Str × V)) : List MEnt := ts.map fun t => (.text t.1, .str t.1, t.2)
theorem pairs_mx {P : Program} {w : World} : ∀ {ts : List (Str × V)} {vs : List (Key × Value)} {ds : List DictEntry}, KV (ts.map fun t => ((.inr t.1 : Key), t.2)) vs → (∀ e ∈ ds, ∃ k, (mixKind P w).is k e.key = true ∧ e.hash = (mixKind P w).hash k) → Pairs (mixKind P w) ds vs →
    ∃ xs, MRel (toM ts) xs ∧ ds = xs.map (PySem.Mx.entOf w)
  | [], vs, ds, h1, h2, h3 => by
    cases h1
    cases h3
    exact ⟨[], .nil, rfl⟩
  | t :: ts, vs, ds, h1, h2, h3 => by
    rw [List.map_cons] at h1
    cases h1 with
    | @cons _ q _ qs r1 t1 =>
      cases h3 with
      | @cons e _ es _ r3 r4 t3 =>
        obtain ⟨xs, a1, a2⟩ := pairs_mx (P := P) (w := w) t1 (fun e' he' => h2 e' (List.mem_cons_of_mem _ he')) t3
        obtain ⟨k, k1, k2⟩ := h2 e List.mem_cons_self
        obtain ⟨q1, q2⟩ := q
        obtain ⟨r1a, r1b⟩ := r1
        dsimp only at r1a r1b r3 r4
        subst r1a
        obtain rfl := (mixKind P w).inj _ _ _ k1 r3
        obtain ⟨eh, ek, ev⟩ := e
        dsimp only at k1 k2 r3 r4
        rcases keyIs_shape (show keyIs (.inr t.1) ek = true from r3) with ⟨i, tk, z, _⟩ | ⟨x, tk, z, ez⟩
        · cases z
        · cases z
          refine ⟨(.text t.1, ek, ev) :: xs, .cons ⟨rfl, ⟨tk, ez⟩, ?_⟩ a1, ?_⟩
          · show RelV t.2 ev
            rw [r4]; exact r1b
          · rw [List.map_cons, ← a2]
            show _ = (⟨_, _, _⟩ : DictEntry) :: _
            rw [k2]
            rfl
theorem nodup_of_mapM {α β : Type} {f : α → β} : ∀ {l : List α}, (l.map f).Nodup → l.Nodup
  | [], _ => List.nodup_nil
  | a :: l, h => by
    rw [List.map_cons, List.nodup_cons] at h
    exact List.nodup_cons.mpr ⟨fun m => h.1 (List.mem_map_of_mem m), nodup_of_mapM h.2⟩
theorem nodup_mapM {α β : Type} {f : α → β} (inj : ∀ a b, f a = f b → a = b) : ∀ {l : List α}, l.Nodup → (l.map f).Nodup
  | [], _ => List.nodup_nil
  | a :: l, h => by
    rw [List.nodup_cons] at h
    rw [List.map_cons, List.nodup_cons]
    refine ⟨fun m => ?_, nodup_mapM inj h.2⟩
    obtain ⟨b, hb, e⟩ := List.mem_map.mp m
    exact h.1 (inj _ _ e ▸ hb)
theorem mx_nodup {es : List MEnt} {xs : List PySem.Mx.Ent} (r : MRel es xs) : xs.map (·.1) = es.map (·.1) := by
  induction r with
  | nil => rfl
  | @cons e x es xs h t ih => rw [List.map_cons, List.map_cons, ih, h.1]
/-- a dict of texts, told anew -/
def tRetag (w : World) (te : TE) : TE := fun σ H Q => te σ H fun x H1 => ∃ p ts, x = .ref p ∧ H1 p = some (.dK (ts.map fun t => ((.inr t.1 : Key), t.2))) ∧ Q x (upd H1 p (MxO w p (toM ts)))
theorem pe_retag {X : Cx} {e : Expr} {te : TE} (h : PE X e te) : PE X e (tRetag X.w te) := by
  refine ⟨fun pins s σ H Q I q => ?_⟩
  refine thn (h.run pins s σ H _ I q) fun u s1 ⟨x, H1, I1, rx, p, ts, ex, e1, q1⟩ => ⟨x, _, ?_, rx, q1⟩
  obtain ⟨z, hd, vs, kv, o, es, ep, ho, hx, hdt, hk, hp, hn⟩ := dk_of I1.hok e1
  obtain ⟨xs, m1, m2⟩ := pairs_mx (P := X.prog) (w := X.w) kv (fun e he => hk e (by simpa using he)) hp
  have hl : (toM ts).length = (ts.map fun t => ((.inr t.1 : Key), t.2)).length := by rw [List.length_map, List.length_map]
  have hnd : (xs.map (·.1)).Nodup := by
    rw [mx_nodup m1, List.map_map]
    have : vs.map (·.1) = ts.map fun t => (.inr t.1 : Key) := by
      clear hp hn hk m1 m2 hdt hl e1 z
      generalize hts : (ts.map fun t => ((.inr t.1 : Key), t.2)) = kts at kv
      have e2 : vs.map (·.1) = kts.map (·.1) := by
        clear hts
        unfold KV at kv
        induction kv with
        | nil => rfl
        | cons h t ih => rw [List.map_cons, List.map_cons, ih, h.1]
      rw [e2, ← hts, List.map_map]
      rfl
    rw [this] at hn
    have e3 : (ts.map fun t => (.inr t.1 : Key)) = (ts.map (·.1)).map Sum.inr := by rw [List.map_map]; rfl
    rw [e3] at hn
    have n1 : (ts.map (·.1)).Nodup := nodup_of_mapM hn
    have e4 : (ts.map ((·.1) ∘ fun t => ((NestedKey.text t.1, V.str t.1, t.2) : MEnt))) = (ts.map (·.1)).map NestedKey.text := by rw [List.map_map]; rfl
    rw [e4]
    exact nodup_mapM (fun a b q => by cases q; rfl) n1
  have new : MxR X.w s1.heap p (toM ts) := ⟨by rw [hl]; exact z, hd, xs, m1, o, es, ep, ho, hx, hdt, m2, hnd⟩
  have := I1.write (x := p) (e := p) (h' := s1.heap) (t' := s1.toks) (o := MxO X.w p (toM ts)) (by rw [e1]; exact True.intro) (.inl rfl) (fun b q hb z => z) ⟨o, ho⟩ (mxO_new new)
  exact this
/-! ### a walk over its keys -/
section
variable {X : Cx} {pins : List (Addr × Obj)} {σ : St} {H : Hp} {s : Shared} {d : Addr} {o : Obj}
theorem Inv.frzM {es : List MEnt} (I : Inv X pins σ H s) (h : H d = some (.frz o (MxO X.w d es))) :
    (d == sysModules) = false ∧ s.heap.get? d = some o ∧ o.ExactDict ∧ ∃ (ds : Array DictEntry) (ep : Nat), o.data = .dict ds ep ∧ ds.size = es.length ∧
      ∀ (i : Nat) (e : MEnt), es[i]? = some e → ∃ en : DictEntry, ds[i]? = some en ∧ RelV e.2.1 en.key := by
  obtain ⟨hd, hr⟩ := I.hok d _ h
  obtain ⟨⟨z, hs, xs, pr, o', ds, ep, ho, hx, hdt, he, hn⟩, _⟩ := hr
  rw [hd] at ho
  cases ho
  refine ⟨hs, hd, hx, ds, ep, hdt, ?_, fun i e q => ?_⟩
  · have l1 := PySem.Mx.size_ents he
    have l2 := Paired.length pr
    omega
  · obtain ⟨b, hb, e1, e2, _⟩ := paired_get pr q
    have q := PySem.Mx.ent_at he i
    rw [hb] at q
    exact ⟨_, q, e2⟩
/-- the keys of the locked dict at d, in their order -/
def Itm (w : World) (d : Addr) (o : Obj) (es : List MEnt) : It :=
  ⟨fun i H => H d = some (.frz o (MxO w d es)) ∧ i < es.length, fun i H x H' => H' = H ∧ ∃ e : MEnt, es[i]? = some e ∧ x = e.2.1, fun i H => H d = some (.frz o (MxO w d es)) ∧ es.length ≤ i⟩
end
section
variable {P : Program} {w : World} {K : PySem.W.Frag} {tg : Expr} {d : Addr} {o : Obj} {ds : Array DictEntry} {ep : Nat}
theorem turn_keysM {es : List MEnt} (it : Addr) (hod : o.data = .dict ds ep) : Turn P w K tg (Itm w d o es) [it] it (fun i h => h.IsKeyIter it d i es.length ep) where
  mem := by simp
  obj := fun i h st b hb => by
    have e : b = it := by simpa using hb
    subst e
    obtain ⟨oi, e, c, dd⟩ := st
    exact ⟨oi, e, fun v z => by rw [dd] at z; cases z⟩
  keep := fun i h h' st k => st.at fun oi e => k it (by simp) oi e
  item := by
    intro X hP hw hK hc i pins s σ H E I hf st hg
    subst hP hw hK
    obtain ⟨hd, hi⟩ := hg
    obtain ⟨f0, f1, f2, f3, f4, f5⟩ := hf it (by simp)
    obtain ⟨hs, hgd, hx, ds', ep', hdt, hsz, ent⟩ := Inv.frzM I hd
    obtain ⟨rfl, rfl⟩ := dict_ep hod hdt
    obtain ⟨e0, hkv⟩ : ∃ p, es[i]? = some p := ⟨es[i], List.getElem?_eq_getElem hi⟩
    obtain ⟨en, hen, hkey⟩ := ent i e0 hkv
    refine next_key_item st hgd hdt hsz hen fun h' st' sb => ?_
    have I1 : Inv X pins σ H { s with heap := h' } := I.turned (t' := s.toks) (fun b ob hb e => (sb.2 b hb).trans e) f0 f1 f3 f4 f5
    obtain ⟨oi, e, c, dd⟩ := id st'
    exact ⟨en.key, rfl, go_of (s := { s with heap := h' }) e c dd (by decide) ⟨e0.2.1, H, I1, hkey, ⟨rfl, e0, hkv, rfl⟩, st', fun b hb => (hf b hb).1⟩⟩
  done := by
    intro X hP hw hK hc i pins s σ H E I hf st hg
    subst hP hw hK
    obtain ⟨hd, hi⟩ := hg
    obtain ⟨f0, f1, f2, f3, f4, f5⟩ := hf it (by simp)
    obtain ⟨hs, hgd, hx, ds', ep', hdt, hsz, ent⟩ := Inv.frzM I hd
    obtain ⟨rfl, rfl⟩ := dict_ep hod hdt
    exact next_key_end (I.ok.hd hc) st hgd hdt hsz hi fun h' eb => ⟨rfl, I.turned (t' := s.toks) (fun b ob hb e => eb b ob hb e) f0 f1 f3 f4 f5⟩
  self := fun A i s Q E st h => by
    refine wpAny_pyIter_slot st.typeIs F.slot_dict_keyiterator_iter (wpAny_call_entry F.slot_dict_keyiterator_iter st.typeIs F.entry_dict_keyiterator_iter ?_ (F.args_dict_keyiterator_iter_1 _))
    show wpAny _ _ (ret (.ref it)) _ _ s
    exact wpAny_pure ⟨_, rfl, "dict_keyiterator", _, st.typeIs, F.slot_dict_keyiterator_next.lookup, h⟩
end
def iKeysMx (w : World) (td : TE) : TI := fun σ H R => td σ H fun x H1 => ∃ d o es, x = .ref d ∧ H1 d = some (.frz o (MxO w d es)) ∧ R (Itm w d o es) H1
theorem pi_keysMx {X : Cx} {tg e : Expr} {td : TE} (he : PE X e td) : PI X tg e (iKeysMx X.w td) := by
  refine ⟨fun pins s σ H R I h => ?_⟩
  refine thn (he.run pins s σ H _ I h) fun u s1 ⟨x, H1, I1, rx, d, o, es, ex, hd, q⟩ => ?_
  subst ex
  obtain rfl : u = Value.ref d := rx
  obtain ⟨hs, hgd, hx, ds, ep, hdt, hsz, ent⟩ := Inv.frzM I1 hd
  refine iter_keys hs hgd hx hdt (pi_one (tk := s1.toks) I1 _ (turn_keysM _ hdt) ⟨_, Heap.get?_push_size _ rfl, rfl, ?_⟩ q)
  rw [hsz] <;> rfl
end Eld
end L2

set_option Elab.async false
set_option linter.all false
set_option maxRecDepth 100000
set_option maxHeartbeats 4000000
/-! ## flows: ways on which more can be moved, counts served in a row, least sums over lots -/
namespace L2
namespace Eld
open PySem
/-! ### sums -/
def sm {α : Type} : List α → (α → Int) → Int
  | [], _ => 0
  | a :: l, f => f a + sm l f
section
variable {α β : Type}
theorem sm_congr {l : List α} {f g : α → Int} (h : ∀ a ∈ l, f a = g a) : sm l f = sm l g := by
  induction l with
  | nil => rfl
  | cons a l ih => rw [sm, sm, h a List.mem_cons_self, ih fun b hb => h b (List.mem_cons_of_mem _ hb)]
theorem sm_le {l : List α} {f g : α → Int} (h : ∀ a ∈ l, f a ≤ g a) : sm l f ≤ sm l g := by
  induction l with
  | nil => exact Int.le_refl _
  | cons a l ih => exact Int.add_le_add (h a List.mem_cons_self) (ih fun b hb => h b (List.mem_cons_of_mem _ hb))
theorem sm_zero {l : List α} {f : α → Int} (h : ∀ a ∈ l, f a = 0) : sm l f = 0 := by
  induction l with
  | nil => rfl
  | cons a l ih => rw [sm, h a List.mem_cons_self, ih fun b hb => h b (List.mem_cons_of_mem _ hb)]; rfl
theorem sm_nn {l : List α} {f : α → Int} (h : ∀ a ∈ l, 0 ≤ f a) : 0 ≤ sm l f := by
  induction l with
  | nil => exact Int.le_refl _
  | cons a l ih => exact Int.add_nonneg (h a List.mem_cons_self) (ih fun b hb => h b (List.mem_cons_of_mem _ hb))
theorem sm_add (l : List α) (f g : α → Int) : sm l (fun a => f a + g a) = sm l f + sm l g := by
  induction l with
  | nil => rfl
  | cons a l ih => rw [sm, sm, sm, ih]; omega
theorem sm_mul (l : List α) (f : α → Int) (m : Int) : sm l (fun a => m * f a) = m * sm l f := by
  induction l with
  | nil => simp [sm]
  | cons a l ih => rw [sm, sm, ih, Int.mul_add]
theorem sm_app (l m : List α) (f : α → Int) : sm (l ++ m) f = sm l f + sm m f := by
  induction l with
  | nil => simp [sm]
  | cons a l ih => rw [List.cons_append, sm, sm, ih]; omega
theorem sm_map (l : List α) (g : α → β) (f : β → Int) : sm (l.map g) f = sm l fun a => f (g a) := by
  induction l with
  | nil => rfl
  | cons a l ih => rw [List.map_cons, sm, sm, ih]
theorem sm_swap (l : List α) (m : List β) (f : α → β → Int) : sm l (fun a => sm m fun b => f a b) = sm m fun b => sm l fun a => f a b := by
  induction l with
  | nil => exact (sm_zero fun b _ => rfl).symm
  | cons a l ih => rw [sm, ih, ← sm_add]; rfl
theorem sm_mem {l : List α} {f : α → Int} {a : α} (h : ∀ b ∈ l, 0 ≤ f b) (m : a ∈ l) : f a ≤ sm l f := by
  induction l with
  | nil => cases m
  | cons b l ih =>
    have h1 := h b List.mem_cons_self
    have h2 : 0 ≤ sm l f := sm_nn fun c hc => h c (List.mem_cons_of_mem _ hc)
    rw [sm]
    rcases List.mem_cons.mp m with rfl | m
    · omega
    · have := ih (fun c hc => h c (List.mem_cons_of_mem _ hc)) m
      omega
/-- two unlike members -/
theorem sm_mem2 {l : List α} {f : α → Int} {a b : α} (h : ∀ b ∈ l, 0 ≤ f b) (ma : a ∈ l) (mb : b ∈ l) (ne : a ≠ b) : f a + f b ≤ sm l f := by
  induction l with
  | nil => cases ma
  | cons c l ih =>
    have h1 := h c List.mem_cons_self
    have h' : ∀ b ∈ l, 0 ≤ f b := fun d hd => h d (List.mem_cons_of_mem _ hd)
    rw [sm]
    rcases List.mem_cons.mp ma with ea | ma'
    · rcases List.mem_cons.mp mb with eb | mb'
      · exact absurd (ea.trans eb.symm) ne
      · have := sm_mem (f := f) h' mb'
        subst ea
        omega
    · rcases List.mem_cons.mp mb with eb | mb'
      · have := sm_mem (f := f) h' ma'
        subst eb
        omega
      · have := ih h' ma' mb'
        omega
theorem sm_perm {l m : List α} (p : l.Perm m) (f : α → Int) : sm l f = sm m f := by
  induction p with
  | nil => rfl
  | cons a _ ih => rw [sm, sm, ih]
  | swap a b l => rw [sm, sm, sm, sm]; omega
  | trans _ _ ih1 ih2 => exact ih1.trans ih2
theorem perm_same [DecidableEq α] {l m : List α} (hl : l.Nodup) (hm : m.Nodup) (h : ∀ a, a ∈ l ↔ a ∈ m) : l.Perm m := by
  rw [List.perm_iff_count]
  intro a
  have c1 := hl.count (a := a)
  have c2 := hm.count (a := a)
  rw [c1, c2]
  by_cases z : a ∈ l
  · rw [if_pos z, if_pos ((h a).mp z)]
  · rw [if_neg z, if_neg fun q => z ((h a).mpr q)]
theorem sm_same [DecidableEq α] {l m : List α} (hl : l.Nodup) (hm : m.Nodup) (h : ∀ a, a ∈ l ↔ a ∈ m) (f : α → Int) : sm l f = sm m f := sm_perm (perm_same hl hm h) f
theorem sm_filter (l : List α) (p : α → Bool) (f : α → Int) : sm (l.filter p) f = sm l fun a => if p a = true then f a else 0 := by
  induction l with
  | nil => rfl
  | cons a l ih =>
    rw [sm, List.filter_cons]
    by_cases z : p a = true
    · rw [if_pos z, if_pos z, sm, ih]
    · rw [if_neg z, if_neg z, ih]; omega
/-- a sum with one place that counts -/
theorem sm_hot [DecidableEq α] {l : List α} (hn : l.Nodup) (a : α) (c : Int) : sm l (fun b => if b = a then c else 0) = if a ∈ l then c else 0 := by
  induction l with
  | nil => rfl
  | cons b l ih =>
    rw [List.nodup_cons] at hn
    rw [sm, ih hn.2]
    by_cases e : b = a
    · subst e
      rw [if_pos rfl, if_neg hn.1, if_pos List.mem_cons_self]; omega
    · rw [if_neg e]
      by_cases z : a ∈ l
      · rw [if_pos z, if_pos (List.mem_cons_of_mem _ z)]; omega
      · rw [if_neg z, if_neg fun q => (List.mem_cons.mp q).elim (fun q => e q.symm) z]; rfl
end
/-! ### places -/
abbrev Nd := NestedKey
abbrev nS : Nd := .text "start"
abbrev nE : Nd := .text "end"
abbrev nT (x : Str) : Nd := .tup (([("taker" : Str), x] : List Str).map .text)
abbrev nK (k : Str) : Nd := .tup (([("store" : Str), k] : List Str).map .text)
theorem nT_inj {x y : Str} (h : nT x = nT y) : x = y := by
  injection h with h
  injection h with _ h
  injection h with h _
  injection h
theorem nK_inj {x y : Str} (h : nK x = nK y) : x = y := by
  injection h with h
  injection h with _ h
  injection h with h _
  injection h
theorem nT_nK {x y : Str} : nT x ≠ nK y := fun h => by
  injection h with h
  injection h with h _
  injection h with h
  revert h; decide
theorem nK_nT {x y : Str} : nK x ≠ nT y := fun h => nT_nK h.symm
theorem nS_nE : nS ≠ nE := fun h => by
  injection h with h
  revert h; decide
theorem nE_nS : nE ≠ nS := fun h => nS_nE h.symm
theorem nS_nT {x : Str} : nS ≠ nT x := fun h => nomatch h
theorem nS_nK {x : Str} : nS ≠ nK x := fun h => nomatch h
theorem nE_nT {x : Str} : nE ≠ nT x := fun h => nomatch h
theorem nE_nK {x : Str} : nE ≠ nK x := fun h => nomatch h
theorem nT_nS {x : Str} : nT x ≠ nS := fun h => nomatch h
theorem nK_nS {x : Str} : nK x ≠ nS := fun h => nomatch h
theorem nT_nE {x : Str} : nT x ≠ nE := fun h => nomatch h
theorem nK_nE {x : Str} : nK x ≠ nE := fun h => nomatch h
abbrev Res := Nd → Nd → Int
abbrev Step := Nd × Nd
/-- a way, its last step first -/
inductive Way (s : Nd) : Nd → List Step → Prop
  | here : Way s s []
  | up {u v : Nd} {l : List Step} : Way s u l → Way s v ((u, v) :: l)
def ind (p : Prop) [Decidable p] : Int := if p then 1 else 0
theorem ind_nn (p : Prop) [Decidable p] : 0 ≤ ind p := by unfold ind; split <;> decide
def cnt (x : Step) (l : List Step) : Int := sm l fun s => if s = x then 1 else 0
theorem cnt_nn (x : Step) (l : List Step) : 0 ≤ cnt x l := sm_nn fun s _ => ind_nn (s = x)
theorem cnt_zero {x : Step} {l : List Step} (h : x ∉ l) : cnt x l = 0 := sm_zero fun s hs => by
  rw [if_neg]
  intro e
  exact h (e ▸ hs)
theorem cnt_nodup {x : Step} {l : List Step} (hn : l.Nodup) : cnt x l ≤ 1 := by
  unfold cnt
  rw [sm_hot hn x 1]
  split <;> omega
/-- what m bags moved on a row of steps leave -/
def mv1 (m : Int) (r : Res) (s : Step) : Res := fun u v => r u v - m * (if s = (u, v) then 1 else 0) + m * (if s = (v, u) then 1 else 0)
def mvs (m : Int) (r : Res) (l : List Step) : Res := l.foldl (mv1 m) r
theorem mvs_at (m : Int) : ∀ (l : List Step) (r : Res) (u v : Nd), mvs m r l u v = r u v - m * cnt (u, v) l + m * cnt (v, u) l
  | [], r, u, v => by
    show r u v = r u v - m * 0 + m * 0
    omega
  | s :: l, r, u, v => by
    show mvs m (mv1 m r s) l u v = _
    rw [mvs_at m l]
    unfold mv1 cnt
    rw [sm, sm, Int.mul_add, Int.mul_add]
    omega
theorem mvs_pair (m : Int) (l : List Step) (r : Res) (u v : Nd) : mvs m r l u v + mvs m r l v u = r u v + r v u := by
  rw [mvs_at, mvs_at]; omega
def outs (x : Nd) (l : List Step) : Int := sm l fun s => ind (s.1 = x)
def ins (x : Nd) (l : List Step) : Int := sm l fun s => ind (s.2 = x)
theorem Way.bal {s e : Nd} {l : List Step} (h : Way s e l) (x : Nd) : outs x l + ind (e = x) = ins x l + ind (s = x) := by
  induction h with
  | here => rfl
  | @up u v l _ ih =>
    unfold outs ins at ih ⊢
    rw [sm, sm]
    dsimp only
    omega
end Eld
end L2

set_option Elab.async false
set_option linter.all false
set_option maxRecDepth 100000
set_option maxHeartbeats 4000000
/-! ## takers and stores: what stays while bags are moved, and where it ends -/
namespace L2
namespace Eld
open PySem
structure Tk where
  nm : Str
  fits : List Str
  most : Int
inductive Edge (ts : List Tk) (ks : List Str) : Nd → Nd → Prop
  | sT {t : Tk} : t ∈ ts → Edge ts ks nS (nT t.nm)
  | tS {t : Tk} : t ∈ ts → Edge ts ks (nT t.nm) nS
  | tK {t : Tk} {k : Str} : t ∈ ts → k ∈ ks → Edge ts ks (nT t.nm) (nK k)
  | kT {t : Tk} {k : Str} : t ∈ ts → k ∈ ks → Edge ts ks (nK k) (nT t.nm)
  | kE {k : Str} : k ∈ ks → Edge ts ks (nK k) nE
  | eK {k : Str} : k ∈ ks → Edge ts ks nE (nK k)
theorem Edge.symm {ts : List Tk} {ks : List Str} {u v : Nd} (h : Edge ts ks u v) : Edge ts ks v u := by
  cases h with
  | sT h => exact .tS h
  | tS h => exact .sT h
  | tK h k => exact .kT h k
  | kT h k => exact .tK h k
  | kE h => exact .eK h
  | eK h => exact .kE h
structure Good (ts : List Tk) (ks : List Str) (st : Str → Int) : Prop where
  tn : (ts.map (·.nm)).Nodup
  kn : ks.Nodup
  most : ∀ t ∈ ts, 0 ≤ t.most
  sub : ∀ t ∈ ts, ∀ k ∈ t.fits, k ∈ ks
  st : ∀ k ∈ ks, 0 ≤ st k
structure Net (ts : List Tk) (ks : List Str) (st : Str → Int) (op : Str → Bool) (r : Res) : Prop where
  nn : ∀ u v, 0 ≤ r u v
  cST : ∀ t ∈ ts, r nS (nT t.nm) + r (nT t.nm) nS = if op t.nm = true then t.most else 0
  cTK : ∀ t ∈ ts, ∀ k ∈ ks, r (nT t.nm) (nK k) + r (nK k) (nT t.nm) = if k ∈ t.fits then t.most else 0
  cKE : ∀ k ∈ ks, r (nK k) nE + r nE (nK k) = st k
  flT : ∀ t ∈ ts, r (nT t.nm) nS = sm ks fun k => r (nK k) (nT t.nm)
  flK : ∀ k ∈ ks, r nE (nK k) = sm ts fun t => r (nK k) (nT t.nm)
  off : ∀ u v, r u v ≠ 0 → Edge ts ks u v
theorem tn_inj {ts : List Tk} (h : (ts.map (·.nm)).Nodup) {t u : Tk} (ht : t ∈ ts) (hu : u ∈ ts) (e : t.nm = u.nm) : t = u := by
  induction ts with
  | nil => cases ht
  | cons a l ih =>
    rw [List.map_cons, List.nodup_cons] at h
    rcases List.mem_cons.mp ht with z | ht
    · rcases List.mem_cons.mp hu with y | hu
      · rw [z, y]
      · exact absurd (List.mem_map.mpr ⟨u, hu, by rw [← e, z]⟩) h.1
    · rcases List.mem_cons.mp hu with y | hu
      · exact absurd (List.mem_map.mpr ⟨t, ht, by rw [e, y]⟩) h.1
      · exact ih h.2 ht hu
/-! ### steps into and out of a place -/
section
variable {ts : List Tk} {ks : List Str} {st : Str → Int} {op : Str → Bool} {r : Res} {l : List Step}
theorem hotK (kn : ks.Nodup) (s : Step) (v : Nd) (k : Str) (hk : k ∈ ks) (e : s = (nK k, v)) : sm ks (fun k => if s = (nK k, v) then 1 else 0) = 1 := by
  have : sm ks (fun j => if s = (nK j, v) then (1 : Int) else 0) = sm ks fun j => if j = k then 1 else 0 := sm_congr fun j _ => by
    by_cases z : j = k
    · rw [if_pos z, if_pos (by rw [e, z])]
    · rw [if_neg z, if_neg]
      intro q
      rw [e] at q
      exact z (nK_inj (Prod.mk.inj q).1).symm
  rw [this, sm_hot kn, if_pos hk]
theorem coldK (s : Step) (v : Nd) (h : ∀ k ∈ ks, s ≠ (nK k, v)) : sm ks (fun k => if s = (nK k, v) then (1 : Int) else 0) = 0 := sm_zero fun k hk => if_neg (h k hk)
theorem hotT (tn : (ts.map (·.nm)).Nodup) (s : Step) (v : Nd) (t : Tk) (ht : t ∈ ts) (e : s = (nT t.nm, v)) : sm ts (fun t => if s = (nT t.nm, v) then (1 : Int) else 0) = 1 := by
  have : sm ts (fun j => if s = (nT j.nm, v) then (1 : Int) else 0) = sm (ts.map (·.nm)) fun j => if j = t.nm then 1 else 0 := by
    rw [sm_map]
    refine sm_congr fun j _ => ?_
    by_cases z : j.nm = t.nm
    · rw [if_pos z, if_pos (by rw [e, z])]
    · rw [if_neg z, if_neg]
      intro q
      rw [e] at q
      exact z (nT_inj (Prod.mk.inj q).1).symm
  rw [this, sm_hot tn, if_pos (List.mem_map.mpr ⟨t, ht, rfl⟩)]
theorem coldT (s : Step) (v : Nd) (h : ∀ t ∈ ts, s ≠ (nT t.nm, v)) : sm ts (fun t => if s = (nT t.nm, v) then (1 : Int) else 0) = 0 := sm_zero fun k hk => if_neg (h k hk)
theorem ins_T (kn : ks.Nodup) (h : ∀ s ∈ l, Edge ts ks s.1 s.2) (x : Str) : ins (nT x) l = cnt (nS, nT x) l + sm ks fun k => cnt (nK k, nT x) l := by
  unfold ins cnt
  rw [sm_swap, ← sm_add]
  refine sm_congr fun s hs => ?_
  have hE := h s hs
  obtain ⟨u, v⟩ := s
  unfold ind
  dsimp only at hE ⊢
  cases hE with
  | @sT t h =>
    rw [coldK _ _ fun k _ q => nS_nK (Prod.mk.inj q).1]
    by_cases z : t.nm = x
    · rw [if_pos (by rw [z]), if_pos (by rw [z])]; rfl
    · rw [if_neg fun q => z (nT_inj q), if_neg fun q => z (nT_inj (Prod.mk.inj q).2)]; rfl
  | tS h => rw [if_neg nS_nT, if_neg fun q => nS_nT (Prod.mk.inj q).2, coldK _ _ fun k _ q => nS_nT (Prod.mk.inj q).2]; rfl
  | tK h k => rw [if_neg nK_nT, if_neg fun q => nK_nT (Prod.mk.inj q).2, coldK _ _ fun k _ q => nK_nT (Prod.mk.inj q).2]; rfl
  | @kT t k h hk =>
    rw [if_neg (c := (nK k, nT t.nm) = (nS, nT x)) fun q => nK_nS (Prod.mk.inj q).1]
    by_cases z : t.nm = x
    · rw [if_pos (by rw [z]), hotK kn _ _ k hk (by rw [z])]; rfl
    · rw [if_neg fun q => z (nT_inj q), coldK _ _ fun k _ q => z (nT_inj (Prod.mk.inj q).2)]; rfl
  | kE h => rw [if_neg nE_nT, if_neg fun q => nE_nT (Prod.mk.inj q).2, coldK _ _ fun k _ q => nE_nT (Prod.mk.inj q).2]; rfl
  | eK h => rw [if_neg nK_nT, if_neg fun q => nK_nT (Prod.mk.inj q).2, coldK _ _ fun k _ q => nK_nT (Prod.mk.inj q).2]; rfl
theorem ins_K (tn : (ts.map (·.nm)).Nodup) (h : ∀ s ∈ l, Edge ts ks s.1 s.2) (x : Str) : ins (nK x) l = cnt (nE, nK x) l + sm ts fun t => cnt (nT t.nm, nK x) l := by
  unfold ins cnt
  rw [sm_swap, ← sm_add]
  refine sm_congr fun s hs => ?_
  have hE := h s hs
  obtain ⟨u, v⟩ := s
  unfold ind
  dsimp only at hE ⊢
  cases hE with
  | sT h => rw [if_neg nT_nK, if_neg fun q => nT_nK (Prod.mk.inj q).2, coldT _ _ fun k _ q => nT_nK (Prod.mk.inj q).2]; rfl
  | tS h => rw [if_neg nS_nK, if_neg fun q => nS_nK (Prod.mk.inj q).2, coldT _ _ fun k _ q => nS_nK (Prod.mk.inj q).2]; rfl
  | @tK t k h hk =>
    rw [if_neg (c := (nT t.nm, nK k) = (nE, nK x)) fun q => nT_nE (Prod.mk.inj q).1]
    by_cases z : k = x
    · rw [if_pos (by rw [z]), hotT tn _ _ t h (by rw [z])]; rfl
    · rw [if_neg fun q => z (nK_inj q), coldT _ _ fun k _ q => z (nK_inj (Prod.mk.inj q).2)]; rfl
  | kT h k => rw [if_neg nT_nK, if_neg fun q => nT_nK (Prod.mk.inj q).2, coldT _ _ fun k _ q => nT_nK (Prod.mk.inj q).2]; rfl
  | kE h => rw [if_neg nE_nK, if_neg fun q => nE_nK (Prod.mk.inj q).2, coldT _ _ fun k _ q => nE_nK (Prod.mk.inj q).2]; rfl
  | @eK k h =>
    rw [coldT _ _ fun t _ q => nE_nT (Prod.mk.inj q).1]
    by_cases z : k = x
    · rw [if_pos (by rw [z]), if_pos (by rw [z])]; rfl
    · rw [if_neg fun q => z (nK_inj q), if_neg fun q => z (nK_inj (Prod.mk.inj q).2)]; rfl
def flip (l : List Step) : List Step := l.map fun s => (s.2, s.1)
theorem cnt_flip (u v : Nd) (l : List Step) : cnt (u, v) (flip l) = cnt (v, u) l := by
  unfold cnt flip
  rw [sm_map]
  refine sm_congr fun s _ => ?_
  obtain ⟨a, b⟩ := s
  by_cases z : (a, b) = (v, u)
  · cases z; rw [if_pos rfl, if_pos rfl]
  · rw [if_neg z, if_neg]
    intro q; cases q; exact z rfl
theorem ins_flip (x : Nd) (l : List Step) : ins x (flip l) = outs x l := by
  unfold ins outs flip
  rw [sm_map]
theorem flip_edge (h : ∀ s ∈ l, Edge ts ks s.1 s.2) : ∀ s ∈ flip l, Edge ts ks s.1 s.2 := fun s hs => by
  obtain ⟨a, ha, rfl⟩ := List.mem_map.mp hs
  exact (h a ha).symm
theorem outs_T (kn : ks.Nodup) (h : ∀ s ∈ l, Edge ts ks s.1 s.2) (x : Str) : outs (nT x) l = cnt (nT x, nS) l + sm ks fun k => cnt (nT x, nK k) l := by
  rw [← ins_flip, ins_T kn (flip_edge h), cnt_flip]
  congr 1
  exact sm_congr fun k _ => cnt_flip _ _ _
theorem outs_K (tn : (ts.map (·.nm)).Nodup) (h : ∀ s ∈ l, Edge ts ks s.1 s.2) (x : Str) : outs (nK x) l = cnt (nK x, nE) l + sm ts fun t => cnt (nK x, nT t.nm) l := by
  rw [← ins_flip, ins_K tn (flip_edge h), cnt_flip]
  congr 1
  exact sm_congr fun k _ => cnt_flip _ _ _
theorem ind_no {p : Prop} [Decidable p] (h : ¬ p) : ind p = 0 := if_neg h
theorem cnt_le {x : Step} (hn : l.Nodup) : cnt x l = 0 ∨ cnt x l = 1 := by
  have h1 := cnt_nn x l
  have h2 := cnt_nodup (x := x) hn
  omega
theorem mem_of_cnt {x : Step} (h : cnt x l ≠ 0) : x ∈ l := Classical.byContradiction fun z => h (cnt_zero z)
/-- bags moved on a way -/
theorem Net.push (N : Net ts ks st op r) (G : Good ts ks st) (W : Way nS nE l) (hn : l.Nodup) {m : Int} (m0 : 0 ≤ m) (hm : ∀ s ∈ l, m ≤ r s.1 s.2) (hE : ∀ s ∈ l, Edge ts ks s.1 s.2) : Net ts ks st op (mvs m r l) := by
  refine ⟨fun u v => ?_, fun t ht => ?_, fun t ht k hk => ?_, fun k hk => ?_, fun t ht => ?_, fun k hk => ?_, fun u v h => ?_⟩
  · rw [mvs_at]
    have h0 := N.nn u v
    rcases cnt_le (x := (u, v)) hn with e | e
    · rcases cnt_le (x := (v, u)) hn with e' | e'
      · rw [e, e']; omega
      · rw [e, e']; omega
    · have := hm (u, v) (mem_of_cnt (by rw [e]; decide))
      dsimp only at this
      rcases cnt_le (x := (v, u)) hn with e' | e'
      · rw [e, e']; omega
      · rw [e, e']; omega
  · rw [mvs_pair]; exact N.cST t ht
  · rw [mvs_pair]; exact N.cTK t ht k hk
  · rw [mvs_pair]; exact N.cKE k hk
  · have b := W.bal (nT t.nm)
    rw [ind_no nE_nT, ind_no nS_nT, ins_T G.kn hE, outs_T G.kn hE] at b
    have e : sm ks (fun k => mvs m r l (nK k) (nT t.nm)) = sm ks (fun k => r (nK k) (nT t.nm)) - m * sm ks (fun k => cnt (nK k, nT t.nm) l) + m * sm ks fun k => cnt (nT t.nm, nK k) l := by
      rw [← sm_mul, ← sm_mul]
      have : ∀ k ∈ ks, mvs m r l (nK k) (nT t.nm) = r (nK k) (nT t.nm) + (m * cnt (nT t.nm, nK k) l + (-1) * (m * cnt (nK k, nT t.nm) l)) := fun k _ => by rw [mvs_at]; omega
      rw [sm_congr this, sm_add, sm_add, sm_mul ks (fun k => m * cnt (nK k, nT t.nm) l)]
      omega
    rw [e, mvs_at, N.flT t ht]
    have : m * (cnt (nT t.nm, nS) l + sm ks (fun k => cnt (nT t.nm, nK k) l) + 0) = m * (cnt (nS, nT t.nm) l + sm ks (fun k => cnt (nK k, nT t.nm) l) + 0) := by rw [b]
    rw [Int.add_zero, Int.add_zero, Int.mul_add, Int.mul_add] at this
    omega
  · have b := W.bal (nK k)
    rw [ind_no nE_nK, ind_no nS_nK, ins_K G.tn hE, outs_K G.tn hE] at b
    have e : sm ts (fun t => mvs m r l (nK k) (nT t.nm)) = sm ts (fun t => r (nK k) (nT t.nm)) - m * sm ts (fun t => cnt (nK k, nT t.nm) l) + m * sm ts fun t => cnt (nT t.nm, nK k) l := by
      rw [← sm_mul, ← sm_mul]
      have : ∀ t ∈ ts, mvs m r l (nK k) (nT t.nm) = r (nK k) (nT t.nm) + (m * cnt (nT t.nm, nK k) l + (-1) * (m * cnt (nK k, nT t.nm) l)) := fun k _ => by rw [mvs_at]; omega
      rw [sm_congr this, sm_add, sm_add, sm_mul ts (fun t => m * cnt (nK k, nT t.nm) l)]
      omega
    rw [e, mvs_at, N.flK k hk]
    have : m * (cnt (nK k, nE) l + sm ts (fun t => cnt (nK k, nT t.nm) l) + 0) = m * (cnt (nE, nK k) l + sm ts (fun t => cnt (nT t.nm, nK k) l) + 0) := by rw [b]
    rw [Int.add_zero, Int.add_zero, Int.mul_add, Int.mul_add] at this
    omega
  · rw [mvs_at] at h
    by_cases z : (u, v) ∈ l
    · exact hE _ z
    · by_cases z' : (v, u) ∈ l
      · exact (hE _ z').symm
      · rw [cnt_zero z, cnt_zero z'] at h
        exact N.off u v fun q => h (by rw [q]; omega)
end
end Eld
end L2

set_option Elab.async false
set_option linter.all false
set_option maxRecDepth 100000
set_option maxHeartbeats 4000000
/-! ## lots: where no way is left, what a lot can't pass -/
namespace L2
namespace Eld
open PySem
def uniq : List Str → List Str
  | [] => []
  | a :: l => if a ∈ l then uniq l else a :: uniq l
theorem mem_uniq {a : Str} : ∀ {l : List Str}, a ∈ uniq l ↔ a ∈ l
  | [] => Iff.rfl
  | b :: l => by
    rw [uniq]
    by_cases z : b ∈ l
    · rw [if_pos z, mem_uniq (l := l), List.mem_cons]
      exact ⟨.inr, fun h => h.elim (fun e => e ▸ z) id⟩
    · rw [if_neg z, List.mem_cons, List.mem_cons, mem_uniq (l := l)]
theorem nodup_uniq : ∀ l : List Str, (uniq l).Nodup
  | [] => List.nodup_nil
  | b :: l => by
    rw [uniq]
    by_cases z : b ∈ l
    · rw [if_pos z]; exact nodup_uniq l
    · rw [if_neg z, List.nodup_cons]
      exact ⟨fun q => z (mem_uniq.mp q), nodup_uniq l⟩
/-- the kinds that fit some of a lot -/
def hits (ts : List Tk) (L : Str → Bool) : List Str := uniq ((ts.filter fun t => L t.nm).flatMap (·.fits))
theorem nodup_hits (ts : List Tk) (L : Str → Bool) : (hits ts L).Nodup := nodup_uniq _
theorem mem_hits {ts : List Tk} {L : Str → Bool} {k : Str} : k ∈ hits ts L ↔ ∃ t ∈ ts, L t.nm = true ∧ k ∈ t.fits := by
  unfold hits
  rw [mem_uniq, List.mem_flatMap]
  constructor
  · rintro ⟨t, ht, hk⟩
    rw [List.mem_filter] at ht
    exact ⟨t, ht.1, ht.2, hk⟩
  · rintro ⟨t, ht, hL, hk⟩
    exact ⟨t, List.mem_filter.mpr ⟨ht, hL⟩, hk⟩
/-- the mosts of those outside a lot and the bags that fit it -/
def cost (ts : List Tk) (st : Str → Int) (L : Str → Bool) : Int := sm ts (fun t => if L t.nm = true then 0 else t.most) + sm (hits ts L) st
/-- the least of these sums -/
def Least (ts : List Tk) (st : Str → Int) (v : Int) : Prop := (∃ L, v = cost ts st L) ∧ ∀ L, v ≤ cost ts st L
theorem Least.uni {ts : List Tk} {st : Str → Int} {v v' : Int} (h : Least ts st v) (h' : Least ts st v') : v = v' := by
  obtain ⟨⟨L, e⟩, a⟩ := h
  obtain ⟨⟨L', e'⟩, a'⟩ := h'
  have h1 := a L'
  have h2 := a' L
  omega
theorem cost_perm {ts ts' : List Tk} (p : ts.Perm ts') (st : Str → Int) (L : Str → Bool) : cost ts st L = cost ts' st L := by
  unfold cost
  rw [sm_perm p, sm_same (nodup_hits ts L) (nodup_hits ts' L) fun k => ?_]
  rw [mem_hits, mem_hits]
  exact ⟨fun ⟨t, a, b⟩ => ⟨t, p.mem_iff.mp a, b⟩, fun ⟨t, a, b⟩ => ⟨t, p.mem_iff.mpr a, b⟩⟩
theorem Least.perm {ts ts' : List Tk} (p : ts.Perm ts') {st : Str → Int} {v : Int} (h : Least ts st v) : Least ts' st v := by
  obtain ⟨⟨L, e⟩, a⟩ := h
  exact ⟨⟨L, by rw [← cost_perm p]; exact e⟩, fun L => by rw [← cost_perm p]; exact a L⟩
theorem Least.stock {ts : List Tk} {st st' : Str → Int} (h : ∀ t ∈ ts, ∀ k ∈ t.fits, st k = st' k) {v : Int} (q : Least ts st v) : Least ts st' v := by
  have e : ∀ L, cost ts st L = cost ts st' L := fun L => by
    unfold cost
    congr 1
    refine sm_congr fun k hk => ?_
    obtain ⟨t, ht, _, hf⟩ := mem_hits.mp hk
    exact h t ht k hf
  obtain ⟨⟨L, e1⟩, a⟩ := q
  exact ⟨⟨L, by rw [← e]; exact e1⟩, fun L => by rw [← e]; exact a L⟩
/-- the places that can be reached -/
structure Rch (r : Res) (R : Nd → Prop) : Prop where
  s : R nS
  e : ¬ R nE
  cl : ∀ u v, R u → 0 < r u v → R v
  pr : ∀ v, R v → v ≠ nS → ∃ u, R u ∧ 0 < r u v
section
variable {ts : List Tk} {ks : List Str} {st : Str → Int} {op : Str → Bool} {r : Res} {R : Nd → Prop}
theorem Net.pos (N : Net ts ks st op r) {u v : Nd} (h : r u v ≠ 0) : 0 < r u v := by
  have := N.nn u v
  omega
theorem Net.from_T (N : Net ts ks st op r) (Q : Rch r R) {t : Tk} (ht : t ∈ ts) (h : R (nT t.nm)) : 0 < r nS (nT t.nm) ∨ ∃ k ∈ ks, R (nK k) ∧ 0 < r (nK k) (nT t.nm) := by
  obtain ⟨u, hu, p⟩ := Q.pr _ h nT_nS
  have hE := N.off u (nT t.nm) (by omega)
  generalize ev : nT t.nm = v at hE p
  cases hE with
  | sT _ => exact .inl p
  | tS _ => exact absurd ev nT_nS
  | tK _ _ => exact absurd ev nT_nK
  | kT _ hk => exact .inr ⟨_, hk, hu, p⟩
  | kE _ => exact absurd ev nT_nE
  | eK _ => exact absurd ev nT_nK
theorem Net.from_K (N : Net ts ks st op r) (Q : Rch r R) {k : Str} (h : R (nK k)) : ∃ t ∈ ts, R (nT t.nm) ∧ 0 < r (nT t.nm) (nK k) := by
  obtain ⟨u, hu, p⟩ := Q.pr _ h nK_nS
  have hE := N.off u (nK k) (by omega)
  generalize ev : nK k = v at hE p
  cases hE with
  | sT _ => exact absurd ev nK_nT
  | tS _ => exact absurd ev nK_nS
  | tK ht _ => exact ⟨_, ht, hu, p⟩
  | kT _ hk => exact absurd ev nK_nT
  | kE _ => exact absurd ev nK_nE
  | eK _ => exact absurd hu Q.e
/-- whom the start still reaches, reaches all its stores -/
theorem Net.full (N : Net ts ks st op r) (G : Good ts ks st) (Q : Rch r R) {t : Tk} (ht : t ∈ ts) (h : R (nT t.nm)) {k : Str} (hk : k ∈ t.fits) : R (nK k) := by
  refine Classical.byContradiction fun z => ?_
  have hks := G.sub t ht k hk
  have h0 := N.nn (nT t.nm) (nK k)
  have h1 : r (nT t.nm) (nK k) = 0 := Classical.byContradiction fun q => z (Q.cl _ _ h (N.pos q))
  have h2 := N.cTK t ht k hks
  rw [if_pos hk, h1] at h2
  have h3 := N.flT t ht
  have h4 := N.cST t ht
  have h5 := N.nn nS (nT t.nm)
  have h6 : r (nT t.nm) nS ≤ t.most := by
    have := G.most t ht
    split at h4 <;> omega
  have nnk : ∀ b ∈ ks, 0 ≤ r (nK b) (nT t.nm) := fun b _ => N.nn _ _
  have h7 := sm_mem nnk hks
  rcases N.from_T Q ht h with p | ⟨k', hk', hR, p⟩
  · have := G.most t ht
    split at h4 <;> omega
  · have ne : k ≠ k' := fun e => z (e ▸ hR)
    have := sm_mem2 nnk hks hk' ne
    omega
theorem Net.fit (N : Net ts ks st op r) {t : Tk} (ht : t ∈ ts) {k : Str} (hk : k ∈ ks) (h : r (nT t.nm) (nK k) ≠ 0 ∨ r (nK k) (nT t.nm) ≠ 0) : k ∈ t.fits := by
  refine Classical.byContradiction fun z => ?_
  have h1 := N.cTK t ht k hk
  rw [if_neg z] at h1
  have := N.nn (nT t.nm) (nK k)
  have := N.nn (nK k) (nT t.nm)
  omega
theorem Net.shut (N : Net ts ks st op r) {t : Tk} (ht : t ∈ ts) (h : op t.nm ≠ true) : r nS (nT t.nm) = 0 ∧ r (nT t.nm) nS = 0 ∧ ∀ k ∈ ks, r (nK k) (nT t.nm) = 0 := by
  have h1 := N.cST t ht
  rw [if_neg h] at h1
  have h2 := N.nn nS (nT t.nm)
  have h3 := N.nn (nT t.nm) nS
  refine ⟨by omega, by omega, fun k hk => ?_⟩
  have h4 := sm_mem (l := ks) (f := fun k => r (nK k) (nT t.nm)) (fun b _ => N.nn _ _) hk
  have h5 := N.flT t ht
  have h6 := N.nn (nK k) (nT t.nm)
  omega
open Classical in
/-- no way left: all that came is what a lot lets through -/
theorem Net.cut (N : Net ts ks st op r) (G : Good ts ks st) (Q : Rch r R) : sm ts (fun t => r (nT t.nm) nS) = cost (ts.filter fun t => op t.nm) st fun x => decide (R (nT x)) := by
  unfold cost
  have hh : ∀ k, k ∈ hits (ts.filter fun t => op t.nm) (fun x => decide (R (nT x))) ↔ k ∈ ks.filter fun k => decide (R (nK k)) := fun k => by
    rw [mem_hits, List.mem_filter]
    constructor
    · rintro ⟨t, ht, hL, hk⟩
      rw [List.mem_filter] at ht
      exact ⟨G.sub t ht.1 k hk, decide_eq_true (N.full G Q ht.1 (of_decide_eq_true hL) hk)⟩
    · rintro ⟨hk, hR⟩
      obtain ⟨t, ht, hT, p⟩ := N.from_K Q (of_decide_eq_true hR)
      refine ⟨t, List.mem_filter.mpr ⟨ht, ?_⟩, decide_eq_true hT, N.fit ht hk (.inl (by omega))⟩
      refine Classical.byContradiction fun z => ?_
      obtain ⟨a, b, c⟩ := N.shut ht z
      rcases N.from_T Q ht hT with q | ⟨k', hk', _, q⟩
      · omega
      · have := c k' hk'
        omega
  rw [sm_same (nodup_hits _ _) (G.kn.filter _) hh, sm_filter, sm_filter]
  have e1 : sm ks (fun a => if decide (R (nK a)) = true then st a else 0) = sm ts fun t => if R (nT t.nm) then r (nT t.nm) nS else 0 := by
    have : ∀ k ∈ ks, (if decide (R (nK k)) = true then st k else 0) = sm ts fun t => if R (nT t.nm) then r (nK k) (nT t.nm) else 0 := fun k hk => by
      by_cases z : R (nK k)
      · rw [if_pos (decide_eq_true z), ← N.cKE k hk, N.flK k hk]
        have : r (nK k) nE = 0 := Classical.byContradiction fun q => Q.e (Q.cl _ _ z (N.pos q))
        rw [this, Int.zero_add]
        refine sm_congr fun t ht => ?_
        by_cases y : R (nT t.nm)
        · rw [if_pos y]
        · rw [if_neg y]
          exact Classical.byContradiction fun q => y (Q.cl _ _ z (N.pos q))
      · rw [if_neg fun q => z (of_decide_eq_true q), sm_zero fun t ht => ?_]
        by_cases y : R (nT t.nm)
        · rw [if_pos y]
          exact Classical.byContradiction fun q => z (N.full G Q ht y (N.fit ht hk (.inr q)))
        · rw [if_neg y]
    rw [sm_congr this, sm_swap]
    refine sm_congr fun t ht => ?_
    by_cases y : R (nT t.nm)
    · rw [if_pos y, N.flT t ht]
      exact sm_congr fun k _ => if_pos y
    · rw [if_neg y]
      exact sm_zero fun k _ => if_neg y
  rw [e1, ← sm_add]
  refine sm_congr fun t ht => ?_
  by_cases y : R (nT t.nm)
  · rw [if_pos (c := R (nT t.nm)) y, if_pos (decide_eq_true y)]
    split <;> omega
  · rw [if_neg (c := R (nT t.nm)) y, if_neg fun q => y (of_decide_eq_true q)]
    have h1 : r nS (nT t.nm) = 0 := Classical.byContradiction fun q => y (Q.cl _ _ Q.s (N.pos q))
    have h2 := N.cST t ht
    rw [h1] at h2
    omega
/-- no lot lets less through than what came -/
theorem Net.bound (N : Net ts ks st op r) (G : Good ts ks st) (L : Str → Bool) : sm ts (fun t => r (nT t.nm) nS) ≤ cost (ts.filter fun t => op t.nm) st L := by
  unfold cost
  generalize hA : (ts.filter fun t => op t.nm) = A
  have hh : ∀ k, k ∈ hits A L ↔ k ∈ ks.filter fun k => decide (k ∈ hits A L) := fun k => by
    rw [List.mem_filter]
    refine ⟨fun h => ⟨?_, decide_eq_true h⟩, fun h => of_decide_eq_true h.2⟩
    obtain ⟨t, ht, _, hk⟩ := mem_hits.mp h
    rw [← hA, List.mem_filter] at ht
    exact G.sub t ht.1 k hk
  rw [sm_same (nodup_hits _ _) (G.kn.filter _) hh, sm_filter, ← hA, sm_filter, hA]
  have e1 : sm ts (fun t => sm ks fun k => if k ∈ hits A L then r (nK k) (nT t.nm) else 0) ≤ sm ks (fun a => if decide (a ∈ hits A L) = true then st a else 0) := by
    rw [sm_swap]
    refine sm_le fun k hk => ?_
    by_cases z : k ∈ hits A L
    · rw [if_pos (decide_eq_true z)]
      have h1 := N.flK k hk
      have h2 := N.cKE k hk
      have h3 := N.nn (nK k) nE
      have : sm ts (fun t => if k ∈ hits A L then r (nK k) (nT t.nm) else 0) = sm ts fun t => r (nK k) (nT t.nm) := sm_congr fun t _ => if_pos z
      omega
    · rw [if_neg fun q => z (of_decide_eq_true q), sm_zero fun t _ => if_neg z]
      exact Int.le_refl _
  refine Int.le_trans ?_ (Int.add_le_add_left e1 _)
  rw [← sm_add]
  refine sm_le fun t ht => ?_
  have nn : 0 ≤ sm ks fun k => if k ∈ hits A L then r (nK k) (nT t.nm) else 0 := sm_nn fun k _ => by
    split
    · exact N.nn _ _
    · exact Int.le_refl _
  by_cases o : op t.nm = true
  · rw [if_pos o]
    by_cases y : L t.nm = true
    · rw [if_pos y, N.flT t ht, Int.zero_add]
      refine sm_le fun k hk => ?_
      by_cases z : k ∈ hits A L
      · rw [if_pos z]; exact Int.le_refl _
      · rw [if_neg z]
        refine Int.le_of_eq (Classical.byContradiction fun q => z (mem_hits.mpr ⟨t, ?_, y, N.fit ht hk (.inr q)⟩))
        rw [← hA]
        exact List.mem_filter.mpr ⟨ht, o⟩
    · rw [if_neg y]
      have h1 := N.cST t ht
      rw [if_pos o] at h1
      have := N.nn nS (nT t.nm)
      omega
  · rw [if_neg o, (N.shut ht o).2.1]
    omega
end
end Eld
end L2

set_option Elab.async false
set_option linter.all false
set_option maxRecDepth 100000
set_option maxHeartbeats 4000000
/-! ## one taker behind the other -/
namespace L2
namespace Eld
open PySem
/-- places from which no way leads on to the end, the start aside -/
structure Shut (r : Res) (U : Nd → Prop) : Prop where
  s : ¬ U nS
  e : ¬ U nE
  cl : ∀ u v, U u → 0 < r u v → v ≠ nS → U v
theorem Rch.shut {r : Res} {R : Nd → Prop} (Q : Rch r R) : Shut r fun u => R u ∧ u ≠ nS := ⟨fun h => h.2 rfl, fun h => Q.e h.1, fun u v h p n => ⟨Q.cl u v h.1 p, n⟩⟩
/-- a way on which more can be moved -/
structure Free (r : Res) (l : List Step) : Prop where
  way : Way nS nE l
  nd : l.Nodup
  pos : ∀ s ∈ l, 0 < r s.1 s.2
  off : ∀ s ∈ l, s.2 ≠ nS
theorem Way.shut {r : Res} {U : Nd → Prop} (S : Shut r U) {s e : Nd} {l : List Step} (w : Way s e l) : (∀ x ∈ l, 0 < r x.1 x.2 ∧ x.2 ≠ nS) → ∀ x ∈ l, U x.1 ∨ U x.2 → U e := by
  induction w with
  | here => intro _ x hx; cases hx
  | @up u v l w ih =>
    intro h x hx hu
    have huv := h (u, v) List.mem_cons_self
    rcases List.mem_cons.mp hx with rfl | hx
    · rcases hu with hu | hu
      · exact S.cl _ _ hu huv.1 huv.2
      · exact hu
    · exact S.cl _ _ (ih (fun y hy => h y (List.mem_cons_of_mem _ hy)) x hx hu) huv.1 huv.2
theorem Free.out {r : Res} {U : Nd → Prop} {l : List Step} (F : Free r l) (S : Shut r U) : ∀ x ∈ l, ¬ U x.1 ∧ ¬ U x.2 := fun x hx =>
  ⟨fun h => S.e (F.way.shut S (fun y hy => ⟨F.pos y hy, F.off y hy⟩) x hx (.inl h)), fun h => S.e (F.way.shut S (fun y hy => ⟨F.pos y hy, F.off y hy⟩) x hx (.inr h))⟩
theorem Shut.push {r : Res} {U : Nd → Prop} {l : List Step} (S : Shut r U) (F : Free r l) {m : Int} (m0 : 0 ≤ m) : Shut (mvs m r l) U := by
  refine ⟨S.s, S.e, fun u v hu p n => S.cl u v hu ?_ n⟩
  rw [mvs_at] at p
  have e1 : cnt (v, u) l = 0 := cnt_zero fun q => (F.out S _ q).2 hu
  rw [e1] at p
  have := Int.mul_nonneg m0 (cnt_nn (u, v) l)
  omega
def opd (ts : List Tk) (i : Nat) (x : Str) : Bool := decide (x ∈ (ts.take i).map (·.nm))
theorem opd_iff {ts : List Tk} (tn : (ts.map (·.nm)).Nodup) {t : Tk} (ht : t ∈ ts) (i : Nat) : opd ts i t.nm = true ↔ t ∈ ts.take i := by
  unfold opd
  rw [decide_eq_true_iff, List.mem_map]
  constructor
  · rintro ⟨u, hu, e⟩
    have := tn_inj tn (List.mem_of_mem_take hu) ht e
    exact this ▸ hu
  · intro h
    exact ⟨t, h, rfl⟩
theorem nodup_ts {ts : List Tk} (tn : (ts.map (·.nm)).Nodup) : ts.Nodup := by
  induction ts with
  | nil => exact List.nodup_nil
  | cons a l ih =>
    rw [List.map_cons, List.nodup_cons] at tn
    exact List.nodup_cons.mpr ⟨fun h => tn.1 (List.mem_map.mpr ⟨a, h, rfl⟩), ih tn.2⟩
theorem filter_opd {ts : List Tk} (tn : (ts.map (·.nm)).Nodup) (i : Nat) : ts.filter (fun t => opd ts i t.nm) = ts.take i := by
  have hnd := nodup_ts tn
  have h1 : ∀ t ∈ ts.take i, opd ts i t.nm = true := fun t ht => (opd_iff tn (List.mem_of_mem_take ht) i).mpr ht
  have h2 : ∀ t ∈ ts.drop i, ¬ opd ts i t.nm = true := fun t ht q => by
    have := (opd_iff tn (List.mem_of_mem_drop ht) i).mp q
    rw [← List.take_append_drop i ts, List.nodup_append] at hnd
    exact hnd.2.2 _ this _ ht rfl
  have key : (ts.take i ++ ts.drop i).filter (fun t => opd ts i t.nm) = ts.take i := by
    rw [List.filter_append, List.filter_eq_self.mpr h1, List.filter_eq_nil_iff.mpr h2, List.append_nil]
  rw [List.take_append_drop] at key
  exact key
structure Srv (ts : List Tk) (ks : List Str) (st : Str → Int) (i : Nat) (r : Res) : Prop where
  net : Net ts ks st (opd ts i) r
  sh : ∃ U, Shut r U ∧ ∀ t ∈ ts.take i, r nS (nT t.nm) = 0 ∨ U (nT t.nm)
  ls : ∀ j, j ≤ i → Least (ts.take j) st (sm (ts.take j) fun t => r (nT t.nm) nS)
/-- the way from the start to a taker made wider -/
def opn (r : Res) (t : Tk) : Res := fun u v => if u = nS ∧ v = nT t.nm then r u v + t.most else r u v
structure Psh (ts : List Tk) (ks : List Str) (st : Str → Int) (i : Nat) (r0 r : Res) (U : Nd → Prop) : Prop where
  net : Net ts ks st (opd ts (i + 1)) r
  sh : Shut r U
  old : ∀ t ∈ ts.take i, (r nS (nT t.nm) = 0 ∨ U (nT t.nm)) ∧ r (nT t.nm) nS = r0 (nT t.nm) nS
section
variable {ts : List Tk} {ks : List Str} {st : Str → Int} {i : Nat} {r r0 : Res} {U : Nd → Prop} {t : Tk}
theorem least_nil (st : Str → Int) : Least [] st 0 := ⟨⟨fun _ => true, rfl⟩, fun L => Int.le_refl _⟩
theorem Srv.start (N : Net ts ks st (opd ts 0) r) : Srv ts ks st 0 r := ⟨N, ⟨fun _ => False, ⟨id, id, fun _ _ h => h.elim⟩, fun t ht => by
  rw [List.take_zero] at ht; cases ht⟩, fun j hj => by
  obtain rfl : j = 0 := Nat.le_zero.mp hj
  rw [List.take_zero]
  exact least_nil st⟩
theorem take_last (ht : ts[i]? = some t) {u : Tk} : u ∈ ts.take (i + 1) ↔ u ∈ ts.take i ∨ u = t := by
  rw [List.take_add_one, ht, List.mem_append]
  simp
theorem not_take (tn : (ts.map (·.nm)).Nodup) (ht : ts[i]? = some t) : t ∉ ts.take i := fun h => by
  have hnd := nodup_ts tn
  rw [← List.take_append_drop i ts, List.nodup_append] at hnd
  refine hnd.2.2 _ h t ?_ rfl
  rw [List.drop_eq_getElem_cons (List.getElem?_eq_some_iff.mp ht).1]
  rw [(List.getElem?_eq_some_iff.mp ht).2]
  exact List.mem_cons_self
theorem Net.opn (G : Good ts ks st) (N : Net ts ks st (opd ts i) r) (ht : ts[i]? = some t) : Net ts ks st (opd ts (i + 1)) (opn r t) := by
  have hm : t ∈ ts := List.mem_of_getElem? ht
  have off : ∀ u v, ¬ (u = nS ∧ v = nT t.nm) → Eld.opn r t u v = r u v := fun u v h => if_neg h
  refine ⟨fun u v => ?_, fun a ha => ?_, fun a ha k hk => ?_, fun k hk => ?_, fun a ha => ?_, fun k hk => ?_, fun u v h => ?_⟩
  · unfold Eld.opn
    have := N.nn u v
    have := G.most t hm
    split <;> omega
  · have h1 := N.cST a ha
    rw [off (nT a.nm) nS fun q => nT_nS q.1]
    by_cases e : a = t
    · subst e
      have n1 : ¬ opd ts i a.nm = true := fun q => not_take G.tn ht ((opd_iff G.tn ha i).mp q)
      rw [if_neg n1] at h1
      rw [if_pos ((opd_iff G.tn ha (i + 1)).mpr ((take_last ht).mpr (.inr rfl)))]
      unfold Eld.opn
      rw [if_pos ⟨rfl, rfl⟩]
      omega
    · rw [off nS (nT a.nm) fun q => e (tn_inj G.tn ha hm (nT_inj q.2)), h1]
      have : opd ts i a.nm = opd ts (i + 1) a.nm := by
        rw [Bool.eq_iff_iff, opd_iff G.tn ha, opd_iff G.tn ha, take_last ht]
        exact ⟨.inl, fun h => h.elim id fun q => absurd q e⟩
      rw [this]
  · rw [off _ _ fun q => nT_nS q.1, off _ _ fun q => nK_nS q.1]
    exact N.cTK a ha k hk
  · rw [off _ _ fun q => nK_nS q.1, off _ _ fun q => nE_nS q.1]
    exact N.cKE k hk
  · rw [off _ _ fun q => nT_nS q.1, N.flT a ha]
    exact sm_congr fun k _ => (off _ _ fun q => nK_nS q.1).symm
  · rw [off _ _ fun q => nE_nS q.1, N.flK k hk]
    exact sm_congr fun k _ => (off _ _ fun q => nK_nS q.1).symm
  · by_cases z : u = nS ∧ v = nT t.nm
    · rw [z.1, z.2]
      exact .sT hm
    · rw [off u v z] at h
      exact N.off u v h
theorem Srv.opn (G : Good ts ks st) (S : Srv ts ks st i r) (ht : ts[i]? = some t) : ∃ U, Psh ts ks st i r (opn r t) U := by
  obtain ⟨U, h1, h2⟩ := S.sh
  have off : ∀ u v, ¬ (u = nS ∧ v = nT t.nm) → Eld.opn r t u v = r u v := fun u v h => if_neg h
  refine ⟨U, S.net.opn G ht, ⟨h1.s, h1.e, fun u v hu p n => h1.cl u v hu ?_ n⟩, fun a ha => ⟨?_, off _ _ fun q => nT_nS q.1⟩⟩
  · rwa [off u v fun q => h1.s (q.1 ▸ hu)] at p
  · rw [off _ _ fun q => not_take G.tn ht (tn_inj G.tn (List.mem_of_getElem? ht) (List.mem_of_mem_take ha) (nT_inj q.2).symm ▸ ha)]
    exact h2 a ha
/-- one way more -/
theorem Psh.step (G : Good ts ks st) (P : Psh ts ks st i r0 r U) (ht : ts[i]? = some t) {l : List Step} (F : Free r l) {m : Int} (m0 : 0 < m) (hm : ∀ s ∈ l, m ≤ r s.1 s.2) :
    Psh ts ks st i r0 (mvs m r l) U ∧ mvs m r l nS (nT t.nm) < r nS (nT t.nm) := by
  have hE : ∀ s ∈ l, Edge ts ks s.1 s.2 := fun s hs => P.net.off _ _ (by have := F.pos s hs; omega)
  have first : ∀ v, (nS, v) ∈ l → v = nT t.nm := fun v hv => by
    have hp := F.pos _ hv
    have hu := (F.out P.sh _ hv).2
    have e1 := hE _ hv
    dsimp only at hp hu e1
    generalize e0 : nS = s at e1
    cases e1 with
    | @sT a ha =>
      have o : opd ts (i + 1) a.nm = true := Classical.byContradiction fun z => by
        have := (P.net.shut ha z).1
        omega
      rcases (take_last ht).mp ((opd_iff G.tn ha _).mp o) with z | z
      · rcases (P.old a z).1 with q | q
        · omega
        · exact absurd q hu
      · rw [z]
    | tS _ => exact absurd e0 nS_nT
    | tK _ _ => exact absurd e0 nS_nT
    | kT _ _ => exact absurd e0 nS_nK
    | kE _ => exact absurd e0 nS_nK
    | eK _ => exact absurd e0 nS_nE
  have noS : ∀ u, cnt (u, nS) l = 0 := fun u => cnt_zero fun q => F.off _ q rfl
  refine ⟨⟨P.net.push G F.way F.nd (by omega) hm hE, P.sh.push F (by omega), fun a ha => ?_⟩, ?_⟩
  · have ne : nT a.nm ≠ nT t.nm := fun q => not_take G.tn ht (tn_inj G.tn (List.mem_of_getElem? ht) (List.mem_of_mem_take ha) (nT_inj q).symm ▸ ha)
    have c0 : cnt (nS, nT a.nm) l = 0 := cnt_zero fun q => ne (first _ q)
    rw [mvs_at, mvs_at, noS, c0]
    have := P.old a ha
    refine ⟨?_, by omega⟩
    rcases this.1 with q | q
    · exact .inl (by omega)
    · exact .inr q
  · have b := F.way.bal nS
    rw [ind_no nE_nS] at b
    have i0 : ins nS l = 0 := sm_zero fun s hs => ind_no (F.off s hs)
    have : outs nS l = cnt (nS, nT t.nm) l := by
      unfold outs cnt
      refine sm_congr fun s hs => ?_
      obtain ⟨u, v⟩ := s
      unfold ind
      by_cases z : u = nS
      · subst z
        rw [if_pos rfl, if_pos (by rw [first v hs])]
      · rw [if_neg z, if_neg fun q => z (Prod.mk.inj q).1]
    have e1 : ind (nS = nS) = 1 := rfl
    rw [mvs_at, noS]
    have : cnt (nS, nT t.nm) l = 1 := by omega
    rw [this]
    omega
/-- no way left -/
theorem Psh.done (G : Good ts ks st) (S : Srv ts ks st i r0) (P : Psh ts ks st i r0 r U) (ht : ts[i]? = some t) {R : Nd → Prop} (Q : Rch r R) : Srv ts ks st (i + 1) r := by
  refine ⟨P.net, ⟨_, Q.shut, fun a ha => ?_⟩, fun j hj => ?_⟩
  · by_cases z : r nS (nT a.nm) = 0
    · exact .inl z
    · exact .inr ⟨Q.cl _ _ Q.s (P.net.pos z), nT_nS⟩
  · by_cases e : j = i + 1
    · subst e
      have e1 : sm (ts.take (i + 1)) (fun t => r (nT t.nm) nS) = sm ts fun t => r (nT t.nm) nS := by
        rw [← filter_opd G.tn (i + 1), sm_filter]
        refine sm_congr fun a ha => ?_
        by_cases z : opd ts (i + 1) a.nm = true
        · rw [if_pos z]
        · rw [if_neg z, (P.net.shut ha z).2.1]
      rw [e1]
      have h1 := P.net.cut G Q
      have h2 := P.net.bound G
      rw [filter_opd G.tn] at h1
      simp only [filter_opd G.tn] at h2
      exact ⟨⟨_, h1⟩, h2⟩
    · have hj : j ≤ i := by omega
      have e1 : sm (ts.take j) (fun t => r (nT t.nm) nS) = sm (ts.take j) fun t => r0 (nT t.nm) nS := sm_congr fun a ha => (P.old a (List.mem_of_mem_take (i := j) (by rw [List.take_take, Nat.min_eq_left hj]; exact ha))).2
      rw [e1]
      exact S.ls j hj
end
end Eld
end L2

set_option Elab.async false
set_option linter.all false
set_option maxRecDepth 100000
set_option maxHeartbeats 4000000
/-! ## rooms in the heap -/
namespace L2
namespace Eld
open PySem PySem.Spec PyProof.Rows PySem.EldX
theorem valM_put {es : List MEnt} {k k' : Nd} {kv v : V} : valM (putM es k kv v) k' = if k' = k then some v else valM es k' := by
  have base : ∀ (l : List MEnt), valM (l.map fun e => if e.1 = k then (e.1, e.2.1, v) else e) k' = if k' = k then (valM l k).map (fun _ => v) else valM l k' := by
    intro l
    induction l with
    | nil => unfold valM; split <;> rfl
    | cons e l ih =>
      unfold valM at ih ⊢
      rw [List.map_cons, List.find?_cons, List.find?_cons, List.find?_cons]
      by_cases h1 : e.1 = k
      · rw [if_pos h1]
        by_cases h2 : k' = k
        · subst h2
          rw [decide_eq_true h1, if_pos rfl]
          rfl
        · have h3 : ¬ e.1 = k' := fun q => h2 (q.symm.trans h1)
          rw [if_neg h2] at ih ⊢
          rw [decide_eq_false h3]
          exact ih
      · rw [if_neg h1]
        by_cases h2 : k' = k
        · subst h2
          rw [if_pos rfl] at ih ⊢
          rw [decide_eq_false h1]
          exact ih
        · rw [if_neg h2] at ih ⊢
          by_cases h3 : e.1 = k'
          · rw [decide_eq_true h3]
          · rw [decide_eq_false h3]
            exact ih
  unfold putM
  cases e : valM es k with
  | some x =>
    rw [if_pos (show (some x).isSome = true from rfl), base, e]
    rfl
  | none =>
    rw [if_neg (show ¬ (none : Option V).isSome = true by decide)]
    unfold valM at e ⊢
    rw [List.find?_append]
    by_cases h : k' = k
    · subst h
      rw [if_pos rfl]
      have : (es.find? fun e => decide (e.1 = k')) = none := by
        cases q : es.find? fun e => decide (e.1 = k') with
        | none => rfl
        | some y => rw [q] at e; cases e
      rw [this]
      simp
    · rw [if_neg h]
      cases q : es.find? fun e => decide (e.1 = k') with
      | some y => rfl
      | none =>
        have h' : ¬ k = k' := fun z => h z.symm
        simp [h']
theorem valM_none {es : List MEnt} {k : Nd} : valM es k = none ↔ k ∉ es.map (·.1) := by
  unfold valM
  rw [Option.map_eq_none_iff, List.find?_eq_none, List.mem_map]
  constructor
  · rintro h ⟨e, he, rfl⟩
    exact h e he (decide_eq_true rfl)
  · intro h e he q
    exact h ⟨e, he, of_decide_eq_true q⟩
theorem valM_some_iff {es : List MEnt} {k : Nd} : (valM es k).isSome = true ↔ k ∈ es.map (·.1) := by
  constructor
  · intro h
    refine Classical.byContradiction fun z => ?_
    rw [valM_none.mpr z] at h
    cases h
  · intro h
    cases e : valM es k with
    | some x => rfl
    | none => exact absurd h (valM_none.mp e)
theorem putM_old {es : List MEnt} {k : Nd} {kv v : V} (h : (valM es k).isSome = true) : (putM es k kv v).map (·.1) = es.map (·.1) := by
  unfold putM
  rw [if_pos h, List.map_map]
  refine List.map_congr_left fun e _ => ?_
  show (if e.1 = k then (e.1, e.2.1, v) else e).1 = e.1
  split <;> rfl
theorem putM_new {es : List MEnt} {k : Nd} {kv v : V} (h : valM es k = none) : putM es k kv v = es ++ [(k, kv, v)] := by
  unfold putM
  rw [h]
  rfl
theorem putM_nodup {es : List MEnt} {k : Nd} {kv v : V} (n : (es.map (·.1)).Nodup) : ((putM es k kv v).map (·.1)).Nodup := by
  cases e : valM es k with
  | some x => rw [putM_old (by rw [e]; rfl)]; exact n
  | none =>
    rw [putM_new e, List.map_append, List.nodup_append]
    refine ⟨n, by simp, fun a ha b hb q => ?_⟩
    obtain rfl : b = k := by simpa using hb
    subst q
    exact valM_none.mp e ha
theorem putM_len {es : List MEnt} {k : Nd} {kv v : V} : (putM es k kv v).length ≤ es.length + 1 := length_putM _ _ _ _
theorem putM_len_old {es : List MEnt} {k : Nd} {kv v : V} (h : (valM es k).isSome = true) : (putM es k kv v).length = es.length := by
  unfold putM
  rw [if_pos h, List.length_map]
def KeysOk (H : Hp) (es : List MEnt) : Prop := ∀ e ∈ es, KeyIs H e.1 e.2.1
theorem KeysOk.put {H : Hp} {es : List MEnt} {k : Nd} {kv v : V} (h : KeysOk H es) (hk : KeyIs H k kv) : KeysOk H (putM es k kv v) := fun e he => by
  rcases mem_putM he with ⟨e', he', a, b⟩ | ⟨a, b⟩
  · rw [← a, ← b]
    exact h e' he'
  · rw [a, b]
    exact hk
/-- tuples stay -/
def TupKept (H H' : Hp) : Prop := ∀ b xs, H b = some (.tup xs) → H' b = some (.tup xs)
theorem KeysOk.same {H H' : Hp} {es : List MEnt} (h : KeysOk H es) (t : TupKept H H') : KeysOk H' es := fun e he => (h e he).same t
theorem TupKept.of_same {H H' : Hp} (s : Same H H') : TupKept H H' := fun b xs e => s b _ e
theorem TupKept.refl {H : Hp} : TupKept H H := fun b xs e => e
theorem TupKept.trans {H H' H2 : Hp} (a : TupKept H H') (b : TupKept H' H2) : TupKept H H2 := fun c xs e => b c xs (a c xs e)
theorem TupKept.mx {H : Hp} {w : World} {a b : Addr} {es es' : List MEnt} (h : H a = some (MxO w b es)) : TupKept H (upd H a (MxO w b es')) := fun c xs e => by
  by_cases z : c = a
  · subst z
    rw [h] at e
    cases e
  · rw [upd_ne z]
    exact e
theorem TupKept.lst {H : Hp} {a : Addr} {xs : List V} {o : HO} (h : H a = some (.lst xs)) : TupKept H (upd H a o) := fun c ys e => by
  by_cases z : c = a
  · subst z
    rw [h] at e
    cases e
  · rw [upd_ne z]
    exact e
/-- a row: a dict from places to numbers -/
structure RowAt (w : World) (H : Hp) (b : Addr) (N : Nat) (g : Nd → Option Int) (es : List MEnt) : Prop where
  at_ : H b = some (MxO w b es)
  keys : KeysOk H es
  nd : (es.map (·.1)).Nodup
  len : es.length ≤ N
  val : ∀ k, valM es k = (g k).map V.int
structure RoomAt (w : World) (H : Hp) (a : Addr) (N : Nat) (ad : Nd → Option Addr) (g : Nd → Nd → Option Int) : Prop where
  out : ∃ es : List MEnt, H a = some (MxO w a es) ∧ KeysOk H es ∧ (es.map (·.1)).Nodup ∧ es.length ≤ N ∧ ∀ k, valM es k = (ad k).map V.ref
  row : ∀ k b, ad k = some b → ∃ es, RowAt w H b N (g k) es
  inj : ∀ k k' b, ad k = some b → ad k' = some b → k = k'
  ne : ∀ k b, ad k = some b → b ≠ a
  emp : ∀ k, ad k = none → ∀ v, g k v = none
  cl : ∀ u v x, g u v = some x → (ad v).isSome = true
def InRoom (a : Addr) (ad : Nd → Option Addr) (b : Addr) : Prop := b = a ∨ ∃ k, ad k = some b
theorem RowAt.keep {w : World} {H H' : Hp} {b : Addr} {N : Nat} {g : Nd → Option Int} {es : List MEnt} (h : RowAt w H b N g es) (e : H' b = H b) (t : TupKept H H') : RowAt w H' b N g es := ⟨e.trans h.at_, h.keys.same t, h.nd, h.len, h.val⟩
theorem RowAt.le {w : World} {H : Hp} {b : Addr} {N M : Nat} {g : Nd → Option Int} {es : List MEnt} (h : RowAt w H b N g es) (l : N ≤ M) : RowAt w H b M g es := ⟨h.at_, h.keys, h.nd, Nat.le_trans h.len l, h.val⟩
theorem RoomAt.keep {w : World} {H H' : Hp} {a : Addr} {N : Nat} {ad : Nd → Option Addr} {g : Nd → Nd → Option Int} (R : RoomAt w H a N ad g) (e : ∀ b, InRoom a ad b → H' b = H b) (t : TupKept H H') : RoomAt w H' a N ad g := by
  obtain ⟨es, h1, h2, h3, h4, h5⟩ := R.out
  exact ⟨⟨es, (e a (.inl rfl)).trans h1, h2.same t, h3, h4, h5⟩, fun k b hb => let ⟨es, r⟩ := R.row k b hb; ⟨es, r.keep (e b (.inr ⟨k, hb⟩)) t⟩, R.inj, R.ne, R.emp, R.cl⟩
theorem RoomAt.has {w : World} {H : Hp} {a : Addr} {N : Nat} {ad : Nd → Option Addr} {g : Nd → Nd → Option Int} (R : RoomAt w H a N ad g) {b : Addr} (h : InRoom a ad b) : ∃ es, H b = some (MxO w b es) := by
  rcases h with rfl | ⟨k, hk⟩
  · obtain ⟨es, h1, _⟩ := R.out
    exact ⟨es, h1⟩
  · obtain ⟨es, r⟩ := R.row k b hk
    exact ⟨es, r.at_⟩
theorem RoomAt.same {w : World} {H H' : Hp} {a : Addr} {N : Nat} {ad : Nd → Option Addr} {g : Nd → Nd → Option Int} (R : RoomAt w H a N ad g) (s : Same H H') : RoomAt w H' a N ad g :=
  R.keep (fun b hb => by
    obtain ⟨es, e⟩ := R.has hb
    rw [e]
    exact s _ _ e) (.of_same s)
theorem RoomAt.le {w : World} {H : Hp} {a : Addr} {N M : Nat} {ad : Nd → Option Addr} {g : Nd → Nd → Option Int} (R : RoomAt w H a N ad g) (l : N ≤ M) : RoomAt w H a M ad g := by
  obtain ⟨es, h1, h2, h3, h4, h5⟩ := R.out
  exact ⟨⟨es, h1, h2, h3, Nat.le_trans h4 l, h5⟩, fun k b hb => let ⟨es, r⟩ := R.row k b hb; ⟨es, r.le l⟩, R.inj, R.ne, R.emp, R.cl⟩
/-- a place gets a row -/
theorem RoomAt.add {w : World} {H : Hp} {a p : Addr} {N : Nat} {ad : Nd → Option Addr} {g : Nd → Nd → Option Int} (R : RoomAt w H a N ad g) {k : Nd} {y : V} (hk : KeyIs H k y) (n : ad k = none) (hp : H p = none) {es : List MEnt} (he : H a = some (MxO w a es)) (hks : KeysOk H es) (hn : (es.map (·.1)).Nodup) (hl : es.length ≤ N) (hv : ∀ k, valM es k = (ad k).map V.ref) :
    RoomAt w (upd (upd H p (MxO w p [])) a (MxO w a (putM es k y (.ref p)))) a (N + 1) (fun x => if x = k then some p else ad x) g := by
  have pa : p ≠ a := fun e => by rw [e, he] at hp; cases hp
  have s1 : Same H (upd H p (MxO w p [])) := Same.fresh hp
  have t : TupKept H (upd (upd H p (MxO w p [])) a (MxO w a (putM es k y (.ref p)))) := (TupKept.of_same s1).trans (TupKept.mx (s1 _ _ he))
  have bp : ∀ x b, ad x = some b → b ≠ p := fun x b hb e => by
    obtain ⟨es, r⟩ := R.row x b hb
    rw [e] at r
    have := r.at_
    rw [hp] at this
    cases this
  refine ⟨⟨_, upd_same, (hks.put hk).same t, putM_nodup hn, Nat.le_trans putM_len (by omega), fun x => ?_⟩, fun x b hb => ?_, fun x x' b hb hb' => ?_, fun x b hb => ?_, fun x hx v => ?_, fun u v x hx => ?_⟩
  · rw [valM_put]
    by_cases z : x = k
    · rw [if_pos z, if_pos z]; rfl
    · rw [if_neg z, if_neg z]; exact hv x
  · revert hb
    intro hb
    by_cases z : x = k
    · rw [if_pos z] at hb
      cases hb
      refine ⟨[], ⟨by rw [upd_ne pa, upd_same], (fun e he => (nomatch he)), List.nodup_nil, Nat.zero_le _, fun v => ?_⟩⟩
      rw [z, R.emp k n v]
      rfl
    · rw [if_neg z] at hb
      obtain ⟨es', r⟩ := R.row x b hb
      exact ⟨es', (r.keep (by rw [upd_ne (R.ne x b hb), upd_ne (bp x b hb)]) t).le (Nat.le_succ _)⟩
  · revert hb hb'
    intro hb hb'
    by_cases z : x = k
    · rw [if_pos z] at hb
      cases hb
      by_cases z' : x' = k
      · rw [z, z']
      · rw [if_neg z'] at hb'
        exact absurd rfl (bp _ _ hb')
    · rw [if_neg z] at hb
      by_cases z' : x' = k
      · rw [if_pos z'] at hb'
        cases hb'
        exact absurd rfl (bp _ _ hb)
      · rw [if_neg z'] at hb'
        exact R.inj _ _ _ hb hb'
  · revert hb
    intro hb
    by_cases z : x = k
    · rw [if_pos z] at hb
      cases hb
      exact pa
    · rw [if_neg z] at hb
      exact R.ne x b hb
  · revert hx
    intro hx
    by_cases z : x = k
    · rw [if_pos z] at hx
      cases hx
    · rw [if_neg z] at hx
      exact R.emp x hx v
  · by_cases z : v = k
    · rw [if_pos z]; rfl
    · rw [if_neg z]
      exact R.cl u v x hx
def setG (g : Nd → Nd → Option Int) (k1 k2 : Nd) (c : Int) : Nd → Nd → Option Int := fun u v => if u = k1 ∧ v = k2 then some c else g u v
/-- a number is set in a row -/
theorem RoomAt.put {w : World} {H : Hp} {a b : Addr} {N : Nat} {ad : Nd → Option Addr} {g : Nd → Nd → Option Int} (R : RoomAt w H a N ad g) {k1 k2 : Nd} {y : V} {c : Int} (hb : ad k1 = some b) (hk : KeyIs H k2 y) (h2 : (ad k2).isSome = true) {es : List MEnt} (hr : RowAt w H b N (g k1) es) :
    RoomAt w (upd H b (MxO w b (putM es k2 y (.int c)))) a (N + 1) ad (setG g k1 k2 c) := by
  have t : TupKept H (upd H b (MxO w b (putM es k2 y (.int c)))) := TupKept.mx hr.at_
  obtain ⟨eo, o1, o2, o3, o4, o5⟩ := R.out
  refine ⟨⟨eo, by rw [upd_ne (Ne.symm (R.ne k1 b hb))]; exact o1, o2.same t, o3, by omega, o5⟩, fun x b' hb' => ?_, R.inj, R.ne, fun x hx v => ?_, fun u v x hx => ?_⟩
  · by_cases z : x = k1
    · subst z
      rw [hb] at hb'
      cases hb'
      refine ⟨_, upd_same, (hr.keys.put hk).same t, putM_nodup hr.nd, Nat.le_trans putM_len (by have := hr.len; omega), fun v => ?_⟩
      rw [valM_put]
      unfold setG
      by_cases z2 : v = k2
      · rw [if_pos z2, if_pos ⟨rfl, z2⟩]; rfl
      · rw [if_neg z2, if_neg fun q => z2 q.2]; exact hr.val v
    · obtain ⟨es', r⟩ := R.row x b' hb'
      have ne : b' ≠ b := fun e => z (R.inj _ _ _ hb' (e ▸ hb))
      have e : setG g k1 k2 c x = g x := by
        funext v
        unfold setG
        rw [if_neg fun q => z q.1]
      rw [e]
      exact ⟨es', (r.keep (upd_ne ne) t).le (Nat.le_succ _)⟩
  · unfold setG
    rw [if_neg fun q => ?_]
    · exact R.emp x hx v
    · rw [q.1, hb] at hx
      cases hx
  · unfold setG at hx
    by_cases z : u = k1 ∧ v = k2
    · rw [z.2]; exact h2
    · rw [if_neg z] at hx
      exact R.cl u v x hx
/-- .. where one stood: the row grows no longer -/
theorem RoomAt.re {w : World} {H : Hp} {a b : Addr} {N : Nat} {ad : Nd → Option Addr} {g : Nd → Nd → Option Int} (R : RoomAt w H a N ad g) {k1 k2 : Nd} {y : V} {c d : Int} (hb : ad k1 = some b) (hk : KeyIs H k2 y) (h2 : g k1 k2 = some d) {es : List MEnt} (hr : RowAt w H b N (g k1) es) :
    RoomAt w (upd H b (MxO w b (putM es k2 y (.int c)))) a N ad (setG g k1 k2 c) := by
  have hv : (valM es k2).isSome = true := by rw [hr.val k2, h2]; rfl
  have Q := R.put (c := c) hb hk (R.cl _ _ _ h2) hr
  have t : TupKept H (upd H b (MxO w b (putM es k2 y (.int c)))) := TupKept.mx hr.at_
  obtain ⟨eo, o1, o2, o3, o4, o5⟩ := R.out
  refine ⟨⟨eo, by rw [upd_ne (Ne.symm (R.ne k1 b hb))]; exact o1, o2.same t, o3, o4, o5⟩, fun x b' hb' => ?_, Q.inj, Q.ne, Q.emp, Q.cl⟩
  by_cases z : x = k1
  · subst z
    rw [hb] at hb'
    cases hb'
    refine ⟨_, upd_same, (hr.keys.put hk).same t, putM_nodup hr.nd, by rw [putM_len_old hv]; exact hr.len, fun v => ?_⟩
    rw [valM_put]
    unfold setG
    by_cases z2 : v = k2
    · rw [if_pos z2, if_pos ⟨rfl, z2⟩]; rfl
    · rw [if_neg z2, if_neg fun q => z2 q.2]; exact hr.val v
  · obtain ⟨es', r⟩ := R.row x b' hb'
    have ne : b' ≠ b := fun e => z (R.inj _ _ _ hb' (e ▸ hb))
    have e : setG g k1 k2 c x = g x := by
      funext v
      unfold setG
      rw [if_neg fun q => z q.1]
    rw [e]
    exact ⟨es', r.keep (upd_ne ne) t⟩
abbrev gD (g : Nd → Nd → Option Int) : Res := fun u v => (g u v).getD 0
end Eld
end L2



set_option Elab.async false
set_option linter.all false
set_option maxRecDepth 100000
set_option maxHeartbeats 4000000
/-! ## widen -/
namespace L2
namespace Eld
open PySem PySem.Spec PyProof.Rows PySem.EldX
/-- what a room holds is another, what else stands is as it was -/
structure RoomKept (a : Addr) (ad ad' : Nd → Option Addr) (H H' : Hp) : Prop where
  kept : ∀ b o, ¬ InRoom a ad b → H b = some o → H' b = some o
  new : ∀ k b, ad' k = some b → ad k = some b ∨ (ad k = none ∧ H b = none)
  old : ∀ k b, ad k = some b → ad' k = some b
  mono : ∀ b, H' b = none → H b = none
theorem RoomKept.tup {w : World} {a : Addr} {ad ad' : Nd → Option Addr} {H H' : Hp} {N : Nat} {g : Nd → Nd → Option Int} (h : RoomKept a ad ad' H H') (R : RoomAt w H a N ad g) : TupKept H H' := fun b xs e => h.kept b _ (fun z => by
  obtain ⟨es, e'⟩ := R.has z
  rw [e] at e'
  cases e') e
theorem RoomKept.trans {a : Addr} {ad ad' ad2 : Nd → Option Addr} {H H' H2 : Hp} (x : RoomKept a ad ad' H H') (y : RoomKept a ad' ad2 H' H2) : RoomKept a ad ad2 H H2 := by
  refine ⟨fun b o n e => ?_, fun k b e => ?_, fun k b e => y.old k b (x.old k b e), fun b e => x.mono b (y.mono b e)⟩
  · refine y.kept b o (fun z => ?_) (x.kept b o n e)
    rcases z with z | ⟨k, z⟩
    · exact n (.inl z)
    · rcases x.new k b z with q | ⟨_, q⟩
      · exact n (.inr ⟨k, q⟩)
      · rw [q] at e
        cases e
  · rcases y.new k b e with z | ⟨z, q⟩
    · exact x.new k b z
    · refine .inr ⟨?_, x.mono b q⟩
      cases e0 : ad k with
      | none => rfl
      | some c =>
        rw [x.old k c e0] at z
        cases z
theorem RoomKept.refl {a : Addr} {ad : Nd → Option Addr} {H : Hp} : RoomKept a ad ad H H := ⟨fun _ _ _ e => e, fun _ _ e => .inl e, fun _ _ e => e, fun _ e => e⟩
theorem RoomKept.of_same {a : Addr} {ad : Nd → Option Addr} {H H' : Hp} (s : Same H H') : RoomKept a ad ad H H' := ⟨fun _ _ _ e => s _ _ e, fun _ _ e => .inl e, fun _ _ e => e, fun _ e => none_of_same s e⟩
theorem RoomKept.of_in {a : Addr} {ad : Nd → Option Addr} {H : Hp} {b : Addr} {o : HO} (h : InRoom a ad b) : RoomKept a ad ad H (upd H b o) := ⟨fun c q n e => by
  rw [upd_ne fun z => n (by rw [z]; exact h)]
  exact e, fun _ _ e => .inl e, fun _ _ e => e, fun c e => by
  by_cases z : c = b
  · subst z
    rw [upd_same] at e
    cases e
  · rwa [upd_ne z] at e⟩
def widG (g : Nd → Nd → Option Int) (k1 k2 : Nd) (m : Int) : Nd → Nd → Option Int := fun u v => if u = k1 ∧ v = k2 then some ((g u v).getD 0 + m) else if u = k2 ∧ v = k1 then some ((g u v).getD 0) else g u v
section
variable {P : Program} {w : World} {K : PySem.W.Frag} {mg : Str → Option Value} {base : Heap}
def spWiden (w : World) : Sp := fun vs H Q _ => ∃ (a : Addr) (N : Nat) (ad : Nd → Option Addr) (g : Nd → Nd → Option Int) (k1 k2 : Nd) (y1 y2 : V) (m : Int), vs = [.ref a, y1, y2, .int m] ∧ RoomAt w H a N ad g ∧ KeyIs H k1 y1 ∧ KeyIs H k2 y2 ∧ k1 ≠ k2 ∧ N + 4 < sizeLine ∧
  ∀ (H' : Hp) (ad' : Nd → Option Addr), RoomAt w H' a (N + 4) ad' (widG g k1 k2 m) → RoomKept a ad ad' H H' → Q .non H'
/-- room.setdefault(k, {}) -/
theorem setdef_room {w : World} {H : Hp} {a : Addr} {N : Nat} {ad : Nd → Option Addr} {g : Nd → Nd → Option Int} (R : RoomAt w H a N ad g) {k : Nd} {y : V} (hk : KeyIs H k y) (hz : N + 1 < sizeLine) {Q : VK}
    (h : ∀ H' ad' b, RoomAt w H' a (N + 1) ad' g → RoomKept a ad ad' H H' → ad' k = some b → Q (.ref b) H') :
    ∃ es, MxAt w H a es ∧ ∀ p, H p = none → ∃ es' k', (upd H p (MxO w p [])) a = some (MxO w a es') ∧ (∀ e ∈ es', KeyIs (upd H p (MxO w p [])) e.1 e.2.1) ∧ es'.length < sizeLine ∧ KeyIs (upd H p (MxO w p [])) k' y ∧
      (∀ v, valM es' k' = some v → Q v (upd H p (MxO w p []))) ∧ (valM es' k' = none → Q (.ref p) (upd (upd H p (MxO w p [])) a (MxO w a (putM es' k' y (.ref p))))) := by
  obtain ⟨es, e1, e2, e3, e4, e5⟩ := R.out
  refine ⟨es, ⟨.inl e1, e2⟩, fun p hp => ?_⟩
  have s1 : Same H (upd H p (MxO w p [])) := Same.fresh hp
  have t1 := TupKept.of_same s1
  refine ⟨es, k, s1 _ _ e1, e2.same t1, by omega, hk.same t1, fun v hv => ?_, fun hn => ?_⟩
  · rw [e5] at hv
    cases e6 : ad k with
    | none => rw [e6] at hv; cases hv
    | some b =>
      rw [e6] at hv
      cases hv
      exact h _ ad b ((R.same s1).le (Nat.le_succ _)) (RoomKept.of_same s1) e6
  · have n : ad k = none := by
      cases e6 : ad k with
      | none => rfl
      | some b => rw [e5, e6] at hn; cases hn
    refine h _ _ p (R.add hk n hp e1 e2 e3 e4 e5) ⟨fun b o nb e => ?_, fun x b e => ?_, fun x b e => ?_, fun b e => ?_⟩ (if_pos rfl)
    · rw [upd_ne fun z => nb (.inl z)]
      exact s1 _ _ e
    · have e : (if x = k then some p else ad x) = some b := e
      by_cases z : x = k
      · subst z
        rw [if_pos rfl] at e
        cases e
        exact .inr ⟨n, hp⟩
      · rw [if_neg z] at e
        exact .inl e
    · show (if x = k then some p else ad x) = some b
      rw [if_neg]
      · exact e
      · intro z
        subst z
        rw [n] at e
        cases e
    · by_cases z : b = a
      · subst z
        rw [upd_same] at e
        cases e
      · rw [upd_ne z] at e
        exact none_of_same s1 e
theorem mdef_room {w : World} {H : Hp} {a : Addr} {N : Nat} {ad : Nd → Option Addr} {g : Nd → Nd → Option Int} (R : RoomAt w H a N ad g) {k : Nd} {y : V} (hk : KeyIs H k y) (hz : N + 1 < sizeLine) {td ty : TE} {σ : St} {Q : VK} (htd : ∀ Q' : VK, Q' (.ref a) H → td σ H Q') (hty : ∀ Q' : VK, Q' y H → ty σ H Q')
    (h : ∀ H' ad' b, RoomAt w H' a (N + 1) ad' g → RoomKept a ad ad' H H' → ad' k = some b → Q (.ref b) H') : tMDef w td ty (tMNew w) σ H Q := by
  obtain ⟨es, mx, st⟩ := setdef_room R hk hz h
  exact htd _ ⟨a, es, rfl, mx, hty _ fun p hp => st p hp⟩
theorem MxO_at {w : World} {H : Hp} {b : Addr} {N : Nat} {g : Nd → Option Int} {es : List MEnt} (r : RowAt w H b N g es) : MxAt w H b es := ⟨.inl r.at_, r.keys⟩
theorem getD_map {o : Option Int} {c : Int} : (o.map V.int).getD (.int c) = .int (o.getD c) := by cases o <;> rfl
theorem hu9 {A : Around} {k : Nat} (hr : L2.Room k A) : A.units + 9 < cLine := Nat.lt_of_le_of_lt (Nat.add_le_add_left (by decide : 9 ≤ 64) _) hr.units
theorem ok_widen {f : Addr} {fd : FuncData} (F : Fun K "widen" "widen" sWiden f fd) : FnOk P w K mg base CX0 1 f fd ["room", "one", "other", "many"] (spWiden w) := by
  refine F.ok scWiden (fun vs H Q E h => ?_) (fun cdv A outer s H vs Q E hr h => ?_)
  · obtain ⟨a, N, ad, g, k1, k2, y1, y2, m, rfl, _⟩ := h
    rfl
  · obtain ⟨a, N, ad, g, k1, k2, y1, y2, m, rfl, R, hk1, hk2, ne, hz, q⟩ := h
    refine ⟨_, (pss_cons (ps_set (i := 4) scWiden.nd rfl (.inl rfl) (pe_mdef (hu9 hr) (pv 0) (pv 1) pe_mnew ⟨rfl, rfl, rfl, rfl⟩))
      (pss_cons (ps_set (i := 5) scWiden.nd rfl (.inl rfl) (pe_mdef (hu9 hr) (pv 0) (pv 2) pe_mnew ⟨rfl, rfl, rfl, rfl⟩))
      (pss_cons (ps_mput (hu9 hr) (pv 4) (pv 2) (pe_op op_add (pe_mget2 (hu9 hr) (pv 4) (pv 2) pe_int ⟨rfl, rfl, rfl, rfl⟩) (pv 3)) rfl)
      (pss_one (ps_mput (hu9 hr) (pv 5) (pv 1) (pe_mget2 (hu9 hr) (pv 5) (pv 1) pe_int ⟨rfl, rfl, rfl, rfl⟩) rfl))))), ?_⟩
    refine mdef_room R hk1 (by omega) (fun Q' z => ⟨_, rfl, z⟩) (fun Q' z => ⟨_, rfl, z⟩) fun H1 ad1 b1 R1 k1' e1 => ?_
    show tMDef w (tVar 0) (tVar 2) (tMNew w) [some (.ref a), some y1, some y2, some (.int m), some (.ref b1), none] H1 _
    refine mdef_room R1 (hk2.same (k1'.tup R)) (by omega) (fun Q' z => ⟨_, rfl, z⟩) (fun Q' z => ⟨_, rfl, z⟩) fun H2 ad2 b2 R2 k2' e2 => ?_
    have kk := k1'.trans k2'
    have e1' := k2'.old _ _ e1
    have hk2' := hk2.same (kk.tup R)
    have hk1' := hk1.same (kk.tup R)
    obtain ⟨es1, r1⟩ := R2.row _ _ e1'
    have l1 := r1.len
    refine ⟨.ref b1, rfl, b1, es1, rfl, MxO_at r1, y2, rfl, es1, k2, MxO_at r1, hk2', .int m, rfl, (g k1 k2).getD 0, m, by rw [r1.val]; exact getD_map, rfl, .ref b1, rfl, y2, rfl, b1, es1, k2, rfl, r1.at_, r1.keys, by omega, hk2', ?_⟩
    have R3 := R2.put (c := (g k1 k2).getD 0 + m) e1' hk2' (by rw [e2]; rfl) r1
    have kk3 := kk.trans (RoomKept.of_in (o := MxO w b1 (putM es1 k2 y2 (.int ((g k1 k2).getD 0 + m)))) (.inr ⟨k1, e1'⟩))
    have hk1'' := hk1.same (kk3.tup R)
    obtain ⟨es2, r2⟩ := R3.row _ _ e2
    have l2 := r2.len
    refine ⟨.ref b2, rfl, b2, es2, rfl, MxO_at r2, y1, rfl, es2, k1, MxO_at r2, hk1'', .ref b2, rfl, y1, rfl, b2, es2, k1, rfl, r2.at_, r2.keys, by omega, hk1'', ?_⟩
    have R4 := R3.put (c := (setG g k1 k2 ((g k1 k2).getD 0 + m) k2 k1).getD 0) e2 hk1'' (by rw [e1']; rfl) r2
    have ev : (valM es2 k1).getD (V.int 0) = V.int ((setG g k1 k2 ((g k1 k2).getD 0 + m) k2 k1).getD 0) := by rw [r2.val]; exact getD_map
    have eg : setG (setG g k1 k2 ((g k1 k2).getD 0 + m)) k2 k1 ((setG g k1 k2 ((g k1 k2).getD 0 + m) k2 k1).getD 0) = widG g k1 k2 m := by
      funext u v
      unfold setG widG
      by_cases z : u = k1 ∧ v = k2
      · rw [if_pos z, if_neg (c := u = k2 ∧ v = k1) fun q => ne (z.1.symm.trans q.1), if_pos z, z.1, z.2]
      · rw [if_neg z]
        by_cases z2 : u = k2 ∧ v = k1
        · obtain ⟨rfl, rfl⟩ := z2
          rw [if_pos (c := u = u ∧ v = v) ⟨rfl, rfl⟩, if_pos (c := u = u ∧ v = v) ⟨rfl, rfl⟩, if_neg z, if_neg z]
        · rw [if_neg z2, if_neg z2, if_neg z]
    rw [eg] at R4
    show Q .non (upd _ b2 (MxO w b2 (putM es2 k1 y1 ((valM es2 k1).getD (V.int 0)))))
    rw [ev]
    exact q _ ad2 R4 (kk3.trans (RoomKept.of_in (.inr ⟨k2, e2⟩)))
end
end Eld
end L2

set_option Elab.async false
set_option linter.all false
set_option maxRecDepth 100000
set_option maxHeartbeats 4000000
/-! ## who came from where, the steps of a way -/
namespace L2
namespace Eld
open PySem PySem.Spec PyProof.Rows PySem.EldX
abbrev Que := List (Nd × Option Nd)
def PredIs (H : Hp) : Option Nd → V → Prop
  | none, v => v = .non
  | some u, v => KeyIs H u v
theorem PredIs.same {H H' : Hp} {o : Option Nd} {v : V} (h : PredIs H o v) (t : TupKept H H') : PredIs H' o v := by
  cases o with
  | none => exact h
  | some u => exact KeyIs.same h t
structure CameAt (w : World) (H : Hp) (c : Addr) (q : Que) (es : List MEnt) : Prop where
  at_ : H c = some (MxO w c es)
  keys : KeysOk H es
  rel : Paired (fun (e : MEnt) (x : Nd × Option Nd) => e.1 = x.1 ∧ PredIs H x.2 e.2.2) es q
theorem paired_mono {α β : Type} {R S : α → β → Prop} {l : List α} {m : List β} (h : Paired R l m) (f : ∀ a b, R a b → S a b) : Paired S l m := by
  induction h with
  | nil => exact .nil
  | cons h _ ih => exact .cons (f _ _ h) ih
theorem CameAt.keep {w : World} {H H' : Hp} {c : Addr} {q : Que} {es : List MEnt} (h : CameAt w H c q es) (e : H' c = some (MxO w c es)) (t : TupKept H H') : CameAt w H' c q es := ⟨e, h.keys.same t, paired_mono h.rel fun _ _ x => ⟨x.1, x.2.same t⟩⟩
theorem CameAt.same {w : World} {H H' : Hp} {c : Addr} {q : Que} {es : List MEnt} (h : CameAt w H c q es) (s : Same H H') : CameAt w H' c q es := h.keep (s _ _ h.at_) (.of_same s)
theorem CameAt.mx {w : World} {H : Hp} {c : Addr} {q : Que} {es : List MEnt} (h : CameAt w H c q es) : MxAt w H c es := ⟨.inl h.at_, h.keys⟩
theorem CameAt.len {w : World} {H : Hp} {c : Addr} {q : Que} {es : List MEnt} (h : CameAt w H c q es) : es.length = q.length := Paired.length h.rel
def look (q : Que) (v : Nd) : Option (Option Nd) := (q.find? fun x => decide (x.1 = v)).map (·.2)
theorem came_val {H : Hp} {es : List MEnt} {q : Que} (h : Paired (fun (e : MEnt) (x : Nd × Option Nd) => e.1 = x.1 ∧ PredIs H x.2 e.2.2) es q) (v : Nd) : (look q v = none ∧ valM es v = none) ∨ ∃ o y, look q v = some o ∧ valM es v = some y ∧ PredIs H o y := by
  unfold look valM
  induction h with
  | nil => exact .inl ⟨rfl, rfl⟩
  | @cons e x es q h _ ih =>
    rw [List.find?_cons, List.find?_cons]
    by_cases z : x.1 = v
    · rw [decide_eq_true (show e.1 = v from h.1.trans z), decide_eq_true z]
      exact .inr ⟨_, _, rfl, rfl, h.2⟩
    · rw [decide_eq_false (show ¬ e.1 = v from fun q => z (h.1.symm.trans q)), decide_eq_false z]
      exact ih
/-- the way that the row of who came tells, its last step first -/
inductive WayQ (q : Que) : Nd → List Step → Prop
  | here {v : Nd} : look q v = some none → WayQ q v []
  | up {u v : Nd} {l : List Step} : look q v = some (some u) → WayQ q u l → WayQ q v ((u, v) :: l)
def StepIs (H : Hp) (t : Addr) (s : Step) : Prop := ∃ y1 y2, H t = some (.tup [y1, y2]) ∧ KeyIs H s.1 y1 ∧ KeyIs H s.2 y2
theorem StepIs.same {H H' : Hp} {t : Addr} {s : Step} (h : StepIs H t s) (k : TupKept H H') : StepIs H' t s := by
  obtain ⟨y1, y2, h1, h2, h3⟩ := h
  exact ⟨y1, y2, k _ _ h1, h2.same k, h3.same k⟩
theorem key_notNon {H : Hp} {k : Nd} {v : V} (h : KeyIs H k v) : v ≠ .non := fun e => by
  subst e
  rcases h with ⟨x, _, q⟩ | ⟨a, xs, _, q, _⟩ <;> cases q
section
variable {P : Program} {w : World} {K : PySem.W.Frag} {mg : Str → Option Value} {base : Heap}
def spSteps (w : World) : Sp := fun vs H Q _ => ∃ (c : Addr) (q : Que) (es : List MEnt) (v : Nd) (y : V) (l : List Step), vs = [.ref c, y] ∧ CameAt w H c q es ∧ KeyIs H v y ∧ WayQ q v l ∧ l.length < sizeLine ∧
  ∀ (H' : Hp) (p : Addr) (ts : List Addr), Same H H' → H p = none → H' p = some (.lst (ts.map V.ref)) → Paired (StepIs H') ts l → Q (.ref p) H'
theorem ok_steps {f : Addr} {fd : FuncData} (F : Fun K "_steps" "_steps" sSteps f fd) : FnOk P w K mg base CX0 1 f fd ["came", "end"] (spSteps w) := by
  refine F.ok scSteps (fun vs H Q E h => ?_) (fun cdv A outer s H vs Q E hr h => ?_)
  · obtain ⟨c, q, es, v, y, l, rfl, _⟩ := h
    rfl
  · obtain ⟨c, q, es, v, y, l, rfl, hc, hk, hw, hz, qq⟩ := h
    refine ⟨_, (pss_cons (ps_set (i := 2) scSteps.nd rfl (.inl rfl) (pe_lst pa_nil))
      (pss_cons (ps_set (i := 3) scSteps.nd rfl (.inl rfl) (pv 1))
      (pss_cons (ps_while PassesOwn.never (pt_cmp (pc_notN (pe_mget (hu9 hr) (pv 0) (pv 3) (fun _ _ => rfl))))
        (pss_cons (ps_expr (pe_bm PySem.F.plainAttrs_list PySem.F.slot_list_append PySem.F.type_list_append mt_append (pv 2) (pa_cons (pe_tup (pa_cons (pe_mget (hu9 hr) (pv 0) (pv 3) (fun _ _ => rfl)) (pa_cons (pv 3) pa_nil))) pa_nil)))
      (pss_one (ps_set (i := 3) scSteps.nd rfl (.inl rfl) (pe_mget (hu9 hr) (pv 0) (pv 3) (fun _ _ => rfl))))))
      (pss_one (ps_ret (pv 2)))))), ?_⟩
    refine ⟨(by show 0 ≤ sizeLine; decide), fun fp nfp => ?_⟩
    have s1 := Same.fresh (o := .lst []) nfp
    refine ⟨y, rfl, fun m σ H' => ∃ (v' : Nd) (y' : V) (pre rest : List Step) (ts : List Addr), l = pre ++ rest ∧ m = rest.length ∧ σ = [some (.ref c), some y, some (.ref fp), some y'] ∧ Same H H' ∧ KeyIs H' v' y' ∧ WayQ q v' rest ∧ H' fp = some (.lst (ts.map V.ref)) ∧ Paired (StepIs H') ts pre,
      ⟨l.length, v, y, [], l, [], rfl, rfl, rfl, s1, hk.same (TupKept.of_same s1), hw, upd_same, .nil⟩, ?_⟩
    rintro m σ H' ⟨v', y', pre, rest, ts, e1, e2, rfl, sm, hk', hw', e3, hp⟩
    have hc' := hc.same sm
    cases hw' with
    | here hl =>
      rcases came_val hc'.rel v' with ⟨z, _⟩ | ⟨o, pv, z1, z2, z3⟩
      · rw [hl] at z; cases z
      rw [hl] at z1
      cases z1
      have z3 : pv = .non := z3
      subst z3
      refine ⟨.ref c, rfl, y', rfl, c, es, v', .non, rfl, hc'.mx, hk', z2, false, rfl, iteF ⟨.ref fp, rfl, ?_⟩⟩
      rw [List.append_nil] at e1
      subst e1
      exact qq H' fp ts sm nfp e3 hp
    | @up u _ r hl hr' =>
      rcases came_val hc'.rel v' with ⟨z, _⟩ | ⟨o, pv, z1, z2, z3⟩
      · rw [hl] at z; cases z
      rw [hl] at z1
      cases z1
      have z3 : KeyIs H' u pv := z3
      refine ⟨.ref c, rfl, y', rfl, c, es, v', pv, rfl, hc'.mx, hk', z2, true, by rw [decide_eq_false (key_notNon z3)]; rfl, iteT ⟨fun σ' H2 => ∃ m', m' < m ∧ _, fun σ' H2 h => h, ?_⟩⟩
      refine ⟨.ref fp, rfl, .inl ⟨rfl, _, SqL.of e3⟩, .ref c, rfl, y', rfl, c, es, v', pv, rfl, hc'.mx, hk', z2, y', rfl, (by show 2 ≤ sizeLine; decide), fun p np => ?_⟩
      have s2 : Same H' (upd H' p (.tup [pv, y'])) := Same.fresh np
      have nfp' : fp ≠ p := fun z => by rw [← z, e3] at np; cases np
      have lt : ts.length = pre.length := Paired.length hp
      have ll : pre.length < sizeLine := by
        rw [e1, List.length_append] at hz
        omega
      refine ⟨fp, _, _, rfl, rfl, s2 _ _ e3, by rw [List.length_map, lt]; exact ll, ?_⟩
      have t3 : TupKept H' (upd (upd H' p (.tup [pv, y'])) fp (.lst (ts.map V.ref ++ [.ref p]))) := (TupKept.of_same s2).trans (TupKept.lst (s2 _ _ e3))
      have s3 : Same H (upd (upd H' p (.tup [pv, y'])) fp (.lst (ts.map V.ref ++ [.ref p]))) := (sm.trans s2).put nfp
      have hc3 := hc.same s3
      have hk3 := hk'.same t3
      have z3' := z3.same t3
      refine ⟨.ref c, rfl, y', rfl, c, es, v', pv, rfl, hc3.mx, hk3, z2, ?_⟩
      refine ⟨r.length, by rw [e2]; exact Nat.lt_succ_self _, u, pv, pre ++ [(u, v')], r, ts ++ [p], by rw [e1, List.append_assoc]; rfl, rfl, rfl, s3, z3', hr', by rw [upd_same]; simp, ?_⟩
      refine Paired.snoc (paired_mono hp fun a b h => h.same t3) ⟨pv, y', ?_, z3', hk3⟩
      rw [upd_ne (Ne.symm nfp'), upd_same]
end
end Eld
end L2

set_option Elab.async false
set_option linter.all false
set_option maxRecDepth 100000
set_option maxHeartbeats 4000000
/-! ## rows of who came from where -/
namespace L2
namespace Eld
open PySem PySem.Spec PyProof.Rows PySem.EldX
abbrev fsts (q : Que) : List Nd := q.map (·.1)
inductive Grown (r : Res) : Que → Prop
  | one : Grown r [(nS, none)]
  | more {q : Que} {u v : Nd} : Grown r q → u ∈ fsts q → v ∉ fsts q → 0 < r u v → Grown r (q ++ [(v, some u)])
theorem look_none {q : Que} {v : Nd} : look q v = none ↔ v ∉ fsts q := by
  unfold look
  rw [Option.map_eq_none_iff, List.find?_eq_none, List.mem_map]
  constructor
  · rintro h ⟨e, he, rfl⟩
    exact h e he (decide_eq_true rfl)
  · intro h e he q
    exact h ⟨e, he, of_decide_eq_true q⟩
theorem look_old {q p : Que} {v : Nd} (h : v ∈ fsts q) : look (q ++ p) v = look q v := by
  unfold look
  rw [List.find?_append]
  cases e : q.find? fun x => decide (x.1 = v) with
  | some x => rfl
  | none => exact absurd h (look_none.mp (by unfold look; rw [e]; rfl))
theorem look_new {q : Que} {v : Nd} {o : Option Nd} (h : v ∉ fsts q) : look (q ++ [(v, o)]) v = some o := by
  have := look_none.mpr h
  unfold look at this ⊢
  rw [List.find?_append]
  rw [Option.map_eq_none_iff] at this
  rw [this]
  simp
theorem WayQ.old {q p : Que} {v : Nd} {l : List Step} (h : WayQ q v l) : WayQ (q ++ p) v l := by
  have in_ : ∀ {v : Nd} {o : Option Nd}, look q v = some o → v ∈ fsts q := fun {v o} e => Classical.byContradiction fun z => by
    rw [look_none.mpr z] at e
    cases e
  induction h with
  | here e => exact .here (by rw [look_old (in_ e)]; exact e)
  | up e _ ih => exact .up (by rw [look_old (in_ e)]; exact e) ih
structure Walks (r : Res) (q : Que) (v : Nd) (l : List Step) : Prop where
  wq : WayQ q v l
  way : Way nS v l
  nd : l.Nodup
  ok : ∀ s ∈ l, 0 < r s.1 s.2 ∧ s.2 ≠ nS ∧ s.2 ∈ fsts q
  len : l.length < q.length
section
variable {r : Res} {q : Que}
theorem Grown.start (h : Grown r q) : nS ∈ fsts q := by
  induction h with
  | one => exact List.mem_cons_self
  | more _ _ _ _ ih => rw [fsts, List.map_append]; exact List.mem_append_left _ ih
theorem Grown.nodup (h : Grown r q) : (fsts q).Nodup := by
  induction h with
  | one => simp
  | more _ _ n _ ih =>
    rw [fsts, List.map_append, List.nodup_append]
    exact ⟨ih, by simp, fun a ha b hb e => n (by
      obtain rfl : b = _ := by simpa using hb
      exact e ▸ ha)⟩
theorem Grown.walk (h : Grown r q) : ∀ v ∈ fsts q, ∃ l, Walks r q v l := by
  induction h with
  | one =>
    intro v hv
    obtain rfl : v = nS := by simpa using hv
    exact ⟨[], .here rfl, .here, List.nodup_nil, (fun s hs => nomatch hs), by decide⟩
  | @more q u v g hu hn p ih =>
    have old : ∀ x l, Walks r q x l → Walks r (q ++ [(v, some u)]) x l := fun x l W => ⟨W.wq.old, W.way, W.nd, fun s hs => ⟨(W.ok s hs).1, (W.ok s hs).2.1, by
      rw [fsts, List.map_append]
      exact List.mem_append_left _ (W.ok s hs).2.2⟩, by
      have := W.len
      rw [List.length_append]
      omega⟩
    intro x hx
    rw [fsts, List.map_append] at hx
    rcases List.mem_append.mp hx with hx | hx
    · obtain ⟨l, W⟩ := ih x hx
      exact ⟨l, old x l W⟩
    · obtain rfl : x = v := by simpa using hx
      obtain ⟨l, W⟩ := ih u hu
      have W' := old u l W
      refine ⟨(u, x) :: l, .up (look_new hn) W'.wq, .up W'.way, List.nodup_cons.mpr ⟨fun m => hn (W.ok _ m).2.2, W'.nd⟩, fun s hs => ?_, ?_⟩
      · rcases List.mem_cons.mp hs with rfl | hs
        · refine ⟨p, fun e => hn (by have e : x = nS := e; rw [e]; exact g.start), ?_⟩
          show x ∈ List.map _ _
          rw [List.map_append]
          exact List.mem_append_right _ (by simp)
        · exact W'.ok s hs
      · have := W.len
        rw [List.length_cons, List.length_append, List.length_cons]
        exact Nat.succ_lt_succ this
theorem Grown.rch (h : Grown r q) (e : nE ∉ fsts q) (cl : ∀ u v, u ∈ fsts q → 0 < r u v → v ∈ fsts q) : Rch r (· ∈ fsts q) := by
  refine ⟨h.start, e, cl, ?_⟩
  clear e cl
  induction h with
  | one =>
    intro v hv n
    obtain rfl : v = nS := by simpa using hv
    exact absurd rfl n
  | @more q u v g hu hn p ih =>
    intro x hx n
    rw [fsts, List.map_append] at hx ⊢
    rcases List.mem_append.mp hx with hx | hx
    · obtain ⟨y, hy, py⟩ := ih x hx n
      exact ⟨y, List.mem_append_left _ hy, py⟩
    · obtain rfl : x = v := by simpa using hx
      exact ⟨u, List.mem_append_left _ hu, p⟩
theorem Grown.free (h : Grown r q) (e : nE ∈ fsts q) : ∃ l, Free r l ∧ WayQ q nE l ∧ l.length < q.length ∧ l ≠ [] := by
  obtain ⟨l, W⟩ := h.walk _ e
  refine ⟨l, ⟨W.way, W.nd, fun s hs => (W.ok s hs).1, fun s hs => (W.ok s hs).2.1⟩, W.wq, W.len, fun z => ?_⟩
  subst z
  have := W.way
  generalize hx : nE = x at this
  cases this
  exact nS_nE hx.symm
end
theorem nodup_leG {α : Type} [DecidableEq α] : ∀ (l m : List α), l.Nodup → (∀ y ∈ l, y ∈ m) → l.length ≤ m.length
  | [], _, _, _ => Nat.zero_le _
  | x :: l, m, hn, hm => by
    obtain ⟨a, b, rfl⟩ := List.append_of_mem (hm x (List.mem_cons_self ..))
    rw [List.nodup_cons] at hn
    have := nodup_leG l (a ++ b) hn.2 fun y hy => by
      rcases List.mem_append.mp (hm y (List.mem_cons_of_mem _ hy)) with h | h
      · exact List.mem_append_left _ h
      · rcases List.mem_cons.mp h with h | h
        · subst h
          exact absurd hy hn.1
        · exact List.mem_append_right _ h
    rw [List.length_append] at this
    rw [List.length_cons, List.length_append, List.length_cons]
    omega
theorem RoomAt.few {w : World} {H : Hp} {a : Addr} {N : Nat} {ad : Nd → Option Addr} {g : Nd → Nd → Option Int} (R : RoomAt w H a N ad g) {l : List Nd} (hn : l.Nodup) (h : ∀ v ∈ l, (ad v).isSome = true) : l.length ≤ N := by
  obtain ⟨es, e1, e2, e3, e4, e5⟩ := R.out
  have := nodup_leG l (es.map (·.1)) hn fun v hv => valM_some_iff.mp (by
    rw [e5, Option.isSome_map]
    exact h v hv)
  rw [List.length_map] at this
  omega
theorem RoomAt.kept {w : World} {H H' : Hp} {a : Addr} {N : Nat} {ad : Nd → Option Addr} {g : Nd → Nd → Option Int} (R : RoomAt w H a N ad g) {S : Addr → Prop} (k : Kept S H H') (n : ∀ b, InRoom a ad b → ¬ S b) (t : TupKept H H') : RoomAt w H' a N ad g :=
  R.keep (fun b hb => by
    obtain ⟨es, e⟩ := R.has hb
    rw [e]
    exact k b _ (n b hb) e) t
/-- the keys of a row that is locked -/
def YM (es : List MEnt) : Nat → Hp → V → Hp → Prop := fun i H x H' => H' = H ∧ ∃ e : MEnt, es[i]? = some e ∧ x = e.2.1
theorem walk_mkeys {w : World} {d : Addr} {o : Obj} {es : List MEnt} : Walk (Itm w d o es) es.length (fun H => H d = some (.frz o (MxO w d es))) (YM es) := ⟨fun i H hi h => ⟨h, hi⟩, fun H h => ⟨h, Nat.le_refl _⟩, fun i H x H' hi g y => y⟩
end Eld
end L2

set_option Elab.async false
set_option linter.all false
set_option maxRecDepth 100000
set_option maxHeartbeats 4000000
/-! ## reach -/
namespace L2
namespace Eld
open PySem PySem.Spec PyProof.Rows PySem.EldX
theorem gD_some {g : Nd → Nd → Option Int} {u v : Nd} (h : 0 < gD g u v) : ∃ x, g u v = some x ∧ gD g u v = x := by
  unfold gD at h ⊢
  cases e : g u v with
  | none => rw [e] at h; exact absurd h (by decide)
  | some x => exact ⟨x, rfl, rfl⟩
abbrev QueIs (H : Hp) (ys : List V) (q : Que) : Prop := Paired (fun (y : V) (x : Nd × Option Nd) => KeyIs H x.1 y) ys q
theorem paired_at {α β : Type} {R : α → β → Prop} {l : List α} {m : List β} (h : Paired R l m) {i : Nat} {b : β} (e : m[i]? = some b) : ∃ a, l[i]? = some a ∧ R a b := by
  induction h generalizing i with
  | nil => simp at e
  | cons h _ ih =>
    cases i with
    | zero =>
      simp only [List.getElem?_cons_zero, Option.some.injEq] at e
      subst e
      exact ⟨_, rfl, h⟩
    | succ i =>
      simp only [List.getElem?_cons_succ] at e ⊢
      exact ih e
section
variable {P : Program} {w : World} {K : PySem.W.Frag} {mg : Str → Option Value} {base : Heap}
def spReach (w : World) : Sp := fun vs H Q _ => ∃ (a : Addr) (N : Nat) (ad : Nd → Option Addr) (g : Nd → Nd → Option Int), vs = [.ref a, .str "start"] ∧ RoomAt w H a N ad g ∧ (ad nS).isSome = true ∧ N + 2 < sizeLine ∧
  ∀ (H' : Hp) (c : Addr) (q : Que) (es : List MEnt), Same H H' → H c = none → CameAt w H' c q es → Grown (gD g) q → (∀ u v, u ∈ fsts q → 0 < gD g u v → v ∈ fsts q) → q.length ≤ N → Q (.ref c) H'
theorem ok_reach {f : Addr} {fd : FuncData} (F : Fun K "reach" "reach" sReach f fd) (B : Blt mg) : FnOk P w K mg base CX0 1 f fd ["room", "start"] (spReach w) := by
  refine F.ok scReach (fun vs H Q E h => ?_) (fun cdv A outer s H vs Q E hr h => ?_)
  · obtain ⟨a, N, ad, g, rfl, _⟩ := h
    rfl
  · obtain ⟨a, N, ad, g, rfl, R, hS, hz, qq⟩ := h
    refine ⟨_, (pss_cons (ps_set (i := 2) scReach.nd rfl (.inl rfl) (pe_retag (pe_disp (pps_cons (pv 1) pe_non pps_nil) (by rfl) (by rfl) (fun z => by cases z) (by decide))))
      (pss_cons (ps_set (i := 3) scReach.nd rfl (.inl rfl) (pe_lst (pa_cons (pv 1) pa_nil)))
      (pss_cons (ps_set (i := 4) scReach.nd rfl (.inl rfl) pe_int)
      (pss_cons (ps_while PassesOwn.never (pt_cmpR op_lt (pv 4) (pe_callB call_len_seq (by rfl) B.len PySem.boot_len (pa_cons (pv 3) pa_nil)) (nomark _))
        (pss_cons (ps_set (i := 5) scReach.nd rfl (.inl rfl) (pe_ix ix_list (pv 3) (pv 4) (fun _ _ => rfl)))
      (pss_cons (ps_set (i := 6) scReach.nd rfl (.inl rfl) (pe_mget (hu9 hr) (pv 0) (pv 5) (fun _ _ => rfl)))
      (pss_cons (ps_lock (ps_for PassesOwn.never rfl (pi_keysMx (pv 6)) (pg_name (i := 7) scReach.nd rfl (.inl rfl))
        (pss_one (ps_if (PW.pt (pw_and (pt_cmpR op_gt (pe_mget (hu9 hr) (pv 6) (pv 7) (fun _ _ => rfl)) pe_int (nomark _)) (pw_and1 (pt_cmp (pc_mnotin (hu9 hr) (pv 7) (pv 2)))))) (pss_cons (ps_mput (hu9 hr) (pv 2) (pv 7) (pv 5) rfl)
      (pss_one (ps_expr (pe_bm PySem.F.plainAttrs_list PySem.F.slot_list_append PySem.F.type_list_append mt_append (pv 3) (pa_cons (pv 7) pa_nil))))) pss_nil))))
      (pss_one (ps_aug (i := 4) scReach.nd rfl (.inl rfl) pe_int ip_add))))))
      (pss_one (ps_ret (pv 2))))))), ?_⟩
    refine fun c nc => ⟨.str "start", rfl, upd_same, [(.inr "start", .non)], rfl, by decide, c, [("start", .non)], rfl, by rw [upd_same]; rfl, ?_⟩
    have sG : Same H (upd (upd (upd H c (.dK [])) c (.dK (mergeK [] [(.inr "start", .non)]))) c (MxO w c (toM [("start", .non)]))) := ((Same.fresh nc).put nc).put nc
    have eG : (upd (upd (upd H c (.dK [])) c (.dK (mergeK [] [(.inr "start", .non)]))) c (MxO w c (toM [("start", .non)]))) c = some (MxO w c [(nS, .str "start", .non)]) := upd_same
    refine ⟨.str "start", rfl, (by show 1 ≤ sizeLine; decide), fun qp nqp => ?_⟩
    have nqp0 := none_of_same sG nqp
    have ncq : c ≠ qp := fun e => by
      have := eG
      rw [e] at this
      rw [e] at nqp
      exact nomatch (this.symm.trans nqp)
    have kS : ∀ G : Hp, KeyIs G nS (.str "start") := fun G => .inl ⟨_, rfl, rfl⟩
    refine ⟨fun m σ H' => ∃ (i : Nat) (q : Que) (es : List MEnt) (ys : List V) (v5 v6 v7 : Option V), m = N + 1 - i ∧ σ = [some (.ref a), some (.str "start"), some (.ref c), some (.ref qp), some (.int i), v5, v6, v7] ∧ Same H H' ∧ CameAt w H' c q es ∧ H' qp = some (.lst ys) ∧ QueIs H' ys q ∧ Grown (gD g) q ∧ i ≤ q.length ∧ (∀ v ∈ fsts q, (ad v).isSome = true) ∧
        (∀ j x v, j < i → q[j]? = some x → 0 < gD g x.1 v → v ∈ fsts q),
      ⟨N + 1, 0, [(nS, none)], [(nS, .str "start", .non)], [.str "start"], none, none, none, rfl, rfl, sG.put nqp0, ?_, upd_same, .cons (kS _) .nil, .one, Nat.zero_le _, fun v hv => ?_, fun j x v hj => absurd hj (Nat.not_lt_zero j)⟩, ?_⟩
    · refine ⟨by rw [upd_ne ncq]; exact eG, fun e he => ?_, .cons ⟨rfl, rfl⟩ .nil⟩
      obtain rfl := List.mem_singleton.mp he
      exact kS _
    · obtain rfl : v = nS := by simpa using hv
      exact hS
    rintro m σ H' ⟨i, q, es, ys, v5, v6, v7, rfl, rfl, sm, hc, hq, hQ, hg, hi, had, hcl⟩
    have lq : q.length ≤ N := by
      have := R.few hg.nodup had
      rwa [fsts, List.length_map] at this
    have ly : ys.length = q.length := Paired.length hQ
    refine ⟨.int i, rfl, .ref qp, rfl, qp, ys, rfl, .inl (SqL.of hq), i, ys.length, rfl, rfl, decide ((i : Int) < (ys.length : Int)), rfl, ?_⟩
    by_cases hlt : i < q.length
    · rw [decide_eq_true (show (i : Int) < (ys.length : Int) by omega)]
      refine iteT ?_
      obtain ⟨x0, hx0⟩ : ∃ x, q[i]? = some x := ⟨q[i], List.getElem?_eq_getElem hlt⟩
      obtain ⟨y0, hy0, hk0⟩ := paired_at hQ hx0
      have mx0 : x0.1 ∈ fsts q := List.mem_map.mpr ⟨x0, List.mem_of_getElem? hx0, rfl⟩
      obtain ⟨b, hb⟩ := Option.isSome_iff_exists.mp (had _ mx0)
      obtain ⟨esb, rb⟩ := R.row _ _ hb
      obtain ⟨eo, o1, o2, o3, o4, o5⟩ := R.out
      have t1 := TupKept.of_same sm
      refine ⟨fun σ' H2 => ∃ m', m' < N + 1 - i ∧ _, fun σ' H2 h => h, ?_⟩
      refine ⟨.ref qp, rfl, .int i, rfl, qp, ys, i, y0, rfl, rfl, SqL.of hq, atI_nat hy0, ?_⟩
      refine ⟨.ref a, rfl, y0, rfl, a, eo, x0.1, .ref b, rfl, ⟨.inl (sm _ _ o1), o2.same t1⟩, hk0, by rw [o5, hb]; rfl, ?_⟩
      have eb : H' b = some (MxO w b esb) := sm _ _ rb.at_
      have ncb : c ≠ b := fun e => by
        have := rb.at_
        rw [← e, nc] at this
        cases this
      have nqb : qp ≠ b := fun e => by
        have := rb.at_
        rw [← e, nqp0] at this
        cases this
      have kk : KeysOk H esb := rb.keys
      have tL : ∀ od, TupKept H' (upd H' b (.frz od (MxO w b esb))) := fun od z xs ez => by
        by_cases ee : z = b
        · rw [ee, eb] at ez
          cases ez
        · rw [upd_ne ee]
          exact ez
      refine ⟨b, MxO w b esb, eb, trivial, fun od => ⟨.ref b, rfl, b, od, esb, rfl, upd_same, ?_⟩⟩
      refine for_it walk_mkeys (fun t σ G => ∃ (q' : Que) (es' : List MEnt) (ys' : List V) (v7 : Option V), σ = [some (.ref a), some (.str "start"), some (.ref c), some (.ref qp), some (.int i), some y0, some (.ref b), v7] ∧ KeyIs G x0.1 y0 ∧ G b = some (.frz od (MxO w b esb)) ∧ (∀ x o, x ≠ b → H x = some o → G x = some o) ∧
          CameAt w G c q' es' ∧ G qp = some (.lst ys') ∧ QueIs G ys' q' ∧ Grown (gD g) q' ∧ (∃ p, q' = q ++ p) ∧ (∀ v ∈ fsts q', (ad v).isSome = true) ∧ (∀ s e, s < t → esb[s]? = some e → 0 < gD g x0.1 e.1 → e.1 ∈ fsts q'))
        ⟨q, es, ys, _, rfl, hk0.same (tL od), upd_same, fun x o hx e => by rw [upd_ne hx]; exact sm _ _ e, ?_, by rw [upd_ne nqb]; exact hq, ?_, hg, ⟨[], by simp⟩, had, fun s e hs => absurd hs (Nat.not_lt_zero s)⟩ (fun t σ G _ ⟨_, _, _, _, _, _, h, _⟩ => h) ?_ ?_
      · exact hc.keep (by rw [upd_ne ncb]; exact hc.at_) (tL od)
      · exact paired_mono hQ fun _ _ h => h.same (tL od)
      · rintro t x σ G G' ht ⟨q', es', ys', v7', rfl, k0, gb, fr, hc', hq', hQ', hg', hp', had', hcl'⟩ ⟨rfl, e, he, rfl⟩
        have tG : TupKept H G' := fun z xs ez => fr z _ (fun ee => by
          rw [ee, rb.at_] at ez
          cases ez) ez
        have kE : KeyIs G' e.1 e.2.1 := (kk e (List.mem_of_getElem? he)).same tG
        have hv : valM esb e.1 = (g x0.1 e.1).map V.int := rb.val e.1
        have his : (valM esb e.1).isSome = true := valM_some_iff.mpr (List.mem_map.mpr ⟨e, List.mem_of_getElem? he, rfl⟩)
        obtain ⟨cc, hcc⟩ : ∃ cc, g x0.1 e.1 = some cc := by
          cases z : g x0.1 e.1 with
          | none => rw [hv, z] at his; cases his
          | some cc => exact ⟨cc, rfl⟩
        have gd : gD g x0.1 e.1 = cc := by
          show (g x0.1 e.1).getD 0 = cc
          rw [hcc]; rfl
        have lq' : q'.length ≤ N := by
          have := R.few hg'.nodup had'
          rwa [fsts, List.length_map] at this
        have ly' : ys'.length = q'.length := Paired.length hQ'
        have le' : es'.length = q'.length := hc'.len
        refine ⟨.ref b, rfl, e.2.1, rfl, b, esb, e.1, .int cc, rfl, ⟨.inr ⟨od, gb⟩, fun e' he' => (kk e' he').same tG⟩, kE, by rw [hv, hcc]; rfl, cc, 0, rfl, rfl, decide ((0 : Int) < cc), rfl, ?_⟩
        by_cases pc : 0 < cc
        · rw [decide_eq_true pc]
          refine iteT ⟨e.2.1, rfl, .ref c, rfl, c, es', e.1, rfl, hc'.mx, kE, !(valM es' e.1).isSome, rfl, ?_⟩
          rcases came_val hc'.rel e.1 with ⟨z1, z2⟩ | ⟨o, y, z1, z2, z3⟩
          · have nin : e.1 ∉ fsts q' := look_none.mp z1
            rw [z2]
            refine iteT ?_
            · have gc : G' c = some (MxO w c es') := hc'.at_
              have tP : TupKept G' (upd G' c (MxO w c (putM es' e.1 e.2.1 y0))) := TupKept.mx gc
              have eP : putM es' e.1 e.2.1 y0 = es' ++ [(e.1, e.2.1, y0)] := putM_new z2
              refine ⟨y0, rfl, .ref c, rfl, e.2.1, rfl, c, es', e.1, rfl, gc, hc'.keys, by omega, kE, ?_⟩
              have eq2 : (upd G' c (MxO w c (putM es' e.1 e.2.1 y0))) qp = some (.lst ys') := by
                rw [upd_ne (Ne.symm ncq)]
                exact hq'
              refine ⟨.ref qp, rfl, .inl ⟨rfl, _, SqL.of eq2⟩, e.2.1, rfl, qp, _, _, rfl, rfl, eq2, by omega, ?_⟩
              have tQ : TupKept G' (upd (upd G' c (MxO w c (putM es' e.1 e.2.1 y0))) qp (.lst (ys' ++ [e.2.1]))) := tP.trans (TupKept.lst eq2)
              refine ⟨q' ++ [(e.1, some x0.1)], es' ++ [(e.1, e.2.1, y0)], ys' ++ [e.2.1], _, rfl, k0.same tQ, ?_, fun z o nz ez => ?_, ⟨?_, ?_, ?_⟩, upd_same, ?_, ?_, ?_, fun v hv => ?_, fun s e2 hs he2 hp2 => ?_⟩
              · rw [upd_ne (Ne.symm nqb), upd_ne (Ne.symm ncb)]
                exact gb
              · have n1 : z ≠ qp := fun ee => by rw [ee, nqp0] at ez; cases ez
                have n2 : z ≠ c := fun ee => by rw [ee, nc] at ez; cases ez
                rw [upd_ne n1, upd_ne n2]
                exact fr z o nz ez
              · rw [upd_ne ncq, upd_same, eP]
                rfl
              · rw [← eP]
                exact (hc'.keys.put kE).same tQ
              · exact Paired.snoc (paired_mono hc'.rel fun _ _ h => ⟨h.1, h.2.same tQ⟩) ⟨rfl, k0.same tQ⟩
              · exact Paired.snoc (paired_mono hQ' fun _ _ h => h.same tQ) (kE.same tQ)
              · refine .more hg' ?_ nin (by rw [gd]; exact pc)
                obtain ⟨p, rfl⟩ := hp'
                rw [fsts, List.map_append]
                exact List.mem_append_left _ mx0
              · obtain ⟨p, rfl⟩ := hp'
                exact ⟨p ++ [(e.1, some x0.1)], by rw [List.append_assoc]⟩
              · rw [fsts, List.map_append] at hv
                rcases List.mem_append.mp hv with hv | hv
                · exact had' v hv
                · obtain rfl : v = e.1 := by simpa using hv
                  exact R.cl _ _ _ hcc
              · rw [fsts, List.map_append]
                by_cases es2 : s = t
                · subst es2
                  rw [he] at he2
                  cases he2
                  exact List.mem_append_right _ (by simp)
                · exact List.mem_append_left _ (hcl' s e2 (by omega) he2 hp2)
          · rw [z2]
            refine iteF ⟨q', es', ys', _, rfl, k0, gb, fr, hc', hq', hQ', hg', hp', had', fun s e2 hs he2 hp2 => ?_⟩
            by_cases es2 : s = t
            · subst es2
              rw [he] at he2
              cases he2
              exact Classical.byContradiction fun nn => by
                rw [look_none.mpr nn] at z1
                cases z1
            · exact hcl' s e2 (by omega) he2 hp2
        · rw [decide_eq_false pc]
          refine iteF (iteF ⟨q', es', ys', _, rfl, k0, gb, fr, hc', hq', hQ', hg', hp', had', fun s e2 hs he2 hp2 => ?_⟩)
          by_cases es2 : s = t
          · subst es2
            rw [he] at he2
            cases he2
            rw [gd] at hp2
            exact absurd hp2 pc
          · exact hcl' s e2 (by omega) he2 hp2
      · rintro σ G ⟨q', es', ys', v7', rfl, k0, gb, fr, hc', hq', hQ', hg', ⟨p, hp'⟩, had', hcl'⟩
        refine ⟨gb, ?_⟩
        have tU : TupKept G (upd G b (MxO w b esb)) := fun z xs ez => by
          by_cases ee : z = b
          · rw [ee, gb] at ez
            cases ez
          · rw [upd_ne ee]
            exact ez
        refine ⟨.int i, rfl, ?_⟩
        refine ⟨i, 1, rfl, rfl, N + 1 - (i + 1), by omega, i + 1, q', es', ys', _, _, v7', rfl, rfl, fun z o ez => ?_, ?_, ?_, ?_, hg', ?_, had', fun j x v hj hx hp2 => ?_⟩
        · by_cases ee : z = b
          · rw [ee, rb.at_] at ez
            cases ez
            rw [ee, upd_same]
          · rw [upd_ne ee]
            exact fr z o ee ez
        · exact hc'.keep (by rw [upd_ne ncb]; exact hc'.at_) tU
        · rw [upd_ne nqb]
          exact hq'
        · exact paired_mono hQ' fun _ _ h => h.same tU
        · rw [hp', List.length_append]
          omega
        · by_cases ej : j = i
          · subst ej
            rw [hp', List.getElem?_append_left hlt, hx0] at hx
            cases hx
            obtain ⟨y, hy, _⟩ := gD_some hp2
            have his : (valM esb v).isSome = true := by rw [rb.val, hy]; rfl
            obtain ⟨e, he, rfl⟩ := List.mem_map.mp (valM_some_iff.mp his)
            obtain ⟨s, hs⟩ := List.mem_iff_getElem?.mp he
            exact hcl' s e (List.getElem?_eq_some_iff.mp hs).1 hs hp2
          · have hj' : j < i := by omega
            rw [hp', List.getElem?_append_left (by omega)] at hx
            rw [hp', fsts, List.map_append]
            exact List.mem_append_left _ (hcl j x v hj' hx hp2)
    · rw [decide_eq_false (show ¬ (i : Int) < (ys.length : Int) by omega)]
      refine iteF ?_
      refine ⟨.ref c, rfl, qq H' c q es sm nc hc hg (fun u v hu hp => ?_) lq⟩
      obtain ⟨x, hx, rfl⟩ := List.mem_map.mp hu
      obtain ⟨j, hj⟩ := List.mem_iff_getElem?.mp hx
      exact hcl j x v (by have := (List.getElem?_eq_some_iff.mp hj).1; omega) hj hp
end
end Eld
end L2

set_option Elab.async false
set_option linter.all false
set_option maxRecDepth 100000
set_option maxHeartbeats 4000000
/-! ## move -/
namespace L2
namespace Eld
open PySem PySem.Spec PyProof.Rows PySem.EldX
theorem paired_get' {α β : Type} {R : α → β → Prop} {l : List α} {m : List β} (h : Paired R l m) {i : Nat} {a : α} (e : l[i]? = some a) : ∃ b, m[i]? = some b ∧ R a b := by
  induction h generalizing i with
  | nil => simp at e
  | cons h _ ih =>
    cases i with
    | zero =>
      simp only [List.getElem?_cons_zero, Option.some.injEq] at e
      subst e
      exact ⟨_, rfl, h⟩
    | succ i =>
      simp only [List.getElem?_cons_succ] at e ⊢
      exact ih e
theorem map_ref_at {ts : List Addr} {i : Nat} {x : V} (h : (ts.map V.ref)[i]? = some x) : ∃ t, ts[i]? = some t ∧ x = .ref t := by
  rw [List.getElem?_map] at h
  cases e : ts[i]? with
  | none => rw [e] at h; cases h
  | some t =>
    rw [e] at h
    exact ⟨t, rfl, (Option.some.inj h).symm⟩
theorem mv_set {g : Nd → Nd → Option Int} {k1 k2 : Nd} {c d m : Int} (e1 : g k1 k2 = some c) (e2 : g k2 k1 = some d) (ne : k1 ≠ k2) : gD (setG (setG g k1 k2 (c - m)) k2 k1 (d + m)) = mv1 m (gD g) (k1, k2) := by
  funext u v
  unfold mv1 gD setG
  by_cases z : u = k1 ∧ v = k2
  · obtain ⟨rfl, rfl⟩ := z
    rw [if_neg (c := u = v ∧ v = u) fun q => ne q.1, if_pos ⟨rfl, rfl⟩, if_pos rfl, if_neg fun q => ne (Prod.mk.inj q).1, e1]
    simp
  · by_cases z2 : u = k2 ∧ v = k1
    · obtain ⟨rfl, rfl⟩ := z2
      rw [if_pos ⟨rfl, rfl⟩, if_neg (c := (v, u) = (u, v)) fun q => ne (Prod.mk.inj q).1, if_pos rfl, e2]
      simp
    · rw [if_neg z2, if_neg z, if_neg (c := (k1, k2) = (u, v)) fun q => z ⟨(Prod.mk.inj q).1.symm, (Prod.mk.inj q).2.symm⟩, if_neg (c := (k1, k2) = (v, u)) fun q => z2 ⟨(Prod.mk.inj q).2.symm, (Prod.mk.inj q).1.symm⟩]
      omega
theorem setG_some {g : Nd → Nd → Option Int} {k1 k2 : Nd} {c : Int} (e : (g k1 k2).isSome = true) (u v : Nd) : (setG g k1 k2 c u v).isSome = (g u v).isSome := by
  unfold setG
  by_cases z : u = k1 ∧ v = k2
  · rw [if_pos z, z.1, z.2, e]; rfl
  · rw [if_neg z]
theorem mvs_take {m : Int} {r : Res} {l : List Step} {i : Nat} {s : Step} (h : l[i]? = some s) : mvs m r (l.take (i + 1)) = mv1 m (mvs m r (l.take i)) s := by
  unfold mvs
  rw [List.take_add_one, h, List.foldl_append]
  rfl
/-- ways go both ways, none from a place to itself -/
structure Sym (g : Nd → Nd → Option Int) : Prop where
  both : ∀ u v, (g u v).isSome = true → (g v u).isSome = true
  self : ∀ u, g u u = none
theorem gD_eq {g : Nd → Nd → Option Int} {u v : Nd} (h : (g u v).isSome = true) : g u v = some (gD g u v) := by
  obtain ⟨x, e⟩ := Option.isSome_iff_exists.mp h
  show g u v = some ((g u v).getD 0)
  rw [e]; rfl
section
variable {P : Program} {w : World} {K : PySem.W.Frag} {mg : Str → Option Value} {base : Heap}
def spMove (w : World) : Sp := fun vs H Q _ => ∃ (a c : Addr) (N : Nat) (ad : Nd → Option Addr) (g : Nd → Nd → Option Int) (q : Que) (es : List MEnt) (l : List Step), vs = [.ref a, .ref c, .str "end"] ∧ RoomAt w H a N ad g ∧ N < sizeLine ∧ Sym g ∧ CameAt w H c q es ∧ WayQ q nE l ∧ l ≠ [] ∧ l.length < sizeLine ∧ (∀ s ∈ l, 0 < gD g s.1 s.2) ∧
  ∀ (H' : Hp) (g' : Nd → Nd → Option Int) (m : Int), RoomAt w H' a N ad g' → RoomKept a ad ad H H' → (∀ u v, (g' u v).isSome = (g u v).isSome) → gD g' = mvs m (gD g) l → 0 < m → (∀ s ∈ l, m ≤ gD g s.1 s.2) → Q .non H'
/-- room[one] -/
theorem room_row {w : World} {H : Hp} {a : Addr} {N : Nat} {ad : Nd → Option Addr} {g : Nd → Nd → Option Int} (R : RoomAt w H a N ad g) {k : Nd} {y : V} (hk : KeyIs H k y) {b : Addr} (hb : ad k = some b) {td ty : TE} {σ : St} {Q : VK} (htd : ∀ Q' : VK, Q' (.ref a) H → td σ H Q') (hty : ∀ Q' : VK, Q' y H → ty σ H Q') (h : Q (.ref b) H) : tMGet w td ty σ H Q := by
  obtain ⟨es, e1, e2, e3, e4, e5⟩ := R.out
  exact htd _ (hty _ ⟨a, es, k, .ref b, rfl, ⟨.inl e1, e2⟩, hk, by rw [e5, hb]; rfl, h⟩)
theorem room_ad {w : World} {H : Hp} {a : Addr} {N : Nat} {ad : Nd → Option Addr} {g : Nd → Nd → Option Int} (R : RoomAt w H a N ad g) {u v : Nd} (h : (g u v).isSome = true) : ∃ b, ad u = some b := by
  cases e : ad u with
  | some b => exact ⟨b, rfl⟩
  | none => rw [R.emp u e v] at h; cases h
/-- room[one][other] -/
theorem room_get {w : World} {H : Hp} {a : Addr} {N : Nat} {ad : Nd → Option Addr} {g : Nd → Nd → Option Int} (R : RoomAt w H a N ad g) {k1 k2 : Nd} {y1 y2 : V} (hk1 : KeyIs H k1 y1) (hk2 : KeyIs H k2 y2) {c : Int} (hc : g k1 k2 = some c) {td ty1 ty2 : TE} {σ : St} {Q : VK} (htd : ∀ Q' : VK, Q' (.ref a) H → td σ H Q')
    (hty1 : ∀ Q' : VK, Q' y1 H → ty1 σ H Q') (hty2 : ∀ Q' : VK, Q' y2 H → ty2 σ H Q') (h : Q (.int c) H) : tMGet w (tMGet w td ty1) ty2 σ H Q := by
  obtain ⟨b, hb⟩ := room_ad R (u := k1) (v := k2) (by rw [hc]; rfl)
  obtain ⟨es, r⟩ := R.row _ _ hb
  refine room_row (td := td) (ty := ty1) R hk1 hb htd hty1 ?_
  exact hty2 _ ⟨b, es, k2, .int c, rfl, MxO_at r, hk2, by rw [r.val, hc]; rfl, h⟩
theorem ok_move {f fS : Addr} {fd dS : FuncData} (F : Fun K "move" "move" sMove f fd) (FSteps : Fun K "_steps" "_steps" sSteps fS dS) (gSteps : mg "_steps" = some (.ref fS)) (B : Blt mg) : FnOk P w K mg base CX0 2 f fd ["room", "came", "end"] (spMove w) := by
  have GSteps : FnOk P w K mg base CX0 1 fS dS ["came", "end"] (spSteps w) := ok_steps FSteps
  have bSteps : Binds K dS ["came", "end"] [] := FSteps.binds fun _ _ _ _ _ _ us hl => match us, hl with | [_, _], _ => rfl
  refine F.ok scMove (fun vs H Q E h => ?_) (fun cdv A outer s H vs Q E hr h => ?_)
  · obtain ⟨a, c, N, ad, g, q, es, l, rfl, _⟩ := h
    rfl
  · obtain ⟨a, c, N, ad, g, q, es, l, rfl, R, hNz, hY, hc, hw, hne, hz, hp, qq⟩ := h
    refine ⟨_, (pss_cons (ps_set (i := 3) scMove.nd rfl (.inl rfl) (pe_call GSteps (hr.mono (by decide)) (by rfl) gSteps FSteps.kp bSteps .nil pass0 (pa_cons (pv 1) (pa_cons (pv 2) pa_nil))))
      (pss_cons (ps_set (i := 4) scMove.nd rfl (.inl rfl) (pe_callB (cr_min rfl) (by rfl) B.min (by decide +kernel) (pa_cons (pe_lc (own := [("one", 5), ("other", 6)]) (g := gTup K 2 (gCons (gName 5) (gCons (gName 6) (gNil)))) (tt := tYes) (te := tMGet w (tMGet w (tVar 0) (tVar 5)) (tVar 6)) rfl scMove.nd (pi_list (pv 3)) (blkOk_by (own := [("one", 5), ("other", 6)]) (N := NMove) (sc := defScope sMove) (by decide +kernel))
        (fun _ _ _ _ _ => pg_tup rfl (pgs_cons (pg_name (i := 5) scMove.nd rfl (.inl rfl)) (pgs_cons (pg_name (i := 6) scMove.nd rfl (.inl rfl)) pgs_nil))) (fun _ _ _ _ _ => pts_nil) (fun _ _ _ _ _ => pe_mget (hu9 hr) (pe_mget (hu9 hr) (pv 0) (pv 5) (fun _ _ => rfl)) (pv 6) (fun _ _ => rfl))) pa_nil)))
      (pss_one (ps_for PassesOwn.never rfl (pi_list (pv 3)) (pg_tup rfl (pgs_cons (pg_name (i := 5) scMove.nd rfl (.inl rfl)) (pgs_cons (pg_name (i := 6) scMove.nd rfl (.inl rfl)) pgs_nil)))
        (pss_cons (ps_maug (hu9 hr) (pe_mget (hu9 hr) (pv 0) (pv 5) (fun _ _ => rfl)) (pv 6) (pv 4) in_sub (by intros; rfl))
        (pss_one (ps_maug (hu9 hr) (pe_mget (hu9 hr) (pv 0) (pv 6) (fun _ _ => rfl)) (pv 5) (pv 4) in_add (by intros; rfl)))))))), ?_⟩
    refine ⟨.ref c, rfl, .str "end", rfl, c, q, es, nE, .str "end", l, rfl, hc, .inl ⟨_, rfl, rfl⟩, hw, hz, fun H1 p ts s1 np ep hts => ?_⟩
    have R1 := R.same s1
    have lts : ts.length = l.length := Paired.length hts
    refine ⟨.ref p, rfl, p, rfl, ⟨_, SqL.of ep⟩, fun D hD => ?_⟩
    have w0 : Walk (Itl K p) ts.length (fun H => SqL K H p (ts.map V.ref)) (YAt (ts.map V.ref)) := by
      have := walk_list (K := K) (a := p) (xs := ts.map V.ref)
      rw [List.length_map] at this
      exact this
    have stp : ∀ {i : Nat} {t : Addr}, ts[i]? = some t → ∃ s, l[i]? = some s ∧ StepIs H1 t s := fun e => paired_get' hts e
    have hps : ∀ s ∈ l, (g s.1 s.2).isSome = true := fun s hs => by
      obtain ⟨x, e, _⟩ := gD_some (hp s hs)
      rw [e]; rfl
    refine lc_foldY w0 (fun i acc _ => acc = (l.take i).map fun s => V.int (gD g s.1 s.2)) (by rw [lts]; exact hz) hD rfl (fun G s => SqL.of (s _ _ ep)) yat_same (fun _ _ _ _ _ _ _ p => p) ?_ ?_
    · rintro i x acc G G' hi sG eD ⟨rfl, hx⟩ rfl N2 M hN hM
      obtain ⟨t, ht, rfl⟩ := map_ref_at hx
      obtain ⟨s, hs, y1, y2, e3, k1, k2⟩ := stp ht
      have tG := TupKept.of_same sG
      refine ⟨t, _, rfl, SqT.of (sG _ _ e3), rfl, y1, _, rfl, y2, [], rfl, rfl, rfl, ?_⟩
      unfold tYes
      show (if true = true then _ else _)
      rw [if_pos rfl]
      have hcs : g s.1 s.2 = some (gD g s.1 s.2) := gD_eq (hps s (List.mem_of_getElem? hs))
      refine room_get (R1.same sG) (k1.same tG) (k2.same tG) hcs (fun Q' z => ⟨_, rfl, z⟩) (fun Q' z => ⟨_, rfl, z⟩) (fun Q' z => ⟨_, rfl, z⟩) (hN _ _ (Same.refl _) ?_)
      rw [List.take_add_one, hs, List.map_append]
      rfl
    rintro G acc sG eD rfl
    have hl : l.take ts.length = l := by rw [lts]; exact List.take_length
    rw [hl] at eD
    have eD' : G D = some (.lst ((l.map fun s => gD g s.1 s.2).map V.int)) := by
      rw [List.map_map]
      exact eD
    refine ⟨D, _, rfl, SqL.of eD', ?_, fun m hm1 hm2 => ?_⟩
    · rw [List.length_map]
      exact List.length_pos_iff.mpr hne
    obtain ⟨sm, hsm, em⟩ := List.mem_map.mp hm1
    have m0 : 0 < m := by
      rw [← em]
      exact hp sm hsm
    have mle : ∀ s ∈ l, m ≤ gD g s.1 s.2 := fun s hs => hm2 _ (List.mem_map.mpr ⟨s, hs, rfl⟩)
    have R2 := R1.same sG
    have epG := sG _ _ ep
    refine ⟨.ref p, rfl, p, rfl, ⟨_, SqL.of epG⟩, ?_⟩
    have npR : ∀ b, InRoom a ad b → b ≠ p := fun b hb e => by
      obtain ⟨es, e2⟩ := R.has hb
      rw [e, np] at e2
      cases e2
    refine for_it w0 (fun t σ G' => ∃ (v5 v6 : Option V) (g' : Nd → Nd → Option Int), σ = [some (.ref a), some (.ref c), some (.str "end"), some (.ref p), some (.int m), v5, v6] ∧ RoomAt w G' a N ad g' ∧ RoomKept a ad ad G G' ∧ (∀ u v, (g' u v).isSome = (g u v).isSome) ∧ gD g' = mvs m (gD g) (l.take t))
      ⟨_, _, g, rfl, R2, RoomKept.refl, fun _ _ => rfl, by rw [List.take_zero]; rfl⟩ (fun t σ G' _ ⟨_, _, _, _, _, k, _⟩ => SqL.of (k.kept p _ (fun z => npR _ z rfl) epG)) ?_ ?_
    · rintro t x σ G' G2 ht ⟨v5, v6, g', rfl, R', kk, hsome, hg'⟩ ⟨rfl, hx⟩
      obtain ⟨ta, hta, rfl⟩ := map_ref_at hx
      obtain ⟨s, hs, y1, y2, e3, k1, k2⟩ := stp hta
      have t1 : TupKept H1 G2 := (TupKept.of_same sG).trans (kk.tup R2)
      have k1' := k1.same t1
      have k2' := k2.same t1
      have hs' := List.mem_of_getElem? hs
      have c1 : g' s.1 s.2 = some (gD g' s.1 s.2) := gD_eq (by rw [hsome]; exact hps s hs')
      have c2 : g' s.2 s.1 = some (gD g' s.2 s.1) := gD_eq (by rw [hsome]; exact hY.both _ _ (hps s hs'))
      have ne : s.1 ≠ s.2 := fun e => by
        have := hps s hs'
        rw [e, hY.self] at this
        cases this
      refine ⟨ta, _, rfl, SqT.of (t1 _ _ e3), rfl, y1, _, rfl, y2, [], rfl, rfl, ?_⟩
      obtain ⟨b1, hb1⟩ := room_ad R' (u := s.1) (v := s.2) (by rw [c1]; rfl)
      obtain ⟨b2, hb2⟩ := room_ad R' (u := s.2) (v := s.1) (by rw [c2]; rfl)
      obtain ⟨es1, r1⟩ := R'.row _ _ hb1
      have hN : N < sizeLine := hNz
      have l1 := r1.len
      show tMGet w (tVar 0) (tVar 5) [some (.ref a), some (.ref c), some (.str "end"), some (.ref p), some (.int m), some y1, some y2] G2 _
      refine room_row R' k1' hb1 (fun Q' z => ⟨_, rfl, z⟩) (fun Q' z => ⟨_, rfl, z⟩) ?_
      refine ⟨y2, rfl, b1, es1, s.2, .int (gD g' s.1 s.2), rfl, MxO_at r1, k2', by rw [r1.val, c1]; rfl, .int m, rfl, _, _, rfl, rfl, es1, r1.at_, r1.keys, by omega, k2', ?_⟩
      have R3 := R'.re (c := gD g' s.1 s.2 - m) hb1 k2' c1 r1
      have kk3 := kk.trans (RoomKept.of_in (o := MxO w b1 (putM es1 s.2 y2 (.int (gD g' s.1 s.2 - m)))) (.inr ⟨s.1, hb1⟩))
      have t3 : TupKept H1 (upd G2 b1 (MxO w b1 (putM es1 s.2 y2 (.int (gD g' s.1 s.2 - m))))) := (TupKept.of_same sG).trans (kk3.tup R2)
      obtain ⟨es2, r2⟩ := R3.row _ _ hb2
      have l2 := r2.len
      have c3 : setG g' s.1 s.2 (gD g' s.1 s.2 - m) s.2 s.1 = some (gD g' s.2 s.1) := by
        unfold setG
        rw [if_neg fun q => ne q.1.symm]
        exact c2
      show tMGet w (tVar 0) (tVar 6) [some (.ref a), some (.ref c), some (.str "end"), some (.ref p), some (.int m), some y1, some y2] (upd G2 b1 (MxO w b1 (putM es1 s.2 y2 (.int (gD g' s.1 s.2 - m))))) _
      refine room_row R3 (k2.same t3) hb2 (fun Q' z => ⟨_, rfl, z⟩) (fun Q' z => ⟨_, rfl, z⟩) ?_
      refine ⟨y1, rfl, b2, es2, s.1, .int (gD g' s.2 s.1), rfl, MxO_at r2, k1.same t3, by rw [r2.val, c3]; rfl, .int m, rfl, _, _, rfl, rfl, es2, r2.at_, r2.keys, by omega, k1.same t3, ?_⟩
      have R4 := R3.re (c := gD g' s.2 s.1 + m) hb2 (k1.same t3) c3 r2
      refine ⟨_, _, _, rfl, R4, kk3.trans (RoomKept.of_in (.inr ⟨s.2, hb2⟩)), fun u v => ?_, ?_⟩
      · rw [setG_some (by rw [c3]; rfl), setG_some (by rw [c1]; rfl)]
        exact hsome u v
      · rw [mv_set c1 c2 ne, mvs_take hs, hg']
    · rintro σ G' ⟨v5, v6, g', rfl, R', kk, hsome, hg'⟩
      rw [hl] at hg'
      refine qq G' g' m R' (RoomKept.trans (RoomKept.of_same (s1.trans sG)) kk) hsome hg' m0 mle
end
end Eld
end L2

set_option Elab.async false
set_option linter.all false
set_option maxRecDepth 100000
set_option maxHeartbeats 4000000
/-! ## push, count_of -/
namespace L2
namespace Eld
open PySem PySem.Spec PyProof.Rows PySem.EldX
theorem CameAt.has {w : World} {H : Hp} {c : Addr} {q : Que} {es : List MEnt} (h : CameAt w H c q es) (v : Nd) : (valM es v).isSome = true ↔ v ∈ fsts q := by
  rcases came_val h.rel v with ⟨z1, z2⟩ | ⟨o, y, z1, z2, _⟩
  · rw [z2]
    refine ⟨fun e => ?_, fun e => absurd e (look_none.mp z1)⟩
    cases e
  · rw [z2]
    refine ⟨fun _ => Classical.byContradiction fun n => ?_, fun _ => rfl⟩
    rw [look_none.mpr n] at z1
    cases z1
theorem Sym.same {g g' : Nd → Nd → Option Int} (h : Sym g) (e : ∀ u v, (g' u v).isSome = (g u v).isSome) : Sym g' := ⟨fun u v z => by
  rw [e] at z ⊢
  exact h.both u v z, fun u => by
  have := e u u
  rw [h.self] at this
  cases z : g' u u with
  | none => rfl
  | some x => rw [z] at this; cases this⟩
section
variable {P : Program} {w : World} {K : PySem.W.Frag} {mg : Str → Option Value} {base : Heap}
def spPush (w : World) : Sp := fun vs H Q _ => ∃ (a : Addr) (N : Nat) (ad : Nd → Option Addr) (g : Nd → Nd → Option Int) (ts : List Tk) (ks : List Str) (st : Str → Int) (i : Nat) (t : Tk) (r0 : Res) (U : Nd → Prop), vs = [.ref a, .str "start", .str "end"] ∧ RoomAt w H a N ad g ∧ Sym g ∧ (ad nS).isSome = true ∧ N + 2 < sizeLine ∧
  Good ts ks st ∧ Psh ts ks st i r0 (gD g) U ∧ ts[i]? = some t ∧
  ∀ (H' : Hp) (g' : Nd → Nd → Option Int), RoomAt w H' a N ad g' → RoomKept a ad ad H H' → (∀ u v, (g' u v).isSome = (g u v).isSome) → Psh ts ks st i r0 (gD g') U → (∃ R, Rch (gD g') R) → Q .non H'
theorem ok_push {f fS fM fR : Addr} {fd dS dM dR : FuncData} (F : Fun K "push" "push" sPush f fd) (FReach : Fun K "reach" "reach" sReach fR dR) (gReach : mg "reach" = some (.ref fR)) (FMove : Fun K "move" "move" sMove fM dM) (gMove : mg "move" = some (.ref fM)) (FSteps : Fun K "_steps" "_steps" sSteps fS dS) (gSteps : mg "_steps" = some (.ref fS)) (B : Blt mg) :
    FnOk P w K mg base CX0 3 f fd ["room", "start", "end"] (spPush w) := by
  have GReach : FnOk P w K mg base CX0 1 fR dR ["room", "start"] (spReach w) := ok_reach FReach B
  have bReach : Binds K dR ["room", "start"] [] := FReach.binds fun _ _ _ _ _ _ us hl => match us, hl with | [_, _], _ => rfl
  have GMove : FnOk P w K mg base CX0 2 fM dM ["room", "came", "end"] (spMove w) := ok_move FMove FSteps gSteps B
  have bMove : Binds K dM ["room", "came", "end"] [] := FMove.binds fun _ _ _ _ _ _ us hl => match us, hl with | [_, _, _], _ => rfl
  refine F.ok scPush (fun vs H Q E h => ?_) (fun cdv A outer s H vs Q E hr h => ?_)
  · obtain ⟨a, N, ad, g, ts, ks, st, i, t, r0, U, rfl, _⟩ := h
    rfl
  · obtain ⟨a, N, ad, g, ts, ks, st, i, t, r0, U, rfl, R, hY, hS, hz, G, hP, ht, qq⟩ := h
    refine ⟨_, (pss_cons (ps_set (i := 3) scPush.nd rfl (.inl rfl) (pe_call GReach (hr.mono (by decide)) (by rfl) gReach FReach.kp bReach .nil pass0 (pa_cons (pv 0) (pa_cons (pv 1) pa_nil))))
      (pss_one (ps_while PassesOwn.never (pt_cmp (pc_min (hu9 hr) (pv 2) (pv 3)))
        (pss_cons (ps_expr (pe_call GMove (hr.mono (by decide)) (by rfl) gMove FMove.kp bMove .nil pass0 (pa_cons (pv 0) (pa_cons (pv 3) (pa_cons (pv 2) pa_nil)))))
      (pss_one (ps_set (i := 3) scPush.nd rfl (.inl rfl) (pe_call GReach (hr.mono (by decide)) (by rfl) gReach FReach.kp bReach .nil pass0 (pa_cons (pv 0) (pa_cons (pv 1) pa_nil))))))))), ?_⟩
    refine ⟨.ref a, rfl, .str "start", rfl, a, N, ad, g, rfl, R, hS, hz, fun H1 c q es s1 nc hc hg hcl lq => ?_⟩
    refine ⟨fun m σ H' => ∃ (g' : Nd → Nd → Option Int) (c : Addr) (q : Que) (es : List MEnt), m = (gD g' nS (nT t.nm)).toNat ∧ σ = [some (.ref a), some (.str "start"), some (.str "end"), some (.ref c)] ∧ RoomAt w H' a N ad g' ∧ RoomKept a ad ad H H' ∧ (∀ u v, (g' u v).isSome = (g u v).isSome) ∧ Psh ts ks st i r0 (gD g') U ∧
        CameAt w H' c q es ∧ Grown (gD g') q ∧ (∀ u v, u ∈ fsts q → 0 < gD g' u v → v ∈ fsts q) ∧ q.length ≤ N,
      ⟨_, g, c, q, es, rfl, rfl, R.same s1, RoomKept.of_same s1, fun _ _ => rfl, hP, hc, hg, hcl, lq⟩, ?_⟩
    rintro m σ H' ⟨g', c, q, es, rfl, rfl, R', kk, hsome, hP', hc', hg', hcl', lq'⟩
    have kE : KeyIs H' nE (.str "end") := .inl ⟨_, rfl, rfl⟩
    refine ⟨.str "end", rfl, .ref c, rfl, c, es, nE, rfl, hc'.mx, kE, (valM es nE).isSome, rfl, ?_⟩
    by_cases hin : nE ∈ fsts q
    · rw [(hc'.has nE).mpr hin]
      obtain ⟨l, hf, hw, ll, lne⟩ := hg'.free hin
      refine iteT ⟨fun σ' H2 => ∃ m', m' < _ ∧ _, fun σ' H2 h => h, ?_⟩
      refine ⟨.ref a, rfl, .ref c, rfl, .str "end", rfl, a, c, N, ad, g', q, es, l, rfl, R', by omega, hY.same hsome, hc', hw, lne, by omega, hf.pos, fun H2 g2 mm R2 k2 hs2 hg2 m0 mle => ?_⟩
      obtain ⟨P2, dec⟩ := hP'.step G ht hf m0 mle
      rw [← hg2] at P2 dec
      refine ⟨.ref a, rfl, .str "start", rfl, a, N, ad, g2, rfl, R2, hS, hz, fun H3 c3 q3 es3 s3 nc3 hc3 hg3 hcl3 lq3 => ?_⟩
      have nn := P2.net.nn nS (nT t.nm)
      refine ⟨_, ?_, g2, c3, q3, es3, rfl, rfl, R2.same s3, (kk.trans k2).trans (RoomKept.of_same s3), fun u v => (hs2 u v).trans (hsome u v), P2, hc3, hg3, hcl3, lq3⟩
      omega
    · have : (valM es nE).isSome = false := by
        cases e : (valM es nE).isSome with
        | false => rfl
        | true => exact absurd ((hc'.has nE).mp e) hin
      rw [this]
      exact iteF (qq H' g' R' kk hsome hP' ⟨_, hg'.rch hin hcl'⟩)
/-! ### count_of -/
def spCountOf (w : World) : Sp := fun vs H Q _ => ∃ (a : Addr) (N : Nat) (ad : Nd → Option Addr) (g : Nd → Nd → Option Int) (x : Str) (c : Int), vs = [.ref a, .str x] ∧ RoomAt w H a N ad g ∧ g (nT x) nS = some c ∧ ∀ H', Same H H' → Q (.int c) H'
theorem ok_countOf {f : Addr} {fd : FuncData} {u : Value} (F : Fun K "count_of" "count_of" sCountOf f fd) (gStart : mg "START" = some u) (rStart : RelV (.str "start") u) : FnOk P w K mg base CX0 1 f fd ["room", "name"] (spCountOf w) := by
  refine F.ok scCountOf (fun vs H Q E h => ?_) (fun cdv A outer s H vs Q E hr h => ?_)
  · obtain ⟨a, N, ad, g, x, c, rfl, _⟩ := h
    rfl
  · obtain ⟨a, N, ad, g, x, c, rfl, R, hc, q⟩ := h
    refine ⟨_, (pss_one (ps_ret (pe_mget (hu9 hr) (pe_mget (hu9 hr) (pv 0) (pe_tup (pa_cons pe_str (pa_cons (pv 1) pa_nil))) (fun _ _ => rfl)) (pe_glob (by rfl) gStart rStart) (fun _ _ => rfl)))), ?_⟩
    refine ⟨.ref a, rfl, .str x, rfl, (by show 2 ≤ sizeLine; decide), fun p np => ?_⟩
    have s1 : Same H (upd H p (.tup [.str "taker", .str x])) := Same.fresh np
    have R1 := R.same s1
    obtain ⟨b, hb⟩ := room_ad R1 (u := nT x) (v := nS) (by rw [hc]; rfl)
    obtain ⟨es, e1, e2, e3, e4, e5⟩ := R1.out
    obtain ⟨es2, r⟩ := R1.row _ _ hb
    refine ⟨a, es, nT x, .ref b, rfl, ⟨.inl e1, e2⟩, .inr ⟨p, ["taker", x], rfl, rfl, upd_same⟩, by rw [e5, hb]; rfl, ?_⟩
    exact ⟨b, es2, nS, .int c, rfl, MxO_at r, .inl ⟨_, rfl, rfl⟩, by rw [r.val, hc]; rfl, q _ s1⟩
end
end Eld
end L2

set_option Elab.async false
set_option linter.all false
set_option maxRecDepth 100000
set_option maxHeartbeats 4000000
/-! ## a room made anew -/
namespace L2
namespace Eld
open PySem PySem.Spec PyProof.Rows PySem.EldX
abbrev Wid := Nd × Nd × Int
def gs (L : List Wid) : Nd → Nd → Option Int := L.foldl (fun g x => widG g x.1 x.2.1 x.2.2) fun _ _ => none
theorem gs_add (L : List Wid) (x : Wid) : gs (L ++ [x]) = widG (gs L) x.1 x.2.1 x.2.2 := by
  unfold gs
  rw [List.foldl_append]
  rfl
theorem gD_wid {g : Nd → Nd → Option Int} {k1 k2 : Nd} {m : Int} (ne : k1 ≠ k2) (u v : Nd) : gD (widG g k1 k2 m) u v = gD g u v + if (k1, k2) = (u, v) then m else 0 := by
  unfold gD widG
  by_cases z : u = k1 ∧ v = k2
  · obtain ⟨rfl, rfl⟩ := z
    rw [if_pos ⟨rfl, rfl⟩, if_pos rfl]
    rfl
  · rw [if_neg z, if_neg (c := (k1, k2) = (u, v)) fun q => z ⟨(Prod.mk.inj q).1.symm, (Prod.mk.inj q).2.symm⟩]
    by_cases z2 : u = k2 ∧ v = k1
    · rw [if_pos z2]
      show (g u v).getD 0 = _
      omega
    · rw [if_neg z2]
      omega
theorem some_wid {g : Nd → Nd → Option Int} {k1 k2 : Nd} {m : Int} (u v : Nd) : (widG g k1 k2 m u v).isSome = true ↔ (g u v).isSome = true ∨ (u = k1 ∧ v = k2) ∨ (u = k2 ∧ v = k1) := by
  unfold widG
  by_cases z : u = k1 ∧ v = k2
  · rw [if_pos z]
    exact ⟨fun _ => .inr (.inl z), fun _ => rfl⟩
  · rw [if_neg z]
    by_cases z2 : u = k2 ∧ v = k1
    · rw [if_pos z2]
      exact ⟨fun _ => .inr (.inr z2), fun _ => rfl⟩
    · rw [if_neg z2]
      exact ⟨.inl, fun h => h.elim id fun h => h.elim (fun h => absurd h z) fun h => absurd h z2⟩
theorem Sym.wid {g : Nd → Nd → Option Int} (h : Sym g) {k1 k2 : Nd} {m : Int} (ne : k1 ≠ k2) : Sym (widG g k1 k2 m) := by
  refine ⟨fun u v z => ?_, fun u => ?_⟩
  · rw [some_wid] at z ⊢
    rcases z with z | z | z
    · exact .inl (h.both _ _ z)
    · exact .inr (.inr ⟨z.2, z.1⟩)
    · exact .inr (.inl ⟨z.2, z.1⟩)
  · cases e : widG g k1 k2 m u u with
    | none => rfl
    | some x =>
      have : (widG g k1 k2 m u u).isSome = true := by rw [e]; rfl
      rw [some_wid, h.self] at this
      rcases this with z | z | z
      · cases z
      · exact absurd (z.1.symm.trans z.2) ne
      · exact absurd (z.2.symm.trans z.1) ne
theorem Sym.none : Sym fun _ _ => none := ⟨fun _ _ h => (nomatch h), fun _ => rfl⟩
theorem gs_sum : ∀ (L : List Wid), (∀ x ∈ L, x.1 ≠ x.2.1) → ∀ u v, gD (gs L) u v = sm L fun x => if (x.1, x.2.1) = (u, v) then x.2.2 else 0 := by
  intro L
  rw [← List.reverse_reverse L]
  generalize L.reverse = M
  induction M with
  | nil => intro _ u v; rfl
  | cons x M ih =>
    intro h u v
    rw [List.reverse_cons] at h ⊢
    rw [gs_add, gD_wid (h x (by simp)), sm_app, ih fun y hy => h y (List.mem_append_left _ hy)]
    show _ = _ + ((if (x.1, x.2.1) = (u, v) then x.2.2 else 0) + 0)
    omega
theorem gs_some : ∀ (L : List Wid) (u v : Nd), (gs L u v).isSome = true ↔ ∃ x ∈ L, (u = x.1 ∧ v = x.2.1) ∨ (u = x.2.1 ∧ v = x.1) := by
  intro L
  rw [← List.reverse_reverse L]
  generalize L.reverse = M
  induction M with
  | nil => intro u v; exact ⟨fun h => (nomatch h), fun ⟨x, h, _⟩ => (nomatch h)⟩
  | cons x M ih =>
    intro u v
    rw [List.reverse_cons, gs_add, some_wid, ih]
    constructor
    · rintro (⟨y, hy, z⟩ | z)
      · exact ⟨y, List.mem_append_left _ hy, z⟩
      · exact ⟨x, by simp, z⟩
    · rintro ⟨y, hy, z⟩
      rcases List.mem_append.mp hy with hy | hy
      · exact .inl ⟨y, hy, z⟩
      · obtain rfl : y = x := by simpa using hy
        exact .inr z
theorem gs_sym (L : List Wid) (h : ∀ x ∈ L, x.1 ≠ x.2.1) : Sym (gs L) := by
  revert h
  rw [← List.reverse_reverse L]
  generalize L.reverse = M
  induction M with
  | nil => intro _; exact Sym.none
  | cons x M ih =>
    intro h
    rw [List.reverse_cons] at h ⊢
    rw [gs_add]
    exact (ih fun y hy => h y (List.mem_append_left _ hy)).wid (h x (by simp))
/-! ### the ways of takers and stores -/
def wT (t : Tk) (k : Str) : Wid := (nT t.nm, nK k, t.most)
def wK (st : Str → Int) (k : Str) : Wid := (nK k, nE, st k)
def ways1 (ts : List Tk) : List Wid := ts.flatMap fun t => t.fits.map (wT t)
def ways2 (ks : List Str) (st : Str → Int) : List Wid := ks.map (wK st)
theorem mem_ways1 {ts : List Tk} {x : Wid} : x ∈ ways1 ts ↔ ∃ t ∈ ts, ∃ k ∈ t.fits, x = wT t k := by
  unfold ways1
  rw [List.mem_flatMap]
  constructor
  · rintro ⟨t, ht, hx⟩
    obtain ⟨k, hk, rfl⟩ := List.mem_map.mp hx
    exact ⟨t, ht, k, hk, rfl⟩
  · rintro ⟨t, ht, k, hk, rfl⟩
    exact ⟨t, ht, List.mem_map.mpr ⟨k, hk, rfl⟩⟩
theorem mem_ways2 {ks : List Str} {st : Str → Int} {x : Wid} : x ∈ ways2 ks st ↔ ∃ k ∈ ks, x = wK st k := by
  unfold ways2
  rw [List.mem_map]
  exact ⟨fun ⟨k, hk, e⟩ => ⟨k, hk, e.symm⟩, fun ⟨k, hk, e⟩ => ⟨k, hk, e.symm⟩⟩
theorem sm_one {α : Type} {l : List α} {f : α → Int} {a : α} (hn : l.Nodup) (ha : a ∈ l) (h : ∀ b ∈ l, b ≠ a → f b = 0) : sm l f = f a := by
  induction l with
  | nil => cases ha
  | cons b l ih =>
    rw [List.nodup_cons] at hn
    rw [sm]
    rcases List.mem_cons.mp ha with e | ha
    · subst e
      rw [sm_zero fun c hc => h c (List.mem_cons_of_mem _ hc) fun e => hn.1 (e ▸ hc)]
      omega
    · rw [h b List.mem_cons_self fun e => hn.1 (e ▸ ha), ih hn.2 ha fun c hc n => h c (List.mem_cons_of_mem _ hc) n]
      omega
theorem sm_flatMap {α β : Type} (l : List α) (g : α → List β) (f : β → Int) : sm (l.flatMap g) f = sm l fun a => sm (g a) f := by
  induction l with
  | nil => rfl
  | cons a l ih => rw [List.flatMap_cons, sm_app, sm, ih]
theorem ways_ne (ts : List Tk) (ks : List Str) (st : Str → Int) : ∀ x ∈ ways1 ts ++ ways2 ks st, x.1 ≠ x.2.1 := fun x hx => by
  rcases List.mem_append.mp hx with h | h
  · obtain ⟨t, _, k, _, rfl⟩ := mem_ways1.mp h
    exact nT_nK
  · obtain ⟨k, _, rfl⟩ := mem_ways2.mp h
    exact nK_nE
theorem net_ways {ts : List Tk} {ks : List Str} {st : Str → Int} (G : Good ts ks st) (fn : ∀ t ∈ ts, t.fits.Nodup) : Net ts ks st (opd ts 0) (gD (gs (ways1 ts ++ ways2 ks st))) := by
  have hs := gs_sum (ways1 ts ++ ways2 ks st) (ways_ne ts ks st)
  have z0 : ∀ u v, (∀ t ∈ ts, ∀ k ∈ t.fits, (nT t.nm, nK k) ≠ (u, v)) → (∀ k ∈ ks, (nK k, nE) ≠ (u, v)) → gD (gs (ways1 ts ++ ways2 ks st)) u v = 0 := fun u v h1 h2 => by
    rw [hs]
    refine sm_zero fun x hx => if_neg ?_
    rcases List.mem_append.mp hx with h | h
    · obtain ⟨t, ht, k, hk, rfl⟩ := mem_ways1.mp h
      exact h1 t ht k hk
    · obtain ⟨k, hk, rfl⟩ := mem_ways2.mp h
      exact h2 k hk
  have o0 : ∀ x, opd ts 0 x = false := fun x => by
    unfold opd
    rw [List.take_zero]
    rfl
  have zST : ∀ x, gD (gs (ways1 ts ++ ways2 ks st)) nS x = 0 := fun x => z0 _ _ (fun t _ k _ e => nT_nS (Prod.mk.inj e).1) fun k _ e => nK_nS (Prod.mk.inj e).1
  have zTS : ∀ x, gD (gs (ways1 ts ++ ways2 ks st)) x nS = 0 := fun x => z0 _ _ (fun t _ k _ e => nK_nS (Prod.mk.inj e).2) fun k _ e => nE_nS (Prod.mk.inj e).2
  have zKT : ∀ x y, gD (gs (ways1 ts ++ ways2 ks st)) (nK x) (nT y) = 0 := fun x y => z0 _ _ (fun t _ k _ e => nT_nK (Prod.mk.inj e).1) fun k _ e => nE_nT (Prod.mk.inj e).2
  have zEK : ∀ x, gD (gs (ways1 ts ++ ways2 ks st)) nE x = 0 := fun x => z0 _ _ (fun t _ k _ e => nT_nE (Prod.mk.inj e).1) fun k _ e => nK_nE (Prod.mk.inj e).1
  have tk : ∀ t ∈ ts, ∀ k ∈ ks, gD (gs (ways1 ts ++ ways2 ks st)) (nT t.nm) (nK k) = if k ∈ t.fits then t.most else 0 := fun t ht k hk => by
    rw [hs, sm_app]
    have e2 : sm (ways2 ks st) (fun x => if (x.1, x.2.1) = (nT t.nm, nK k) then x.2.2 else 0) = 0 := sm_zero fun x hx => by
      obtain ⟨k', _, rfl⟩ := mem_ways2.mp hx
      exact if_neg fun e => nK_nT (Prod.mk.inj e).1
    rw [e2, Int.add_zero]
    unfold ways1
    rw [sm_flatMap, sm_one (nodup_ts G.tn) ht fun t' ht' ne => ?_, sm_map]
    · by_cases z : k ∈ t.fits
      · rw [if_pos z, sm_one (f := fun a => if ((wT t a).1, (wT t a).2.1) = (nT t.nm, nK k) then (wT t a).2.2 else 0) (fn t ht) z fun k' _ ne => if_neg fun e => ne (nK_inj (Prod.mk.inj e).2)]
        exact if_pos rfl
      · rw [if_neg z]
        refine sm_zero fun k' hk' => if_neg fun e => z ?_
        have e3 : k' = k := nK_inj (Prod.mk.inj e).2
        exact e3 ▸ hk'
    · rw [sm_map]
      exact sm_zero fun k' _ => if_neg fun e => ne (tn_inj G.tn ht' ht (nT_inj (Prod.mk.inj e).1))
  refine ⟨fun u v => ?_, fun t ht => ?_, fun t ht k hk => ?_, fun k hk => ?_, fun t ht => ?_, fun k hk => ?_, fun u v h => ?_⟩
  · rw [hs]
    refine sm_nn fun x hx => ?_
    split
    · rcases List.mem_append.mp hx with h | h
      · obtain ⟨t, ht, k, _, rfl⟩ := mem_ways1.mp h
        exact G.most t ht
      · obtain ⟨k, hk, rfl⟩ := mem_ways2.mp h
        exact G.st k hk
    · exact Int.le_refl _
  · rw [zST, zTS, o0]; rfl
  · rw [zKT, tk t ht k hk]; omega
  · rw [zEK, hs, sm_app]
    have e1 : sm (ways1 ts) (fun x => if (x.1, x.2.1) = (nK k, nE) then x.2.2 else 0) = 0 := sm_zero fun x hx => by
      obtain ⟨t, _, k', _, rfl⟩ := mem_ways1.mp hx
      exact if_neg fun e => nT_nK (Prod.mk.inj e).1
    rw [e1]
    unfold ways2
    rw [sm_map, sm_one (f := fun a => if ((wK st a).1, (wK st a).2.1) = (nK k, nE) then (wK st a).2.2 else 0) G.kn hk fun k' _ ne => if_neg fun e => ne (nK_inj (Prod.mk.inj e).1)]
    show 0 + (if (nK k, nE) = (nK k, nE) then st k else 0) + 0 = st k
    rw [if_pos rfl]
    omega
  · rw [zTS]
    exact (sm_zero fun k _ => zKT _ _).symm
  · rw [zEK]
    exact (sm_zero fun t _ => zKT _ _).symm
  · refine Classical.byContradiction fun n => h (z0 u v (fun t ht k hk e => n ?_) fun k hk e => n ?_)
    · cases e
      exact .tK ht (G.sub t ht k hk)
    · cases e
      exact .kE hk
theorem opn_wid (g : Nd → Nd → Option Int) (t : Tk) : gD (widG g nS (nT t.nm) t.most) = opn (gD g) t := by
  funext u v
  rw [gD_wid nS_nT]
  unfold opn
  by_cases z : u = nS ∧ v = nT t.nm
  · rw [if_pos z, if_pos (by rw [z.1, z.2])]
  · rw [if_neg z, if_neg fun e => z ⟨(Prod.mk.inj e).1.symm, (Prod.mk.inj e).2.symm⟩]
    omega
end Eld
end L2

set_option Elab.async false
set_option linter.all false
set_option maxRecDepth 100000
set_option maxHeartbeats 4000000
/-! ## poured -/
namespace L2
namespace Eld
open PySem PySem.Spec PyProof.Rows PySem.EldX
/-- takers as tuples of a name, kinds, a most -/
def TkIs (K : PySem.W.Frag) (H : Hp) (a : Addr) (t : Tk) : Prop := ∃ fp, H a = some (.tup [.str t.nm, .ref fp, .int t.most]) ∧ SqL K H fp (t.fits.map V.str)
structure TakAt (K : PySem.W.Frag) (H : Hp) (p : Addr) (tas : List Addr) (ts : List Tk) : Prop where
  at_ : H p = some (.lst (tas.map V.ref))
  rows : Paired (TkIs K H) tas ts
theorem TakAt.same {K : PySem.W.Frag} {H H' : Hp} {p : Addr} {tas : List Addr} {ts : List Tk} (h : TakAt K H p tas ts) (s : Same H H') : TakAt K H' p tas ts := ⟨s _ _ h.at_, paired_mono h.rows fun a t ⟨fp, e1, e2⟩ => ⟨fp, s _ _ e1, s.seq e2⟩⟩
/-- a dict of numbers, as a function -/
structure StkAt (H : Hp) (sp : Addr) (kvs : List (Key × V)) (st : Str → Int) : Prop where
  at_ : Rd H sp (.dK kvs)
  val : ∀ k, (valV kvs (.inr k) = none ∧ st k = 0) ∨ valV kvs (.inr k) = some (.int (st k))
theorem StkAt.same {H H' : Hp} {sp : Addr} {kvs : List (Key × V)} {st : Str → Int} (h : StkAt H sp kvs st) (s : Same H H') : StkAt H' sp kvs st := ⟨by
  rcases h.at_ with e | ⟨o, e⟩
  · exact .inl (s _ _ e)
  · exact .inr ⟨o, s _ _ e⟩, h.val⟩
/-- a room made since H -/
structure PSt (w : World) (H H1 : Hp) (a : Addr) (N : Nat) (ad : Nd → Option Addr) (g : Nd → Nd → Option Int) : Prop where
  R : RoomAt w H1 a N ad g
  s : Same H H1
  fr : ∀ b, InRoom a ad b → H b = none
  st : (ad nS).isSome = true
  sy : Sym g
theorem PSt.step {w : World} {H H1 H2 : Hp} {a : Addr} {N N2 : Nat} {ad ad2 : Nd → Option Addr} {g g2 : Nd → Nd → Option Int} (h : PSt w H H1 a N ad g) (R : RoomAt w H2 a N2 ad2 g2) (k : RoomKept a ad ad2 H1 H2) (y : Sym g2) : PSt w H H2 a N2 ad2 g2 := by
  refine ⟨R, fun b o e => k.kept b o (fun z => ?_) (h.s b o e), fun b hb => ?_, ?_, y⟩
  · rw [h.fr b z] at e
    cases e
  · rcases hb with rfl | ⟨x, hx⟩
    · exact h.fr b (.inl rfl)
    · rcases k.new x b hx with q | ⟨_, q⟩
      · exact h.fr b (.inr ⟨x, q⟩)
      · exact none_of_same h.s q
  · obtain ⟨b, hb⟩ := Option.isSome_iff_exists.mp h.st
    rw [k.old _ _ hb]; rfl
theorem PSt.same {w : World} {H H1 H2 : Hp} {a : Addr} {N : Nat} {ad : Nd → Option Addr} {g : Nd → Nd → Option Int} (h : PSt w H H1 a N ad g) (s : Same H1 H2) : PSt w H H2 a N ad g := h.step (h.R.same s) (RoomKept.of_same s) h.sy
/-- a room with nothing but its two ends -/
theorem room_new {w : World} {H : Hp} {a p q : Addr} (e : H a = some (MxO w a [(nS, .str "start", .ref p), (nE, .str "end", .ref q)])) (ep : H p = some (MxO w p [])) (eq : H q = some (MxO w q [])) (pq : p ≠ q) (pa : p ≠ a) (qa : q ≠ a) :
    RoomAt w H a 2 (fun k => if k = nS then some p else if k = nE then some q else none) (fun _ _ => none) := by
  refine ⟨⟨_, e, fun x hx => ?_, List.nodup_cons.mpr ⟨fun h => nS_nE (List.mem_singleton.mp h), by simp⟩, Nat.le_refl _, fun k => ?_⟩, fun k b hb => ?_, fun k k' b hb hb' => ?_, fun k b hb => ?_, fun _ _ _ => rfl, fun u v x h => nomatch h⟩
  · rcases List.mem_cons.mp hx with rfl | hx
    · exact .inl ⟨_, rfl, rfl⟩
    · obtain rfl := List.mem_singleton.mp hx
      exact .inl ⟨_, rfl, rfl⟩
  · unfold valM
    rw [List.find?_cons]
    by_cases z : k = nS
    · rw [if_pos z, decide_eq_true z.symm]; rfl
    · rw [if_neg z, decide_eq_false fun e => z e.symm, List.find?_cons]
      by_cases z2 : k = nE
      · rw [if_pos z2, decide_eq_true z2.symm]; rfl
      · rw [if_neg z2, decide_eq_false fun e => z2 e.symm]; rfl
  · have empty : ∀ c, H c = some (MxO w c []) → ∃ es, RowAt w H c 2 (fun _ => none) es := fun c hc => ⟨[], ⟨hc, (fun e he => (nomatch he)), List.nodup_nil, by decide, fun k => rfl⟩⟩
    by_cases z : k = nS
    · rw [if_pos z] at hb
      cases hb
      exact empty _ ep
    · rw [if_neg z] at hb
      by_cases z2 : k = nE
      · rw [if_pos z2] at hb
        cases hb
        exact empty _ eq
      · rw [if_neg z2] at hb
        cases hb
  · by_cases z : k = nS
    · rw [if_pos z] at hb
      by_cases z' : k' = nS
      · rw [z, z']
      · rw [if_neg z'] at hb'
        by_cases z2' : k' = nE
        · rw [if_pos z2'] at hb'
          exact absurd (Option.some.inj (hb.trans hb'.symm)) pq
        · rw [if_neg z2'] at hb'
          cases hb'
    · rw [if_neg z] at hb
      by_cases z2 : k = nE
      · rw [if_pos z2] at hb
        by_cases z' : k' = nS
        · rw [if_pos z'] at hb'
          exact absurd (Option.some.inj (hb'.trans hb.symm)) pq
        · rw [if_neg z'] at hb'
          by_cases z2' : k' = nE
          · rw [z2, z2']
          · rw [if_neg z2'] at hb'
            cases hb'
      · rw [if_neg z2] at hb
        cases hb
  · by_cases z : k = nS
    · rw [if_pos z] at hb
      cases hb
      exact pa
    · rw [if_neg z] at hb
      by_cases z2 : k = nE
      · rw [if_pos z2] at hb
        cases hb
        exact qa
      · rw [if_neg z2] at hb
        cases hb
section
variable {P : Program} {w : World} {K : PySem.W.Frag} {mg : Str → Option Value} {base : Heap}
def spPoured (w : World) (K : PySem.W.Frag) : Sp := fun vs H Q _ => ∃ (p sp : Addr) (tas : List Addr) (ts : List Tk) (kvs : List (Key × V)) (st : Str → Int) (U : List Str), vs = [.ref p, .ref sp] ∧ TakAt K H p tas ts ∧ StkAt H sp kvs st ∧ (ts.map (·.nm)).Nodup ∧ (∀ t ∈ ts, 0 ≤ t.most ∧ t.fits.Nodup ∧ ∀ k ∈ t.fits, k ∈ U) ∧ (∀ k, 0 ≤ st k) ∧ U.length < 64 ∧ ts.length ≤ 900 ∧
  ∀ (H' : Hp) (a : Addr) (N : Nat) (ad : Nd → Option Addr) (g : Nd → Nd → Option Int) (ks : List Str), Same H H' → H a = none → RoomAt w H' a N ad g → (∀ k, k ∈ ks ↔ ∃ t ∈ ts, k ∈ t.fits) → Good ts ks st → Srv ts ks st ts.length (gD g) → (∀ t ∈ ts, (g (nT t.nm) nS).isSome = true) → (∀ t ∈ ts, ∀ k ∈ t.fits, (g (nK k) (nT t.nm)).isSome = true) → Q (.ref a) H'
/-- the ways done ahead of a taker's k-th kind -/
def ways0 (ts : List Tk) (i j : Nat) : List Wid := ways1 (ts.take i) ++ match ts[i]? with
  | some t => (t.fits.take j).map (wT t)
  | none => []
theorem ways0_zero (ts : List Tk) (i : Nat) : ways0 ts i 0 = ways1 (ts.take i) := by
  unfold ways0
  cases ts[i]? with
  | none => simp
  | some t => simp
theorem ways0_succ {ts : List Tk} {i j : Nat} {t : Tk} {k : Str} (ht : ts[i]? = some t) (hk : t.fits[j]? = some k) : ways0 ts i (j + 1) = ways0 ts i j ++ [wT t k] := by
  unfold ways0
  rw [ht]
  show _ ++ (t.fits.take (j + 1)).map (wT t) = _ ++ (t.fits.take j).map (wT t) ++ _
  rw [List.take_add_one, hk, List.map_append, List.append_assoc]
  rfl
theorem ways0_end {ts : List Tk} {i : Nat} {t : Tk} (ht : ts[i]? = some t) : ways0 ts i t.fits.length = ways1 (ts.take (i + 1)) := by
  unfold ways0 ways1
  rw [ht, List.take_add_one, ht, List.flatMap_append]
  show _ ++ (t.fits.take t.fits.length).map (wT t) = _ ++ List.flatMap _ [t]
  rw [List.take_length]
  simp
theorem ways1_len {ts : List Tk} {U : List Str} (h : ∀ t ∈ ts, t.fits.Nodup ∧ ∀ k ∈ t.fits, k ∈ U) : (ways1 ts).length ≤ ts.length * U.length := by
  induction ts with
  | nil => exact Nat.zero_le _
  | cons t ts ih =>
    have h1 := ih fun u hu => h u (List.mem_cons_of_mem _ hu)
    have h2 := nodup_leG t.fits U (h t List.mem_cons_self).1 (h t List.mem_cons_self).2
    unfold ways1 at h1 ⊢
    rw [List.flatMap_cons, List.length_append, List.length_map, List.length_cons, Nat.add_mul, Nat.one_mul]
    omega
theorem ways0_sub {ts : List Tk} {i j : Nat} {x : Wid} (h : x ∈ ways0 ts i j) : x ∈ ways1 ts := by
  unfold ways0 at h
  rcases List.mem_append.mp h with h | h
  · obtain ⟨t, ht, k, hk, e⟩ := mem_ways1.mp h
    exact mem_ways1.mpr ⟨t, List.mem_of_mem_take ht, k, hk, e⟩
  · cases e : ts[i]? with
    | none => rw [e] at h; cases h
    | some t =>
      rw [e] at h
      obtain ⟨k, hk, rfl⟩ := List.mem_map.mp h
      exact mem_ways1.mpr ⟨t, List.mem_of_getElem? e, k, List.mem_of_mem_take hk, rfl⟩
theorem ways0_len {ts : List Tk} {U : List Str} (h : ∀ t ∈ ts, t.fits.Nodup ∧ ∀ k ∈ t.fits, k ∈ U) (hU : U.length < 64) (hz : ts.length ≤ 900) (i j : Nat) : (ways0 ts i j).length ≤ 60000 := by
  unfold ways0
  rw [List.length_append]
  have h1 := ways1_len (ts := ts.take i) (U := U) fun t ht => h t (List.mem_of_mem_take ht)
  have h2 : (ts.take i).length ≤ 900 := by rw [List.length_take]; omega
  have h3 : (ts.take i).length * U.length ≤ 900 * 63 := Nat.mul_le_mul h2 (by omega)
  have h4 : (match ts[i]? with | some t => (t.fits.take j).map (wT t) | none => []).length ≤ 63 := by
    cases e : ts[i]? with
    | none => exact Nat.zero_le _
    | some t =>
      have := nodup_leG t.fits U (h t (List.mem_of_getElem? e)).1 (h t (List.mem_of_getElem? e)).2
      show ((t.fits.take j).map (wT t)).length ≤ 63
      rw [List.length_map, List.length_take]
      omega
  omega
theorem ok_poured {f fW fP fS fM fR : Addr} {fd dW dP dS dM dR : FuncData} {u v : Value} (F : Fun K "poured" "poured" sPoured f fd) (FWiden : Fun K "widen" "widen" sWiden fW dW) (gWiden : mg "widen" = some (.ref fW)) (FPush : Fun K "push" "push" sPush fP dP) (gPush : mg "push" = some (.ref fP))
    (FReach : Fun K "reach" "reach" sReach fR dR) (gReach : mg "reach" = some (.ref fR)) (FMove : Fun K "move" "move" sMove fM dM) (gMove : mg "move" = some (.ref fM)) (FSteps : Fun K "_steps" "_steps" sSteps fS dS) (gSteps : mg "_steps" = some (.ref fS)) (B : Blt mg)
    (gStart : mg "START" = some u) (rStart : RelV (.str "start") u) (gEnd : mg "END" = some v) (rEnd : RelV (.str "end") v) : FnOk P w K mg base CX0 4 f fd ["takers", "stores"] (spPoured w K) := by
  have GWiden : FnOk P w K mg base CX0 1 fW dW ["room", "one", "other", "many"] (spWiden w) := ok_widen FWiden
  have bWiden : Binds K dW ["room", "one", "other", "many"] [] := FWiden.binds fun _ _ _ _ _ _ us hl => match us, hl with | [_, _, _, _], _ => rfl
  have GPush : FnOk P w K mg base CX0 3 fP dP ["room", "start", "end"] (spPush w) := ok_push FPush FReach gReach FMove gMove FSteps gSteps B
  have bPush : Binds K dP ["room", "start", "end"] [] := FPush.binds fun _ _ _ _ _ _ us hl => match us, hl with | [_, _, _], _ => rfl
  refine F.ok scPoured (fun vs H Q E h => ?_) (fun cdv A outer s H vs Q E hr h => ?_)
  · obtain ⟨p, sp, tas, ts, kvs, st, U, rfl, _⟩ := h
    rfl
  · obtain ⟨p, sp, tas, ts, kvs, st, U, rfl, hT, hS, tn, hts, hst, hU, hz, qq⟩ := h
    refine ⟨_, (pss_cons (ps_set (i := 2) scPoured.nd rfl (.inl rfl) (pe_retag (pe_disp (pps_cons (pe_glob (by rfl) gStart rStart) pe_mnew (pps_cons (pe_glob (by rfl) gEnd rEnd) pe_mnew pps_nil)) (by rfl) (by rfl) (fun z => by cases z) (by decide))))
      (pss_cons (ps_for PassesOwn.never rfl (pi_list (pv 0)) (pg_tup rfl (pgs_cons (pg_name (i := 3) scPoured.nd rfl (.inl rfl)) (pgs_cons (pg_name (i := 4) scPoured.nd rfl (.inl rfl)) (pgs_cons (pg_name (i := 5) scPoured.nd rfl (.inl rfl)) pgs_nil))))
        (pss_one (ps_for PassesOwn.never rfl (pi_list (pv 4)) (pg_name (i := 6) scPoured.nd rfl (.inl rfl))
          (pss_one (ps_expr (pe_call GWiden (hr.mono (by decide)) (by rfl) gWiden FWiden.kp bWiden .nil pass0 (pa_cons (pv 2) (pa_cons (pe_tup (pa_cons pe_str (pa_cons (pv 3) pa_nil))) (pa_cons (pe_tup (pa_cons pe_str (pa_cons (pv 6) pa_nil))) (pa_cons (pv 5) pa_nil))))))))))
      (pss_cons (ps_for PassesOwn.never rfl (pi_list (pe_callB (cr_sortedSetS rfl) (by rfl) B.sorted (by decide +kernel) (pa_cons (pe_sc2 (own := [("_", 7), ("fits", 4), ("kind", 6)]) (vs1 := [6]) (g := gTup K 3 (gCons (gName 7) (gCons (gName 4) (gCons (gName 7) gNil)))) (g1 := gName 6) (wi1 := iList K (tVar 4)) rfl scPoured.nd (pi_list (pv 0)) (blkOk_by (own := [("_", 7), ("fits", 4), ("kind", 6)]) (N := NPoured) (sc := defScope sPoured) (by decide +kernel)) (by decide)
          (fun _ _ _ _ _ => pg_tup rfl (pgs_cons (pg_name (i := 7) scPoured.nd rfl (.inl rfl)) (pgs_cons (pg_name (i := 4) scPoured.nd rfl (.inl rfl)) (pgs_cons (pg_name (i := 7) scPoured.nd rfl (.inl rfl)) pgs_nil)))) (fun _ _ _ _ _ => pi_list (pv 4)) (fun _ _ _ _ _ => pg_name (i := 6) scPoured.nd rfl (.inl rfl)) (fun _ _ _ _ _ => pv 6)) pa_nil))) (pg_name (i := 6) scPoured.nd rfl (.inl rfl))
        (pss_one (ps_expr (pe_call GWiden (hr.mono (by decide)) (by rfl) gWiden FWiden.kp bWiden .nil pass0 (pa_cons (pv 2) (pa_cons (pe_tup (pa_cons pe_str (pa_cons (pv 6) pa_nil))) (pa_cons (pe_glob (by rfl) gEnd rEnd) (pa_cons (pe_dget2 (hu_of hr) (pv 1) (pv 6) pe_int ⟨rfl, rfl, rfl, rfl⟩) pa_nil))))))))
      (pss_cons (ps_for PassesOwn.never rfl (pi_list (pv 0)) (pg_tup rfl (pgs_cons (pg_name (i := 3) scPoured.nd rfl (.inl rfl)) (pgs_cons (pg_name (i := 7) scPoured.nd rfl (.inl rfl)) (pgs_cons (pg_name (i := 5) scPoured.nd rfl (.inl rfl)) pgs_nil))))
        (pss_cons (ps_expr (pe_call GWiden (hr.mono (by decide)) (by rfl) gWiden FWiden.kp bWiden .nil pass0 (pa_cons (pv 2) (pa_cons (pe_glob (by rfl) gStart rStart) (pa_cons (pe_tup (pa_cons pe_str (pa_cons (pv 3) pa_nil))) (pa_cons (pv 5) pa_nil))))))
        (pss_one (ps_expr (pe_call GPush (hr.mono (by decide)) (by rfl) gPush FPush.kp bPush .nil pass0 (pa_cons (pv 2) (pa_cons (pe_glob (by rfl) gStart rStart) (pa_cons (pe_glob (by rfl) gEnd rEnd) pa_nil))))))))
      (pss_one (ps_ret (pv 2))))))), ?_⟩
    refine fun a na q1 nq1 q2 nq2 => ?_
    have s0 : Same H (upd H a (.dK [])) := Same.fresh na
    have s1 : Same H (upd (upd H a (.dK [])) q1 (MxO w q1 [])) := s0.trans (Same.fresh nq1)
    have s2 : Same H (upd (upd (upd H a (.dK [])) q1 (MxO w q1 [])) q2 (MxO w q2 [])) := s1.trans (Same.fresh nq2)
    have n1 : q1 ≠ a := fun e => by rw [e, upd_same] at nq1; cases nq1
    have n21 : q1 ≠ q2 := fun e => by rw [← e, upd_same] at nq2; cases nq2
    have n2 : q2 ≠ a := fun e => by rw [e, upd_ne (Ne.symm n1), upd_same] at nq2; cases nq2
    have nq10 := none_of_same s0 nq1
    have nq20 := none_of_same s1 nq2
    refine ⟨by rw [upd_ne (Ne.symm n2), upd_ne (Ne.symm n1), upd_same], [(.inr "start", .ref q1), (.inr "end", .ref q2)], rfl, by show 2 ≤ 15; decide, a, [("start", .ref q1), ("end", .ref q2)], rfl, by rw [upd_same]; rfl, ?_⟩
    have R0 : RoomAt w (upd (upd (upd (upd (upd H a (.dK [])) q1 (MxO w q1 [])) q2 (MxO w q2 [])) a (.dK (mergeK [] [(.inr "start", .ref q1), (.inr "end", .ref q2)]))) a (MxO w a (toM [("start", .ref q1), ("end", .ref q2)]))) a 2 _ _ :=
      room_new (p := q1) (q := q2) upd_same (by rw [upd_ne n1, upd_ne n1, upd_ne n21, upd_same]) (by rw [upd_ne n2, upd_ne n2, upd_same]) n21 n1 n2
    have P0 : PSt w H _ a 2 _ _ := ⟨R0, (s2.put na).put na, fun b hb => ?_, by rw [if_pos rfl]; rfl, Sym.none⟩
    rotate_left
    · rcases hb with rfl | ⟨k, hk⟩
      · exact na
      · have hk : (if k = nS then some q1 else if k = nE then some q2 else none) = some b := hk
        by_cases z : k = nS
        · rw [if_pos z] at hk
          cases hk
          exact nq10
        · rw [if_neg z] at hk
          by_cases z2 : k = nE
          · rw [if_pos z2] at hk
            cases hk
            exact nq20
          · rw [if_neg z2] at hk
            cases hk
    refine ⟨.ref p, rfl, p, rfl, ⟨_, SqL.of (P0.s _ _ hT.at_)⟩, ?_⟩
    have lt : tas.length = ts.length := Paired.length hT.rows
    have w0 : Walk (Itl K p) tas.length (fun H => SqL K H p (tas.map V.ref)) (YAt (tas.map V.ref)) := by
      have := walk_list (K := K) (a := p) (xs := tas.map V.ref)
      rw [List.length_map] at this
      exact this
    have hfU : ∀ t ∈ ts, t.fits.Nodup ∧ ∀ k ∈ t.fits, k ∈ U := fun t ht => (hts t ht).2
    have bnd : ∀ i j, 2 + 4 * (ways0 ts i j).length + 4 < sizeLine := fun i j => by
      have := ways0_len hfU hU hz i j
      rw [sizeLine_eq]
      omega
    refine for_it w0 (fun i σ G => ∃ (v3 v4 v5 v6 v7 : Option V) (ad : Nd → Option Addr), σ = [some (.ref p), some (.ref sp), some (.ref a), v3, v4, v5, v6, v7] ∧ PSt w H G a (2 + 4 * (ways0 ts i 0).length) ad (gs (ways0 ts i 0)))
      ⟨_, _, _, _, _, _, rfl, by
        have e : ways0 ts 0 0 = [] := by rw [ways0_zero, List.take_zero]; rfl
        rw [e]
        exact P0⟩ (fun i σ G _ ⟨_, _, _, _, _, _, _, P⟩ => SqL.of (P.s _ _ hT.at_)) ?_ ?_
    · rintro i x σ G G' hi ⟨v3, v4, v5, v6, v7, ad, rfl, P1⟩ ⟨rfl, hx⟩
      obtain ⟨ta, hta, rfl⟩ := map_ref_at hx
      obtain ⟨t, ht, fp, et, ef⟩ := paired_get' hT.rows hta
      have hm := List.mem_of_getElem? ht
      refine ⟨ta, _, rfl, SqT.of (P1.s _ _ et), rfl, _, _, rfl, _, _, rfl, _, [], rfl, rfl, .ref fp, rfl, fp, rfl, ⟨_, P1.s.seq ef⟩, ?_⟩
      have w1 : Walk (Itl K fp) t.fits.length (fun H => SqL K H fp (t.fits.map V.str)) (YAt (t.fits.map V.str)) := by
        have := walk_list (K := K) (a := fp) (xs := t.fits.map V.str)
        rw [List.length_map] at this
        exact this
      refine for_it w1 (fun j σ G => ∃ (v6 v7 : Option V) (ad : Nd → Option Addr), σ = [some (.ref p), some (.ref sp), some (.ref a), some (.str t.nm), some (.ref fp), some (.int t.most), v6, v7] ∧ PSt w H G a (2 + 4 * (ways0 ts i j).length) ad (gs (ways0 ts i j)))
        ⟨_, _, ad, rfl, P1⟩ (fun i σ G _ ⟨_, _, _, _, P⟩ => P.s.seq ef) ?_ ?_
      · rintro j y σ G2 G2' hj ⟨v6, v7, ad2, rfl, P2⟩ ⟨rfl, hy⟩
        obtain ⟨k, hk, rfl⟩ := str_at hy
        refine ⟨.ref a, rfl, .str t.nm, rfl, (by show 2 ≤ sizeLine; decide), fun x1 nx1 => ⟨.str k, rfl, (by show 2 ≤ sizeLine; decide), fun x2 nx2 => ⟨.int t.most, rfl, ?_⟩⟩⟩
        have sx1 : Same G2' (upd G2' x1 (.tup [.str "taker", .str t.nm])) := Same.fresh nx1
        have sx2 : Same (upd G2' x1 (.tup [.str "taker", .str t.nm])) (upd (upd G2' x1 (.tup [.str "taker", .str t.nm])) x2 (.tup [.str "store", .str k])) := Same.fresh nx2
        have P3 := P2.same (sx1.trans sx2)
        refine ⟨a, _, ad2, _, nT t.nm, nK k, .ref x1, .ref x2, t.most, rfl, P3.R, .inr ⟨x1, ["taker", t.nm], rfl, rfl, sx2 _ _ upd_same⟩, .inr ⟨x2, ["store", k], rfl, rfl, upd_same⟩, nT_nK, bnd i j, fun H4 ad4 R4 k4 => ?_⟩
        have P4 := P3.step R4 k4 (P3.sy.wid nT_nK)
        have e1 := ways0_succ ht hk
        have e2 : gs (ways0 ts i (j + 1)) = widG (gs (ways0 ts i j)) (nT t.nm) (nK k) t.most := by rw [e1, gs_add]; rfl
        have e3 : 2 + 4 * (ways0 ts i (j + 1)).length = 2 + 4 * (ways0 ts i j).length + 4 := by rw [e1, List.length_append, List.length_singleton]; omega
        refine ⟨_, _, ad4, rfl, ?_⟩
        rw [e2, e3]
        exact P4
      · rintro σ G2 ⟨v6, v7, ad2, rfl, P2⟩
        refine ⟨_, _, _, _, _, ad2, rfl, ?_⟩
        rw [ways0_zero, ← ways0_end ht]
        exact P2
    rintro σ G ⟨v3, v4, v5, v6, v7, ad, rfl, P1⟩
    rw [lt, ways0_zero, List.take_length] at P1
    refine ⟨.ref p, rfl, p, rfl, ⟨_, SqL.of (P1.s _ _ hT.at_)⟩, fun D hD => ?_⟩
    refine sc2_it (n := tas.length) w0 (fun i G2 => Same G G2 ∧ HasS w G2 D fun k => ∃ t ∈ ts.take i, k ∈ t.fits)
      ⟨Same.fresh hD, _, 0, [], upd_same, .nil, rfl, fun j => by simp, fun j => by simp⟩ (fun i G2 _ q => SqL.of (q.1 _ _ (P1.s _ _ hT.at_))) ?_ ?_
    · rintro i x G2 G2' hi ⟨sG, hs⟩ ⟨rfl, hx⟩
      obtain ⟨ta, hta, rfl⟩ := map_ref_at hx
      obtain ⟨t, ht, fp, et, ef⟩ := paired_get' hT.rows hta
      have hm := List.mem_of_getElem? ht
      have sH := P1.s.trans sG
      have inU : ∀ i j, (∃ t ∈ ts.take i, j ∈ t.fits) → j ∈ U := fun i j ⟨t, ht, hj⟩ => (hfU t (List.mem_of_mem_take ht)).2 j hj
      refine ⟨ta, _, rfl, SqT.of (sH _ _ et), rfl, _, _, rfl, _, _, rfl, _, [], rfl, rfl, rfl, .ref fp, rfl, fp, rfl, ⟨_, sH.seq ef⟩, ?_⟩
      refine sc_in (n1 := t.fits.length) (by have := walk_list (K := K) (a := fp) (xs := t.fits.map V.str); rw [List.length_map] at this; exact this) (fun j G3 => Same G G3 ∧ HasS w G3 D fun z => (∃ t ∈ ts.take i, z ∈ t.fits) ∨ z ∈ t.fits.take j)
        ⟨sG, hs.iff fun j => by simp⟩ (fun j G3 _ q => (P1.s.trans q.1).seq ef) ?_ ?_
      · rintro j y G3 G3' hj ⟨s3, hs3⟩ ⟨rfl, hy⟩
        obtain ⟨c, hc, rfl⟩ := str_at hy
        obtain ⟨S, n, e3, room, more⟩ := hs3.add (c := c) (U := U) (fun z hz => hz.elim (inU i z) fun hz => (hfU t hm).2 z (List.mem_of_mem_take hz)) hU
        refine ⟨rfl, .str c, rfl, c, S, n, rfl, e3, room, s3.put hD, more.iff fun z => ?_⟩
        rw [mem_take_succ hc]
        exact or_assoc
      · rintro G3 ⟨s3, hs3⟩
        refine ⟨s3, hs3.iff fun z => ?_⟩
        rw [List.take_length]
        constructor
        · rintro (⟨k', hk', hz⟩ | hz)
          · exact ⟨k', (mem_take_succ ht k').mpr (.inl hk'), hz⟩
          · exact ⟨t, (mem_take_succ ht t).mpr (.inr rfl), hz⟩
        · rintro ⟨k', hk', hz⟩
          rcases (mem_take_succ ht k').mp hk' with h | rfl
          · exact .inl ⟨k', h, hz⟩
          · exact .inr hz
    rintro G2 ⟨sG, S, n, xs, e, nd, rfl, hSS, hM⟩
    have le : xs.length ≤ U.length := nodup_le xs U nd fun y hy => by
      obtain ⟨t, ht, hk⟩ := (hM y).mp hy
      exact (hfU t (List.mem_of_mem_take ht)).2 y hk
    refine ⟨D, S, xs.length, rfl, e, by omega, fun zs pz hso hnd hmem hlen npz => ?_⟩
    have hzs : ∀ k, k ∈ zs ↔ ∃ t ∈ ts, k ∈ t.fits := fun k => by
      rw [hmem, hSS, hM, lt, List.take_length]
    have good : Good ts zs st := ⟨tn, hnd, fun t ht => (hts t ht).1, fun t ht k hk => (hzs k).mpr ⟨t, ht, hk⟩, fun k _ => hst k⟩
    have sz : Same G2 (upd G2 pz (.lst (zs.map V.str))) := Same.fresh npz
    have P2 := P1.same (sG.trans sz)
    have npzH : H pz = none := none_of_same (P1.s.trans sG) npz
    refine ⟨pz, rfl, ⟨_, SqL.of upd_same⟩, ?_⟩
    have w2 : Walk (Itl K pz) zs.length (fun H => SqL K H pz (zs.map V.str)) (YAt (zs.map V.str)) := by
      have := walk_list (K := K) (a := pz) (xs := zs.map V.str)
      rw [List.length_map] at this
      exact this
    have epz : (upd G2 pz (.lst (zs.map V.str))) pz = some (.lst (zs.map V.str)) := upd_same
    have stay : ∀ {G3 G4 : Hp} {N : Nat} {ad ad2 : Nd → Option Addr} {g : Nd → Nd → Option Int}, RoomAt w G3 a N ad g → RoomKept a ad ad2 G3 G4 → G3 pz = some (.lst (zs.map V.str)) → G4 pz = some (.lst (zs.map V.str)) := fun {G3 G4 N ad ad2 g} R k e => k.kept pz _ (fun z => by
      obtain ⟨es, e'⟩ := R.has z
      rw [e] at e'
      cases e') e
    have lzs : zs.length ≤ 63 := by
      have := nodup_leG zs U hnd fun y hy => by
        obtain ⟨t, ht, hk⟩ := (hzs y).mp hy
        exact (hfU t ht).2 y hk
      omega
    have lw1 : (ways1 ts).length ≤ 60000 := by
      have := ways0_len hfU hU hz ts.length 0
      rw [ways0_zero, List.take_length] at this
      exact this
    refine for_it w2 (fun j σ G => ∃ (v3 v4 v5 v6 v7 : Option V) (ad : Nd → Option Addr), σ = [some (.ref p), some (.ref sp), some (.ref a), v3, v4, v5, v6, v7] ∧ PSt w H G a (2 + 4 * ((ways1 ts).length + j)) ad (gs (ways1 ts ++ ways2 (zs.take j) st)) ∧ G pz = some (.lst (zs.map V.str)))
      ⟨_, _, _, _, _, ad, rfl, by
        rw [List.take_zero]
        show PSt w H _ a (2 + 4 * ((ways1 ts).length + 0)) ad (gs (ways1 ts ++ []))
        rw [List.append_nil]
        exact P2, epz⟩ (fun i σ G _ ⟨_, _, _, _, _, _, _, _, e⟩ => SqL.of e) ?_ ?_
    · rintro j y σ G3 G3' hj ⟨v3, v4, v5, v6, v7, ad2, rfl, P3, e3⟩ ⟨rfl, hy⟩
      obtain ⟨k, hk, rfl⟩ := str_at hy
      have ev : (valV kvs (.inr k)).getD (V.int 0) = V.int (st k) := by
        rcases hS.val k with ⟨q1, q2⟩ | q
        · rw [q1, q2]; rfl
        · rw [q]; rfl
      refine ⟨.ref a, rfl, .str k, rfl, (by show 2 ≤ sizeLine; decide), fun x1 nx1 => ?_⟩
      have sx1 : Same G3' (upd G3' x1 (.tup [.str "store", .str k])) := Same.fresh nx1
      have P4 := P3.same sx1
      have rd := (hS.same P4.s).at_
      refine ⟨.ref sp, rfl, sp, rfl, .inl ⟨_, rd⟩, .str k, rfl, valV kvs (.inr k), .inl ⟨_, .inr k, rd, rfl, rfl⟩, ?_⟩
      refine ⟨a, _, ad2, _, nK k, nE, .ref x1, .str "end", st k, by rw [ev]; rfl, P4.R, .inr ⟨x1, ["store", k], rfl, rfl, upd_same⟩, .inl ⟨_, rfl, rfl⟩, nK_nE, by rw [sizeLine_eq]; omega, fun H5 ad5 R5 k5 => ?_⟩
      have P5 := P4.step R5 k5 (P4.sy.wid nK_nE)
      have e1 : ways1 ts ++ ways2 (zs.take (j + 1)) st = (ways1 ts ++ ways2 (zs.take j) st) ++ [wK st k] := by
        unfold ways2
        rw [List.take_add_one, hk, List.map_append, List.append_assoc]
        rfl
      refine ⟨_, _, _, _, _, ad5, rfl, ?_, stay P4.R k5 (sx1 _ _ e3)⟩
      rw [e1, gs_add]
      exact P5
    rintro σ G3 ⟨v3, v4, v5, v6, v7, ad2, rfl, P3, e3⟩
    rw [List.take_length] at P3
    refine ⟨.ref p, rfl, p, rfl, ⟨_, SqL.of (P3.s _ _ hT.at_)⟩, ?_⟩
    refine for_it w0 (fun i σ G => ∃ (v3 v4 v5 v6 v7 : Option V) (ad : Nd → Option Addr) (g : Nd → Nd → Option Int), σ = [some (.ref p), some (.ref sp), some (.ref a), v3, v4, v5, v6, v7] ∧ PSt w H G a (2 + 4 * ((ways1 ts).length + zs.length + i)) ad g ∧ Srv ts zs st i (gD g) ∧ (∀ t ∈ ts.take i, (g (nT t.nm) nS).isSome = true) ∧ (∀ t ∈ ts, ∀ k ∈ t.fits, (g (nK k) (nT t.nm)).isSome = true))
      ⟨_, _, _, _, _, ad2, _, rfl, P3, Srv.start (net_ways good fun t ht => (hfU t ht).1), (fun t ht => by rw [List.take_zero] at ht; cases ht), fun t ht k hk => (gs_some _ _ _).mpr ⟨wT t k, List.mem_append_left _ (mem_ways1.mpr ⟨t, ht, k, hk, rfl⟩), .inr ⟨rfl, rfl⟩⟩⟩ (fun i σ G _ ⟨_, _, _, _, _, _, _, _, P, _⟩ => SqL.of (P.s _ _ hT.at_)) ?_ ?_
    · rintro i x σ G4 G4' hi ⟨v3, v4, v5, v6, v7, ad4, g4, rfl, P4, S4, sh1, sh2⟩ ⟨rfl, hx⟩
      obtain ⟨ta, hta, rfl⟩ := map_ref_at hx
      obtain ⟨t, ht, fp, et, ef⟩ := paired_get' hT.rows hta
      refine ⟨ta, _, rfl, SqT.of (P4.s _ _ et), rfl, _, _, rfl, _, _, rfl, _, [], rfl, rfl, ?_⟩
      refine ⟨.ref a, rfl, .str t.nm, rfl, (by show 2 ≤ sizeLine; decide), fun x1 nx1 => ⟨.int t.most, rfl, ?_⟩⟩
      have sx1 : Same G4' (upd G4' x1 (.tup [.str "taker", .str t.nm])) := Same.fresh nx1
      have P5 := P4.same sx1
      have li : i < 900 := by omega
      refine ⟨a, _, ad4, g4, nS, nT t.nm, .str "start", .ref x1, t.most, rfl, P5.R, .inl ⟨_, rfl, rfl⟩, .inr ⟨x1, ["taker", t.nm], rfl, rfl, upd_same⟩, nS_nT, by rw [sizeLine_eq]; omega, fun H5 ad5 R5 k5 => ?_⟩
      have P6 := P5.step R5 k5 (P5.sy.wid nS_nT)
      obtain ⟨U5, hP⟩ := S4.opn good ht
      rw [← opn_wid] at hP
      refine ⟨.ref a, rfl, a, _, ad5, _, ts, zs, st, i, t, gD g4, U5, rfl, P6.R, P6.sy, P6.st, by rw [sizeLine_eq]; omega, good, hP, ht, fun H6 g6 R6 k6 hs6 hP6 hR6 => ?_⟩
      obtain ⟨RR, hRR⟩ := hR6
      have P7 := P6.step R6 k6 (P6.sy.same hs6)
      refine ⟨_, _, _, _, _, ad5, g6, rfl, P7, hP6.done good S4 ht hRR, fun t' ht' => ?_, fun t' ht' k' hk' => ?_⟩
      · rw [hs6, some_wid]
        rcases (mem_take_succ ht t').mp ht' with h | rfl
        · exact .inl (sh1 t' h)
        · exact .inr (.inr ⟨rfl, rfl⟩)
      · rw [hs6, some_wid]
        exact .inl (sh2 t' ht' k' hk')
    · rintro σ G4 ⟨v3, v4, v5, v6, v7, ad4, g4, rfl, P4, S4, sh1, sh2⟩
      rw [lt] at S4 sh1
      rw [List.take_length] at sh1
      exact ⟨.ref a, rfl, qq G4 a _ ad4 g4 zs P4.s na P4.R hzs good S4 sh1 sh2⟩
end
end Eld
end L2

set_option Elab.async false
set_option linter.all false
set_option maxRecDepth 100000
set_option maxHeartbeats 4000000
/-! ## dealt -/
namespace L2
namespace Eld
open PySem PySem.Spec PyProof.Rows PySem.EldX
def tkA (k : Ask) : Tk := ⟨k.nm, k.ks, k.m⟩
/-- a list of pairs of a name and a number -/
structure DealAt (H : Hp) (p : Addr) (ts : List Addr) (ds : List (Str × Int)) : Prop where
  at_ : H p = some (.lst (ts.map V.ref))
  rows : Paired (fun (t : Addr) (x : Str × Int) => H t = some (.tup [.str x.1, .int x.2])) ts ds
theorem DealAt.same {H H' : Hp} {p : Addr} {ts : List Addr} {ds : List (Str × Int)} (h : DealAt H p ts ds) (s : Same H H') : DealAt H' p ts ds := ⟨s _ _ h.at_, paired_mono h.rows fun _ _ e => s _ _ e⟩
/-- the deal of a list of askers: what the first ones get together is the least of the sums over their lots -/
structure IsDeal (ks : List Ask) (st : Str → Int) (ds : List (Str × Int)) : Prop where
  nm : ds.map (·.1) = ks.map Ask.nm
  ls : ∀ j, j ≤ ks.length → Least ((ks.map tkA).take j) st (sm (ds.take j) (·.2))
/-- what dealt wants of its askers -/
structure Fair (ks : List Ask) (st : Str → Int) (U : List Str) : Prop where
  nd : (ks.map Ask.nm).Nodup
  ok : ∀ k ∈ ks, 0 ≤ k.m ∧ k.ks.Nodup ∧ ∀ x ∈ k.ks, x ∈ U
  st : ∀ k, 0 ≤ st k
  u : U.length < 64
  le : ks.length ≤ 900
section
variable {P : Program} {w : World} {K : PySem.W.Frag} {mg : Str → Option Value} {base : Heap} {CA fI pN gN pF gF pM gM fE CL fLI fLE fLL fLA fLN fLK fLR fLP : Addr}
def spTakersOf (K : PySem.W.Frag) (CA : Addr) : Sp := fun vs H Q _ => ∃ (l : Addr) (as : List Addr) (ks : List Ask), vs = [.ref l] ∧ SqL K H l (as.map V.ref) ∧ Asks CA H as ks ∧ ks.length ≤ 1000 ∧ ∀ (H' : Hp) (p : Addr) (tas : List Addr), Same H H' → H p = none → TakAt K H' p tas (ks.map tkA) → Q (.ref p) H'
theorem ok_takersOf {f : Addr} {fd dAN dAF dAM : FuncData} (F : Fun K "takers_of" "takers_of" sTakersOf f fd) (B : Blt mg) (TA : ACls K CA fI pN gN pF gF pM gM fE) (FAN : Fun K "name" "Asker.name" sAName gN dAN) (FAF : Fun K "fits" "Asker.fits" sAFits gF dAF) (FAM : Fun K "most" "Asker.most" sAMost gM dAM) : FnOk P w K mg base CX0 3 f fd ["askers"] (spTakersOf K CA) := by
  have GAName : FnOk P w K mg base CX0 1 gN dAN ["self"] (spAName CA) := ok_aname FAN TA
  have bAName : Binds K dAN ["self"] [] := FAN.binds fun _ _ _ _ _ _ us hl => match us, hl with | [_], _ => rfl
  have GAFits : FnOk P w K mg base CX0 1 gF dAF ["self"] (spAFits CA) := ok_afits FAF B TA
  have bAFits : Binds K dAF ["self"] [] := FAF.binds fun _ _ _ _ _ _ us hl => match us, hl with | [_], _ => rfl
  have GAMost : FnOk P w K mg base CX0 1 gM dAM ["self"] (spAMost CA) := ok_amost FAM TA
  have bAMost : Binds K dAM ["self"] [] := FAM.binds fun _ _ _ _ _ _ us hl => match us, hl with | [_], _ => rfl
  refine F.ok scTakersOf (fun vs H Q E h => ?_) (fun cdv A outer s H vs Q E hr h => ?_)
  · obtain ⟨l, as, ks, rfl, _⟩ := h
    rfl
  · obtain ⟨l, as, ks, rfl, hS, hA, hz, q⟩ := h
    refine ⟨_, (pss_one (ps_ret (pe_lc (own := [("asker", 1)]) (g := gName 1) (tt := tYes) (te := tTup (tCons (tProp CA (spAName CA) [] E0 (tVar 1)) (tCons (tProp CA (spAFits CA) [] E0 (tVar 1)) (tCons (tProp CA (spAMost CA) [] E0 (tVar 1)) tNil)))) rfl scTakersOf.nd (pi_list (pv 0)) (blkOk_by (own := [("asker", 1)]) (N := NTakersOf) (sc := defScope sTakersOf) (by decide +kernel)) (fun _ _ _ _ _ => pg_name (i := 1) scTakersOf.nd rfl (.inl rfl)) (fun _ _ _ _ _ => pts_nil)
      (fun _ _ _ _ _ => (pe_tup (pa_cons (pe_prop (pv 1) TA.ins.cl TA.pN GAName (hr.mono (by decide)) bAName .nil pass0 rfl) (pa_cons (pe_prop (pv 1) TA.ins.cl TA.pF GAFits (hr.mono (by decide)) bAFits .nil pass0 rfl) (pa_cons (pe_prop (pv 1) TA.ins.cl TA.pM GAMost (hr.mono (by decide)) bAMost .nil pass0 rfl) pa_nil)))))))), ?_⟩
    have la := hA.len
    have w0 : Walk (Itl K l) as.length (fun H => SqL K H l (as.map V.ref)) (YAt (as.map V.ref)) := by
      have := walk_list (K := K) (a := l) (xs := as.map V.ref)
      rw [List.length_map] at this
      exact this
    refine ⟨.ref l, rfl, l, rfl, ⟨_, hS⟩, fun D hD => ?_⟩
    refine lc_foldY w0 (fun i acc G => ∃ tas : List Addr, acc = tas.map V.ref ∧ Paired (fun (a : Addr) (t : Tk) => ∃ fp, fp ≠ D ∧ a ≠ D ∧ G a = some (.tup [.str t.nm, .ref fp, .int t.most]) ∧ G fp = some (.lst (t.fits.map V.str))) tas ((ks.take i).map tkA)) (by rw [sizeLine_eq]; omega) hD ⟨[], rfl, by rw [List.take_zero]; exact .nil⟩
      (fun G s => s.seq hS) yat_same (fun i acc l' G G' eD kk ⟨tas, e1, e2⟩ => ⟨tas, e1, paired_mono e2 fun a t ⟨fp, h1, h2, h3, h4⟩ => ⟨fp, h1, h2, kk _ _ h2 h3, kk _ _ h1 h4⟩⟩) ?_ ?_
    · rintro i x acc G G' hi sG eD ⟨rfl, hx⟩ ⟨tas, rfl, hp⟩ N M hN hM
      obtain ⟨b, hb, rfl⟩ := ref_at hx
      obtain ⟨k, hk, hAk⟩ := hA.get hb
      have hAk := hAk.same sG
      obtain ⟨dx', fs', hI⟩ := hAk.ins
      refine ⟨rfl, ?_⟩
      unfold tYes
      show (if true = true then _ else _)
      rw [if_pos rfl]
      refine ⟨.ref b, rfl, b, dx', fs', rfl, hI, b, k, rfl, hAk, .ref b, rfl, b, dx', fs', rfl, hI, b, k, rfl, hAk, fun fp nfp => ?_⟩
      have s1 : Same G' (upd G' fp (.lst (k.ks.map V.str))) := Same.fresh nfp
      refine ⟨.ref b, rfl, b, dx', fs', rfl, s1 _ _ hI, b, k, rfl, hAk.same s1, (by show 3 ≤ sizeLine; decide), fun ta nta => ?_⟩
      have s2 : Same (upd G' fp (.lst (k.ks.map V.str))) (upd (upd G' fp (.lst (k.ks.map V.str))) ta (.tup [.str k.nm, .ref fp, .int k.m])) := Same.fresh nta
      have nfD : fp ≠ D := fun e => by rw [e, eD] at nfp; cases nfp
      have ntD : ta ≠ D := fun e => by
        have := s1 _ _ eD
        rw [e, this] at nta
        cases nta
      refine hN _ _ (s1.trans s2) ⟨tas ++ [ta], by simp, ?_⟩
      rw [List.take_add_one, hk, List.map_append]
      refine Paired.snoc (paired_mono hp fun a t ⟨fp, h1, h2, h3, h4⟩ => ⟨fp, h1, h2, s2 _ _ (s1 _ _ h3), s2 _ _ (s1 _ _ h4)⟩) ⟨fp, nfD, ntD, upd_same, s2 _ _ upd_same⟩
    · rintro G acc sG eD ⟨tas, rfl, hp⟩
      rw [la, List.take_length] at hp
      exact q G D tas sG hD ⟨eD, paired_mono hp fun a t ⟨fp, h1, h2, h3, h4⟩ => ⟨fp, h3, SqL.of h4⟩⟩
def spDealt (K : PySem.W.Frag) (CA : Addr) : Sp := fun vs H Q _ => ∃ (l sp : Addr) (as : List Addr) (ks : List Ask) (kvs : List (Key × V)) (st : Str → Int) (U : List Str), vs = [.ref l, .ref sp] ∧ SqL K H l (as.map V.ref) ∧ Asks CA H as ks ∧ StkAt H sp kvs st ∧ Fair ks st U ∧
  ∀ (H' : Hp) (p : Addr) (ts : List Addr) (ds : List (Str × Int)), Same H H' → H p = none → (∀ t ∈ ts, H t = none) → p ∉ ts → DealAt H' p ts ds → IsDeal ks st ds → Q (.ref p) H'
/-- the defs that pour -/
structure Pour (K : PySem.W.Frag) (mg : Str → Option Value) (fW fP fS fM fR fO fC fT : Addr) (dW dP dS dM dR dO dC dT : FuncData) (u v : Value) : Prop where
  W : Fun K "widen" "widen" sWiden fW dW
  gW : mg "widen" = some (.ref fW)
  P : Fun K "push" "push" sPush fP dP
  gP : mg "push" = some (.ref fP)
  R : Fun K "reach" "reach" sReach fR dR
  gR : mg "reach" = some (.ref fR)
  M : Fun K "move" "move" sMove fM dM
  gM : mg "move" = some (.ref fM)
  S : Fun K "_steps" "_steps" sSteps fS dS
  gS : mg "_steps" = some (.ref fS)
  O : Fun K "poured" "poured" sPoured fO dO
  gO : mg "poured" = some (.ref fO)
  C : Fun K "count_of" "count_of" sCountOf fC dC
  gC : mg "count_of" = some (.ref fC)
  T : Fun K "takers_of" "takers_of" sTakersOf fT dT
  gT : mg "takers_of" = some (.ref fT)
  start : mg "START" = some u
  rs : RelV (.str "start") u
  end_ : mg "END" = some v
  re : RelV (.str "end") v
theorem ok_dealt {f fW fP fS fM fR fO fC fT : Addr} {fd dW dP dS dM dR dO dC dT dAN dAF dAM : FuncData} {u v : Value} (F : Fun K "dealt" "dealt" sDealt f fd) (O : Pour K mg fW fP fS fM fR fO fC fT dW dP dS dM dR dO dC dT u v) (B : Blt mg) (TA : ACls K CA fI pN gN pF gF pM gM fE) (FAN : Fun K "name" "Asker.name" sAName gN dAN) (FAF : Fun K "fits" "Asker.fits" sAFits gF dAF) (FAM : Fun K "most" "Asker.most" sAMost gM dAM) :
    FnOk P w K mg base CX0 5 f fd ["askers", "stock"] (spDealt K CA) := by
  have GPoured : FnOk P w K mg base CX0 4 fO dO ["takers", "stores"] (spPoured w K) := ok_poured O.O O.W O.gW O.P O.gP O.R O.gR O.M O.gM O.S O.gS B O.start O.rs O.end_ O.re
  have bPoured : Binds K dO ["takers", "stores"] [] := O.O.binds fun _ _ _ _ _ _ us hl => match us, hl with | [_, _], _ => rfl
  have GCountOf : FnOk P w K mg base CX0 1 fC dC ["room", "name"] (spCountOf w) := ok_countOf O.C O.start O.rs
  have bCountOf : Binds K dC ["room", "name"] [] := O.C.binds fun _ _ _ _ _ _ us hl => match us, hl with | [_, _], _ => rfl
  have GTakersOf : FnOk P w K mg base CX0 3 fT dT ["askers"] (spTakersOf K CA) := ok_takersOf O.T B TA FAN FAF FAM
  have bTakersOf : Binds K dT ["askers"] [] := O.T.binds fun _ _ _ _ _ _ us hl => match us, hl with | [_], _ => rfl
  have GAName : FnOk P w K mg base CX0 1 gN dAN ["self"] (spAName CA) := ok_aname FAN TA
  have bAName : Binds K dAN ["self"] [] := FAN.binds fun _ _ _ _ _ _ us hl => match us, hl with | [_], _ => rfl
  refine F.ok scDealt (fun vs H Q E h => ?_) (fun cdv A outer s H vs Q E hr h => ?_)
  · obtain ⟨l, sp, as, ks, kvs, st, U, rfl, _⟩ := h
    rfl
  · obtain ⟨l, sp, as, ks, kvs, st, U, rfl, hS, hA, hst, hF, q⟩ := h
    refine ⟨_, (pss_cons (ps_set (i := 2) scDealt.nd rfl (.inr rfl) (pe_call GPoured (hr.mono (by decide)) (by rfl) O.gO O.O.kp bPoured .nil pass0 (pa_cons (pe_call GTakersOf (hr.mono (by decide)) (by rfl) O.gT O.T.kp bTakersOf .nil pass0 (pa_cons (pv 0) pa_nil)) (pa_cons (pv 1) pa_nil))))
      (pss_one (ps_ret (pe_lc (own := [("asker", 3)]) (g := gName 3) (tt := tYes) (te := tTup (tCons (tProp CA (spAName CA) [] E0 (tVar 3)) (tCons (tCall (spCountOf w) [] E0 (tCons (tVar 2) (tCons (tProp CA (spAName CA) [] E0 (tVar 3)) tNil))) tNil))) rfl scDealt.nd (pi_list (pv 0)) (blkOk_by (own := [("asker", 3)]) (N := NDealt) (sc := defScope sDealt) (by decide +kernel)) (fun _ _ _ _ _ => pg_name (i := 3) scDealt.nd rfl (.inl rfl)) (fun _ _ _ _ _ => pts_nil)
        (fun _ _ _ _ _ => (pe_tup (pa_cons (pe_prop (pv 3) TA.ins.cl TA.pN GAName (hr.mono (by decide)) bAName .nil pass0 rfl) (pa_cons (pe_call GCountOf (hr.mono (by decide)) (by rfl) O.gC O.C.kp bCountOf .nil pass0 (pa_cons (pv 2) (pa_cons (pe_prop (pv 3) TA.ins.cl TA.pN GAName (hr.mono (by decide)) bAName .nil pass0 rfl) pa_nil))) pa_nil)))))))), ?_⟩
    have la := hA.len
    have le := hF.le
    have w0 : Walk (Itl K l) as.length (fun H => SqL K H l (as.map V.ref)) (YAt (as.map V.ref)) := by
      have := walk_list (K := K) (a := l) (xs := as.map V.ref)
      rw [List.length_map] at this
      exact this
    have tn : ((ks.map tkA).map (·.nm)).Nodup := by
      rw [List.map_map]
      exact hF.nd
    refine ⟨.ref l, rfl, l, as, ks, rfl, hS, hA, by omega, fun H1 p1 tas s1 np1 hT => ?_⟩
    refine ⟨.ref sp, rfl, p1, sp, tas, ks.map tkA, kvs, st, U, rfl, hT, hst.same s1, tn, fun t ht => ?_, hF.st, hF.u, by rw [List.length_map]; exact le, fun H2 a N ad g zs s2 na R hzs good S sh1 sh2 => ?_⟩
    · obtain ⟨k, hk, rfl⟩ := List.mem_map.mp ht
      exact hF.ok k hk
    have s12 := s1.trans s2
    refine ⟨.ref l, rfl, l, rfl, ⟨_, s12.seq hS⟩, fun D hD => ?_⟩
    have hD0 := none_of_same s12 hD
    refine lc_foldY w0 (fun i acc G => ∃ tas : List Addr, acc = tas.map V.ref ∧ (∀ a ∈ tas, H2 a = none ∧ a ≠ D) ∧ Paired (fun (a : Addr) (x : Str × Int) => G a = some (.tup [.str x.1, .int x.2])) tas ((ks.take i).map fun k => (k.nm, gD g (nT k.nm) nS))) (by rw [sizeLine_eq]; omega) hD ⟨[], rfl, (fun a ha => (nomatch ha)), by rw [List.take_zero]; exact .nil⟩
      (fun G s => s.seq (s12.seq hS)) yat_same (fun i acc l' G G' eD kk ⟨tas, e1, e0, e2⟩ => ⟨tas, e1, e0, ?_⟩) ?_ ?_
    · clear e1
      generalize (ks.take i).map (fun k => (k.nm, gD g (nT k.nm) nS)) = xs at e2
      induction e2 with
      | nil => exact .nil
      | cons h _ ih => exact .cons (kk _ _ (e0 _ List.mem_cons_self).2 h) (ih fun a ha => e0 a (List.mem_cons_of_mem _ ha))
    · rintro i x acc G G' hi sG eD ⟨rfl, hx⟩ ⟨tas, rfl, e0, hp⟩ N2 M hN hM
      obtain ⟨b, hb, rfl⟩ := ref_at hx
      obtain ⟨k, hk, hAk⟩ := hA.get hb
      have hAk := hAk.same (s12.trans sG)
      obtain ⟨dx', fs', hI⟩ := hAk.ins
      refine ⟨rfl, ?_⟩
      unfold tYes
      show (if true = true then _ else _)
      rw [if_pos rfl]
      have hg := gD_eq (sh1 (tkA k) (List.mem_map.mpr ⟨k, List.mem_of_getElem? hk, rfl⟩))
      refine ⟨.ref b, rfl, b, dx', fs', rfl, hI, b, k, rfl, hAk, .ref a, rfl, .ref b, rfl, b, dx', fs', rfl, hI, b, k, rfl, hAk, a, N, ad, g, k.nm, _, rfl, R.same sG, hg, fun G2 sG2 => ⟨(by show 2 ≤ sizeLine; decide), fun ta nta => ?_⟩⟩
      have s3 : Same G2 (upd G2 ta (.tup [.str k.nm, .int (gD g (nT k.nm) nS)])) := Same.fresh nta
      have ntD : ta ≠ D := fun e => by
        have := sG2 _ _ eD
        rw [e, this] at nta
        cases nta
      refine hN _ _ (sG2.trans s3) ⟨tas ++ [ta], by simp, fun c hc => ?_, ?_⟩
      · rcases List.mem_append.mp hc with hc | hc
        · exact e0 c hc
        · obtain rfl := List.mem_singleton.mp hc
          exact ⟨none_of_same (sG.trans sG2) nta, ntD⟩
      · rw [List.take_add_one, hk, List.map_append]
        exact Paired.snoc (paired_mono hp fun _ _ h => s3 _ _ (sG2 _ _ h)) upd_same
    · rintro G acc sG eD ⟨tas2, rfl, e0, hp⟩
      rw [la, List.take_length] at hp
      refine q G D tas2 _ (s12.trans sG) hD0 (fun t ht => none_of_same s12 (e0 t ht).1) (fun m => (e0 _ m).2 rfl) ⟨eD, hp⟩ ⟨by rw [List.map_map]; rfl, fun j hj => ?_⟩
      have := S.ls j (by rw [List.length_map]; exact hj)
      rw [← List.map_take, sm_map] at this
      rw [← List.map_take, ← List.map_take, sm_map]
      exact this
end
end Eld
end L2

set_option Elab.async false
set_option linter.all false
set_option maxRecDepth 100000
set_option maxHeartbeats 4000000
/-! ## stocks and members checked; together, due, deal -/
namespace L2
namespace Eld
open PySem PySem.Spec PyProof.Rows PySem.EldX
structure Blt2 (mg : Str → Option Value) : Prop where
  any : mg "any" = none
  dict : mg "dict" = none
/-- a stock: numbers of kinds -/
structure StockAt (H : Hp) (d : Addr) (kvs : List (Key × V)) : Prop where
  at_ : H d = some (.dK kvs)
  ok : ∀ p ∈ kvs, ∃ (x : Str) (n : Int), p = (.inr x, .int n) ∧ IsWord x ∧ 0 ≤ n
  le : kvs.length ≤ 60000
theorem StockAt.same {H H' : Hp} {d : Addr} {kvs : List (Key × V)} (h : StockAt H d kvs) (s : Same H H') : StockAt H' d kvs := ⟨s _ _ h.at_, h.ok, h.le⟩
def stN (kvs : List (Key × V)) (k : Str) : Int := match valV kvs (.inr k) with
  | some (.int n) => n
  | _ => 0
theorem valV_mem {kvs : List (Key × V)} {k : Key} {v : V} (h : valV kvs k = some v) : (k, v) ∈ kvs := by
  unfold valV at h
  obtain ⟨p, hp, rfl⟩ := Option.map_eq_some_iff.mp h
  have h1 := List.mem_of_find?_eq_some hp
  have h2 : p.1 = k := by simpa using List.find?_some hp
  rw [← h2]
  exact h1
theorem StockAt.stk {H : Hp} {d : Addr} {kvs : List (Key × V)} (h : StockAt H d kvs) : StkAt H d kvs (stN kvs) ∧ ∀ k, 0 ≤ stN kvs k := by
  have key : ∀ k : Str, (valV kvs (.inr k) = none ∧ stN kvs k = 0) ∨ (valV kvs (.inr k) = some (.int (stN kvs k)) ∧ 0 ≤ stN kvs k) := fun k => by
    unfold stN
    cases e : valV kvs (.inr k) with
    | none => exact .inl ⟨rfl, rfl⟩
    | some v =>
      obtain ⟨x, n, e2, _, hn⟩ := h.ok _ (valV_mem e)
      cases e2
      exact .inr ⟨rfl, hn⟩
  refine ⟨⟨.inl h.at_, fun k => (key k).elim .inl fun q => .inr q.1⟩, fun k => ?_⟩
  rcases key k with q | q
  · rw [q.2]; exact Int.le_refl _
  · exact q.2
section
variable {P : Program} {w : World} {K : PySem.W.Frag} {mg : Str → Option Value} {base : Heap} {CA fI pN gN pF gF pM gM fE CL fLI fLE fLL fLA fLN fLK fLR fLP : Addr}
/-! ### is_count, is_stock, need_stock -/
def spCountB : Sp := fun vs H Q _ => ∃ i : Int, vs = [.int i] ∧ 0 ≤ i ∧ Q (.bl true) H
theorem ok_countB {f f1 f2 : Addr} {fd d1 d2 : FuncData} (F : Fun K "is_count" "is_count" sCount f fd) (C2 : Chk2 K mg f1 f2 d1 d2) (B : Blt mg) : FnOk P w K mg base CX0 3 f fd ["value"] spCountB := by
  have GWhole : FnOk P w K mg base CX0 1 f1 d1 ["value"] spWhole := ok_whole C2.Whole B
  refine F.ok scCount (fun vs H Q E h => ?_) (fun cdv A outer s H vs Q E hr h => ?_)
  · obtain ⟨i, rfl, _⟩ := h
    rfl
  · obtain ⟨i, rfl, hi, q⟩ := h
    refine ⟨_, (pss_one (ps_ret (pe_and (pe_call GWhole (hr.mono (by decide)) (by rfl) C2.gWhole C2.Whole.kp C2.bWhole .nil pass0 (pa_cons (pv 0) pa_nil)) (pe_one (pe_cmpR op_ge (pv 0) pe_int (nomark _)))))), ?_⟩
    refine ⟨.int i, rfl, i, rfl, true, rfl, iteT ⟨.int i, rfl, i, 0, rfl, rfl, ?_⟩⟩
    show Q (V.bl (decide (0 ≤ i))) H
    rw [decide_eq_true hi]
    exact q
def spIsStock : Sp := fun vs H Q _ => ∃ (d : Addr) (kvs : List (Key × V)), vs = [.ref d] ∧ StockAt H d kvs ∧ ∀ H', Same H H' → Q (.bl true) H'
theorem ok_isStock {f f1 f2 f3 f4 fC : Addr} {fd d1 d2 d3 d4 dC : FuncData} (F : Fun K "is_stock" "is_stock" sIsStock f fd) (C1 : Chk K mg f1 f2 d1 d2) (C2 : Chk2 K mg f3 f4 d3 d4) (FCount : Fun K "is_count" "is_count" sCount fC dC) (gCount : mg "is_count" = some (.ref fC)) (B : Blt mg) (B2 : Blt2 mg) : FnOk P w K mg base CX0 4 f fd ["value"] spIsStock := by
  have GIsName : FnOk P w K mg base CX0 1 f1 d1 ["value"] spIsName := ok_isName C1.IsName B
  have GCount : FnOk P w K mg base CX0 3 fC dC ["value"] spCountB := ok_countB FCount C2 B
  have bCount : Binds K dC ["value"] [] := FCount.binds fun _ _ _ _ _ _ us hl => match us, hl with | [_], _ => rfl
  refine F.ok scIsStock (fun vs H Q E h => ?_) (fun cdv A outer s H vs Q E hr h => ?_)
  · obtain ⟨d, kvs, rfl, _⟩ := h
    rfl
  · obtain ⟨d, kvs, rfl, hS, q⟩ := h
    have hd := hS.at_
    refine ⟨_, (pss_cons (ps_if (pt_not (pt_val (pe_callB call_isi (by rfl) B.isinstance (by decide +kernel) (pa_cons (pv 0) (pa_cons (pe_bltn (v := .ty "dict") rfl B2.dict (by decide +kernel) rfl) pa_nil))))) (pss_one (ps_ret pe_bl)) pss_nil)
      (pss_one (ps_ret (pe_lock (pe_callB (cr_all rfl) (by rfl) B.all (by decide +kernel) (pa_cons (pe_lc (own := [("kind", 1), ("count", 2)]) (g := gTup K 2 (gCons (gName 1) (gCons (gName 2) (gNil)))) (tt := tYes) rfl scIsStock.nd (pi_items (pv 0)) (blkOk_by (own := [("kind", 1), ("count", 2)]) (N := NIsStock) (sc := defScope sIsStock) (by decide +kernel)) (fun _ _ _ _ _ => (pg_tup rfl (pgs_cons (pg_name (i := 1) scIsStock.nd rfl (.inl rfl)) (pgs_cons (pg_name (i := 2) scIsStock.nd rfl (.inl rfl)) pgs_nil)))) (fun _ _ _ _ _ => pts_nil)
        (fun _ _ _ _ _ => (pe_and (pe_call GIsName (hr.mono (by decide)) (by rfl) C1.gIsName C1.IsName.kp C1.bIsName .nil pass0 (pa_cons (pv 1) pa_nil)) (pe_one (pe_call GCount (hr.mono (by decide)) (by rfl) gCount FCount.kp bCount .nil pass0 (pa_cons (pv 2) pa_nil)))))) pa_nil)))))), ?_⟩
    refine ⟨.ref d, rfl, .ref d, .ty "dict", _, _, true, rfl, .ty _, .base (.dK hd), kit_ty (by decide +kernel), true, rfl, iteF ?_⟩
    refine ⟨d, .dK kvs, hd, trivial, fun od => ⟨.ref d, rfl, d, od, kvs, rfl, upd_same, fun D hD => ?_⟩⟩
    have lk := hS.le
    refine lc_foldY walk_items (fun i acc _ => acc = (List.replicate i true).map V.bl) (by rw [sizeLine_eq]; omega) hD rfl (fun G s => s _ _ upd_same) ypair_same (fun _ _ _ _ _ _ _ p => p) ?_ ?_
    · rintro i x acc G G' hi sG _ ⟨T, u, v, rfl, nT, rfl, hu, hv⟩ rfl N M hN hM
      obtain ⟨kv, hkv⟩ : ∃ kv, kvs[i]? = some kv := ⟨_, List.getElem?_eq_getElem hi⟩
      change Option.map (fun kv : Key × V => kV kv.1) kvs[i]? = some u at hu
      change Option.map Prod.snd kvs[i]? = some v at hv
      rw [hkv] at hu hv
      obtain ⟨a, n, ekv, wa, hn⟩ := hS.ok _ (List.mem_of_getElem? hkv)
      subst ekv
      obtain rfl : V.str a = u := Option.some.inj hu
      obtain rfl : V.int n = v := Option.some.inj hv
      refine ⟨T, [.str a, .int n], rfl, SqT.of upd_same, rfl, .str a, [.int n], rfl, .int n, [], rfl, rfl, rfl, ?_⟩
      unfold tYes
      show (if true = true then _ else _)
      rw [if_pos rfl]
      refine ⟨.str a, rfl, a, rfl, wa, fun G2 s2 => ⟨true, rfl, iteT ⟨.int n, rfl, n, rfl, hn, hN _ G2 s2 ?_⟩⟩⟩
      rw [List.replicate_succ', List.map_append]
      rfl
    · rintro G acc sG eD rfl
      have ed : G d = some (.frz od (.dK kvs)) := sG _ _ upd_same
      refine ⟨D, List.replicate kvs.length true, rfl, SqL.of eD, ⟨ed, ?_⟩⟩
      rw [all_true fun i b hb => ?_]
      · refine q _ fun b o e => ?_
        by_cases hb : b = d
        · rw [hb, hd] at e
          rw [hb, upd_same]
          exact e
        · rw [upd_ne hb]
          exact sG b o (by rw [upd_ne hb]; exact e)
      · obtain ⟨h1, h2⟩ := List.getElem?_eq_some_iff.mp hb
        rw [← h2, List.getElem_replicate]
def spNeedStock : Sp := fun vs H Q _ => ∃ (d : Addr) (kvs : List (Key × V)), vs = [.ref d] ∧ StockAt H d kvs ∧ ∀ H', Same H H' → Q .non H'
/-- the checks that the functions of deals make -/
structure ChkD (K : PySem.W.Frag) (mg : Str → Option Value) (f1 f2 f3 f4 fC fS fN fL fM : Addr) (d1 d2 d3 d4 dC dS dN dL dM : FuncData) : Prop where
  C1 : Chk K mg f1 f2 d1 d2
  C2 : Chk2 K mg f3 f4 d3 d4
  Count : Fun K "is_count" "is_count" sCount fC dC
  gCount : mg "is_count" = some (.ref fC)
  IsStock : Fun K "is_stock" "is_stock" sIsStock fS dS
  gIsStock : mg "is_stock" = some (.ref fS)
  NeedStock : Fun K "need_stock" "need_stock" sNeedStock fN dN
  gNeedStock : mg "need_stock" = some (.ref fN)
  NeedLine : Fun K "need_line" "need_line" sNeedLine fL dL
  gNeedLine : mg "need_line" = some (.ref fL)
theorem ok_needStock {f1 f2 f3 f4 fC fS fN fL fM : Addr} {d1 d2 d3 d4 dC dS dN dL dM : FuncData} (D : ChkD K mg f1 f2 f3 f4 fC fS fN fL fM d1 d2 d3 d4 dC dS dN dL dM) (B : Blt mg) (B2 : Blt2 mg) : FnOk P w K mg base CX0 5 fN dN ["value"] spNeedStock := by
  have GIsStock : FnOk P w K mg base CX0 4 fS dS ["value"] spIsStock := ok_isStock D.IsStock D.C1 D.C2 D.Count D.gCount B B2
  have bIsStock : Binds K dS ["value"] [] := D.IsStock.binds fun _ _ _ _ _ _ us hl => match us, hl with | [_], _ => rfl
  refine D.NeedStock.ok scNeedStock (fun vs H Q E h => ?_) (fun cdv A outer s H vs Q E hr h => ?_)
  · obtain ⟨d, kvs, rfl, _⟩ := h
    rfl
  · obtain ⟨d, kvs, rfl, hS, q⟩ := h
    refine ⟨_, (pss_one (ps_if (pt_not (pt_val (pe_call GIsStock (hr.mono (by decide)) (by rfl) D.gIsStock D.IsStock.kp bIsStock .nil pass0 (pa_cons (pv 0) pa_nil)))) (pss_one (ps_dead _)) pss_nil)), ?_⟩
    exact ⟨.ref d, rfl, d, kvs, rfl, hS, fun H' s => ⟨true, rfl, iteF (q H' s)⟩⟩
/-! ### need_line, need_members -/
def spNeedLine (CL CA : Addr) : Sp := fun vs H Q _ => ∃ (a : Addr) (as : List Addr) (ks : List Ask), vs = [.ref a] ∧ LineAt CL CA H a as ks ∧ Q .non H
theorem ok_needLine {f : Addr} {fd : FuncData} {k : Nat} (F : Fun K "need_line" "need_line" sNeedLine f fd) (B : Blt mg) (T : LCls K CL fLI fLE fLL fLA fLN fLK fLR fLP) (gL : mg "Line" = some (.ref CL)) : FnOk P w K mg base CX0 (k + 1) f fd ["value"] (spNeedLine CL CA) := by
  refine F.ok scNeedLine (fun vs H Q E h => ?_) (fun cdv A outer s H vs Q E hr h => ?_)
  · obtain ⟨a, as, ks, rfl, _⟩ := h
    rfl
  · obtain ⟨a, as, ks, rfl, ⟨dx, t, h1, _⟩, q⟩ := h
    refine ⟨_, (pss_one (ps_if (pt_not (pt_val (pe_callB call_isi (by rfl) B.isinstance (by decide +kernel) (pa_cons (pv 0) (pa_cons (pe_glob (v := .ref CL) rfl gL rfl) pa_nil))))) (pss_one (ps_dead _)) pss_nil)), ?_⟩
    exact ⟨.ref a, rfl, .ref a, .ref CL, .ref CL, .ref CL, true, rfl, .own CL, tyx_ask T.ins h1, T.ins.me, true, rfl, iteF q⟩
end
end Eld
end L2

set_option Elab.async false
set_option linter.all false
set_option maxRecDepth 100000
set_option maxHeartbeats 4000000
/-! ## together, due, deal -/
namespace L2
namespace Eld
open PySem PySem.Spec PyProof.Rows PySem.EldX
theorem walk_strs {K : PySem.W.Frag} {a : Addr} {xs : List Str} : Walk (Itl K a) xs.length (fun H => SqL K H a (xs.map V.str)) (YAt (xs.map V.str)) := by
  have := walk_list (K := K) (a := a) (xs := xs.map V.str)
  rw [List.length_map] at this
  exact this
theorem walk_refsE {K : PySem.W.Frag} {a : Addr} {xs : List Addr} : Walk (Itl K a) xs.length (fun H => SqL K H a (xs.map V.ref)) (YAt (xs.map V.ref)) := by
  have := walk_list (K := K) (a := a) (xs := xs.map V.ref)
  rw [List.length_map] at this
  exact this
theorem sm_sum (xs : List Int) : xs.sum = sm xs id := by
  induction xs with
  | nil => rfl
  | cons x xs ih => rw [List.sum_cons, sm, ih]; rfl
section
variable {P : Program} {w : World} {K : PySem.W.Frag} {mg : Str → Option Value} {base : Heap} {CA fI pN gN pF gF pM gM fE CL fLI fLE fLL fLA fLN fLK fLR fLP : Addr}
/-- [line.asker(name) for name in names] -/
theorem asks_at {CA : Addr} {H : Hp} {as : List Addr} {ks ms : List Ask} (hA : Asks CA H as ks) (hm : ∀ m ∈ ms, m ∈ ks) {i : Nat} {m : Ask} (h : ms[i]? = some m) : ∃ (j : Nat) (b : Addr), ks[j]? = some m ∧ as[j]? = some b ∧ AskAt CA H b m := by
  obtain ⟨j, hj⟩ := List.mem_iff_getElem?.mp (hm m (List.mem_of_getElem? h))
  have lj := (List.getElem?_eq_some_iff.mp hj).1
  have la := hA.len
  have hb : as[j]? = some (as[j]'(by omega)) := List.getElem?_eq_getElem _
  obtain ⟨k, hk, hAk⟩ := hA.get hb
  rw [hj] at hk
  cases hk
  exact ⟨j, _, hj, hb, hAk⟩
/-! ### deal -/
def spDeal (CL CA : Addr) : Sp := fun vs H Q _ => ∃ (a sp : Addr) (as : List Addr) (ks : List Ask) (kvs : List (Key × V)) (U : List Str), vs = [.ref a, .ref sp] ∧ LineAt CL CA H a as ks ∧ StockAt H sp kvs ∧ Fair ks (stN kvs) U ∧
  ∀ (H' : Hp) (p : Addr) (ts : List Addr) (ds : List (Str × Int)), Same H H' → H p = none → (∀ t ∈ ts, H t = none) → p ∉ ts → DealAt H' p ts ds → IsDeal ks (stN kvs) ds → Q (.ref p) H'
theorem ok_deal {f f1 f2 f3 f4 fC fS fN fL fM fD fW fP fS' fM' fR fO fC' fT : Addr} {fd d1 d2 d3 d4 dC dS dN dL dM dD dW dP dS' dM' dR dO dC' dT dAN dAF dAM dLA : FuncData} {u v : Value} (F : Fun K "deal" "deal" sDeal f fd) (D : ChkD K mg f1 f2 f3 f4 fC fS fN fL fM d1 d2 d3 d4 dC dS dN dL dM) (FD : Fun K "dealt" "dealt" sDealt fD dD) (gD : mg "dealt" = some (.ref fD))
    (O : Pour K mg fW fP fS' fM' fR fO fC' fT dW dP dS' dM' dR dO dC' dT u v) (B : Blt mg) (B2 : Blt2 mg) (TA : ACls K CA fI pN gN pF gF pM gM fE) (FAN : Fun K "name" "Asker.name" sAName gN dAN) (FAF : Fun K "fits" "Asker.fits" sAFits gF dAF) (FAM : Fun K "most" "Asker.most" sAMost gM dAM)
    (T : LCls K CL fLI fLE fLL fLA fLN fLK fLR fLP) (gL : mg "Line" = some (.ref CL)) (FLA : Fun K "askers" "Line.askers" sLAskers fLA dLA) : FnOk P w K mg base CX0 6 f fd ["line", "stock"] (spDeal CL CA) := by
  have GNeedLine : FnOk P w K mg base CX0 1 fL dL ["value"] (spNeedLine CL CA) := ok_needLine D.NeedLine B T gL
  have bNeedLine : Binds K dL ["value"] [] := D.NeedLine.binds fun _ _ _ _ _ _ us hl => match us, hl with | [_], _ => rfl
  have GNeedStock : FnOk P w K mg base CX0 5 fN dN ["value"] spNeedStock := ok_needStock D B B2
  have bNeedStock : Binds K dN ["value"] [] := D.NeedStock.binds fun _ _ _ _ _ _ us hl => match us, hl with | [_], _ => rfl
  have GDealt : FnOk P w K mg base CX0 5 fD dD ["askers", "stock"] (spDealt K CA) := ok_dealt FD O B TA FAN FAF FAM
  have bDealt : Binds K dD ["askers", "stock"] [] := FD.binds fun _ _ _ _ _ _ us hl => match us, hl with | [_, _], _ => rfl
  have GLAskers : FnOk P w K mg base CX0 1 fLA dLA ["self"] (spLAskers CL CA) := ok_laskers FLA B T
  have bLAskers : Binds K dLA ["self"] [] := FLA.binds fun _ _ _ _ _ _ us hl => match us, hl with | [_], _ => rfl
  refine F.ok scDeal (fun vs H Q E h => ?_) (fun cdv A outer s H vs Q E hr h => ?_)
  · obtain ⟨a, sp, as, ks, kvs, U, rfl, _⟩ := h
    rfl
  · obtain ⟨a, sp, as, ks, kvs, U, rfl, hL, hst, hF, q⟩ := h
    obtain ⟨dx, t, h1, h2, h3⟩ := id hL
    refine ⟨_, (pss_cons (ps_expr (pe_call GNeedLine (hr.mono (by decide)) (by rfl) D.gNeedLine D.NeedLine.kp bNeedLine .nil pass0 (pa_cons (pv 0) pa_nil)))
      (pss_cons (ps_expr (pe_call GNeedStock (hr.mono (by decide)) (by rfl) D.gNeedStock D.NeedStock.kp bNeedStock .nil pass0 (pa_cons (pv 1) pa_nil)))
      (pss_one (ps_ret (pe_call GDealt (hr.mono (by decide)) (by rfl) gD FD.kp bDealt .nil pass0 (pa_cons (pe_meth0 (pv 0) T.ins.cl T.mA GLAskers (hr.mono (by decide)) bLAskers .nil pass0) (pa_cons (pv 1) pa_nil))))))), ?_⟩
    refine ⟨.ref a, rfl, a, as, ks, rfl, hL, .ref sp, rfl, sp, kvs, rfl, hst, fun H1 s1 => ?_⟩
    refine ⟨.ref a, rfl, a, dx, _, rfl, s1 _ _ h1, rfl, a, as, ks, rfl, hL.same s1, fun l nl => ?_⟩
    have s2 := s1.trans (Same.fresh (o := .lst (as.map V.ref)) nl)
    exact ⟨.ref sp, rfl, l, sp, as, ks, kvs, stN kvs, U, rfl, SqL.of upd_same, h3.same s2, (hst.same s2).stk.1, hF, fun H3 p ts ds s3 np fr pn hD3 hds => q H3 p ts ds (s2.trans s3) (none_of_same s2 np) (fun t ht => none_of_same s2 (fr t ht)) pn hD3 hds⟩
end
end Eld
end L2

set_option Elab.async false
set_option linter.all false
set_option maxRecDepth 100000
set_option maxHeartbeats 4000000
/-! ## the law's own drawing: shuffled, names, kinds, most -/
namespace L2
namespace Eld
open PySem PySem.Spec PyProof.Rows PySem.EldX
/-- the drawing defs, where they stand -/
structure Drw (K : PySem.W.Frag) (mg : Str → Option Value) (fM fD fO fS fW : Addr) (dM dD dO dS dW : FuncData) : Prop where
  Mixed : Fun K "_law_mixed" "_law_mixed" sMixed fM dM
  Draw : Fun K "_law_draw" "_law_draw" sDraw fD dD
  OneOf : Fun K "_law_one_of" "_law_one_of" sOneOf fO dO
  Shuffled : Fun K "_law_shuffled" "_law_shuffled" sShuffled fS dS
  Word : Fun K "_law_word" "_law_word" sWord fW dW
  gMixed : mg "_law_mixed" = some (.ref fM)
  gDraw : mg "_law_draw" = some (.ref fD)
  gOneOf : mg "_law_one_of" = some (.ref fO)
  gShuffled : mg "_law_shuffled" = some (.ref fS)
  gWord : mg "_law_word" = some (.ref fW)
section
variable {P : Program} {w : World} {K : PySem.W.Frag} {mg : Str → Option Value} {base : Heap} {fM fD fO fS fW : Addr} {dM dD dO dS dW : FuncData}
theorem Drw.bDraw (L : Drw K mg fM fD fO fS fW dM dD dO dS dW) : Binds K dD ["_law_purse_here", "_law_many"] [] := L.Draw.binds fun _ _ _ _ _ _ us hl => match us, hl with | [_, _], _ => rfl
theorem Drw.bOneOf (L : Drw K mg fM fD fO fS fW dM dD dO dS dW) : Binds K dO ["_law_purse_here", "_law_some"] [] := L.OneOf.binds fun _ _ _ _ _ _ us hl => match us, hl with | [_, _], _ => rfl
theorem Drw.bShuffled (L : Drw K mg fM fD fO fS fW dM dD dO dS dW) : Binds K dS ["_law_purse_here", "_law_some"] [] := L.Shuffled.binds fun _ _ _ _ _ _ us hl => match us, hl with | [_, _], _ => rfl
theorem Drw.bWord (L : Drw K mg fM fD fO fS fW dM dD dO dS dW) : Binds K dW ["_law_purse_here"] [] := L.Word.binds fun _ _ _ _ _ _ us hl => match us, hl with | [_], _ => rfl
theorem Drw.okDraw (L : Drw K mg fM fD fO fS fW dM dD dO dS dW) (B : Blt mg) : FnOk P w K mg base CX0 2 fD dD ["_law_purse_here", "_law_many"] spDraw := ok_draw L.Draw L.Mixed L.gMixed B.range
theorem Drw.okOneOf (L : Drw K mg fM fD fO fS fW dM dD dO dS dW) (B : Blt mg) : FnOk P w K mg base CX0 3 fO dO ["_law_purse_here", "_law_some"] (spOneOf K) := ok_oneOf L.OneOf L.Draw L.Mixed L.gDraw L.gMixed B.range B.len
theorem Drw.okWord (L : Drw K mg fM fD fO fS fW dM dD dO dS dW) (B : Blt mg) : FnOk P w K mg base CX0 3 fW dW ["_law_purse_here"] spWord := ok_word L.Word L.Draw L.Mixed L.gDraw L.gMixed B.range
/-! ### _law_shuffled -/
def spShuffled (K : PySem.W.Frag) : Sp := fun vs H Q _ => ∃ (p l : Addr) (xs : List V) (n : Nat), vs = [.ref p, .ref l] ∧ PurseAt H p n ∧ n ≤ 90000000000 ∧ SqL K H l xs ∧ l ≠ p ∧ xs.length ≤ 60 ∧
  ∀ (H' : Hp) (q : Addr) (ys : List V), Kp p H H' → PurseAt H' p (n + 40 * xs.length) → H q = none → H' q = some (.lst ys) → ys.Perm xs → Q (.ref q) H'
theorem perm_insert {α : Type} (ys : List α) (k : Nat) (x : α) : (ys.take k ++ [x] ++ ys.drop k).Perm (ys ++ [x]) := by
  have h : (ys.take k ++ ([x] ++ ys.drop k)).Perm (ys.take k ++ (ys.drop k ++ [x])) := List.Perm.append_left _ List.perm_append_comm
  rw [List.append_assoc]
  refine h.trans ?_
  rw [← List.append_assoc, List.take_append_drop]
theorem Drw.okShuffled (L : Drw K mg fM fD fO fS fW dM dD dO dS dW) (B : Blt mg) : FnOk P w K mg base CX0 3 fS dS ["_law_purse_here", "_law_some"] (spShuffled K) := by
  have GDraw : FnOk P w K mg base CX0 2 fD dD ["_law_purse_here", "_law_many"] spDraw := L.okDraw B
  refine L.Shuffled.ok scShuffled (fun vs H Q E h => ?_) (fun cdv A outer s H vs Q E hr h => ?_)
  · obtain ⟨p, l, xs, n, rfl, _⟩ := h
    rfl
  · obtain ⟨p, l, xs, n, rfl, hp, hn, hS, ne, hz, q⟩ := h
    refine ⟨_, (pss_cons (ps_set (i := 2) scShuffled.nd rfl (.inl rfl) (pe_lst pa_nil))
      (pss_cons (ps_for PassesOwn.never rfl (pi_list (pv 1)) (pg_name (i := 3) scShuffled.nd rfl (.inl rfl))
        (pss_one (ps_expr (pe_bm PySem.F.plainAttrs_list PySem.F.slot_list_insert PySem.F.type_list_insert mt_insert (pv 2) (pa_cons (pe_call GDraw (hr.mono (by decide)) (by rfl) L.gDraw L.Draw.kp L.bDraw .nil pass0 (pa_cons (pv 0) (pa_cons (pe_op op_add (pe_callB call_len_seq (by rfl) B.len PySem.boot_len (pa_cons (pv 2) pa_nil)) pe_int) pa_nil))) (pa_cons (pv 3) pa_nil))))))
      (pss_one (ps_ret (pv 2))))), ?_⟩
    refine ⟨(by show 0 ≤ sizeLine; decide), fun fnd nf => ?_⟩
    have nfp : fnd ≠ p := Kp.ne hp nf
    refine ⟨.ref l, rfl, l, rfl, ⟨_, (Same.fresh nf).seq hS⟩, for_list (K := K) (a := l) (xs := xs) (fun i σ H' => ∃ (ys : List V) (v : Option V), σ = [some (.ref p), some (.ref l), some (.ref fnd), v] ∧ Kp p H H' ∧ PurseAt H' p (n + 40 * i) ∧ H' fnd = some (.lst ys) ∧ ys.Perm (xs.take i))
      ⟨[], none, rfl, Kept.of_same (Same.fresh nf), hp.fresh nf, upd_same, .refl _⟩ (fun i σ H' _ ⟨_, _, _, k, _⟩ => k.sql ne hS) ?_ ?_⟩
    · rintro i x σ H' hi ⟨ys, v, rfl, k, hp', e, pm⟩
      have hi' : i < xs.length := (List.getElem?_eq_some_iff.mp hi).1
      have ly : ys.length = i := by
        rw [pm.length_eq, List.length_take]
        omega
      refine ⟨.ref fnd, rfl, .inl ⟨rfl, _, SqL.of e⟩, .ref p, rfl, .ref fnd, rfl, fnd, ys, rfl, .inl (SqL.of e), _, _, rfl, rfl, ?_⟩
      refine ⟨p, _, _, rfl, hp', by omega, by omega, small_bits (n := ys.length + 1) (by omega), fun H2 r hB hP r0 r1 => ?_⟩
      have e2 : H2 fnd = some (.lst ys) := (hB fnd nfp).trans e
      refine ⟨x, rfl, fnd, ys, r, x, rfl, rfl, e2, by rw [sizeLine_eq]; omega, r0, by omega, ?_⟩
      refine ⟨_, some x, rfl, (k.trans (Kp.of_but hB)).put nf, (hP.mono (by omega)).put nfp, upd_same, ?_⟩
      rw [List.take_add_one, hi]
      exact (perm_insert ys r.toNat x).trans (pm.append (.refl _))
    · rintro σ H' ⟨ys, v, rfl, k, hp', e, pm⟩
      rw [List.take_length] at pm
      exact ⟨.ref fnd, rfl, q H' fnd ys k hp' nf e pm⟩
/-! ### _law_names, _law_kinds -/
instance (x : Str) : Decidable (IsWord x) := by unfold IsWord; infer_instance
theorem filter_one {α : Type} (f : α → Bool) (x : α) : [x].filter f = if f x = true then [x] else [] := by
  by_cases h : f x = true <;> simp [h]
def baseNames : List Str := ["ann", "a", "ab", "b", "none", "nobody", "end", "zzzzzzzzzz"]
def baseKinds : List Str := ["a", "ab", "b", "o", "none", "ann", "aaaaaaaaaa"]
/-- some of the words of a list and one more -/
def spPick : Sp := fun vs H Q _ => ∃ (p : Addr) (m : Int) (n : Nat), vs = [.ref p, .int m] ∧ PurseAt H p n ∧ n ≤ 80000000000 ∧ 0 ≤ m ∧
  ∀ (H' : Hp) (q : Addr) (ys : List Str), Kp p H H' → PurseAt H' p (n + 840) → H q = none → H' q = some (.lst (ys.map V.str)) → (∀ y ∈ ys, IsWord y) → ys.Nodup → (1 ≤ m → 1 ≤ ys.length) → ys.length ≤ 9 → (ys.length : Int) ≤ m → (∃ z, ∀ y ∈ ys, y ∈ baseNames ++ baseKinds ∨ y = z) → Q (.ref q) H'
def strV : V → Str
  | .str x => x
  | _ => ""
theorem perm_strs {ys : List V} {xs : List Str} (h : ys.Perm (xs.map V.str)) : ∃ zs : List Str, ys = zs.map V.str ∧ zs.Perm xs := by
  refine ⟨ys.map strV, ?_, ?_⟩
  · rw [List.map_map]
    refine (List.map_id _).symm.trans (List.map_congr_left fun v hv => ?_)
    obtain ⟨x, _, rfl⟩ := List.mem_map.mp (h.mem_iff.mp hv)
    rfl
  · have q := h.map strV
    rw [List.map_map] at q
    have e : xs.map (strV ∘ V.str) = xs := (List.map_congr_left fun _ _ => rfl).trans (List.map_id _)
    rw [e] at q
    exact q
theorem pick_end {p : Addr} {n : Nat} {m : Int} {H H1 : Hp} {Q : VK} {zs : List Str} (hw : ∀ y ∈ zs, IsWord y) (hz : ∃ z, ∀ y ∈ zs, y ∈ baseNames ++ baseKinds ∨ y = z) (hnd : zs.Nodup) (hl : 1 ≤ zs.length) (h9 : zs.length ≤ 9) (hm : 0 ≤ m) (hp : PurseAt H p n) (k : Kp p H H1) (hP : PurseAt H1 p (n + 840))
    (h : ∀ (H' : Hp) (q : Addr) (ys : List Str), Kp p H H' → PurseAt H' p (n + 840) → H q = none → H' q = some (.lst (ys.map V.str)) → (∀ y ∈ ys, IsWord y) → ys.Nodup → (1 ≤ m → 1 ≤ ys.length) → ys.length ≤ 9 → (ys.length : Int) ≤ m → (∃ z, ∀ y ∈ ys, y ∈ baseNames ++ baseKinds ∨ y = z) → Q (.ref q) H') :
    ∀ c, H1 c = none → Q (.ref c) (upd H1 c (.lst (cutV (zs.map V.str) none (some m)))) := by
  intro c nc
  obtain ⟨j, rfl⟩ : ∃ j : Nat, m = (j : Int) := ⟨m.toNat, by omega⟩
  have e : cutV (zs.map V.str) none (some (j : Int)) = (zs.take (min j zs.length)).map V.str := by
    rw [cutV_map, HT.sIx_none, HT.sIx_nat]
    simp
  rw [e]
  have nc0 : H c = none := k.free (Kp.ne hP nc) nc
  refine h _ c (zs.take (min j zs.length)) (k.trans (Kept.of_same (Same.fresh nc))) (hP.fresh nc) nc0 upd_same (fun y hy => hw y (List.mem_of_mem_take hy)) (hnd.sublist (List.take_sublist _ _)) (fun h1 => by rw [List.length_take]; omega) (by rw [List.length_take]; omega) (by rw [List.length_take]; omega) (let ⟨z, hz⟩ := hz; ⟨z, fun y hy => hz y (List.mem_of_mem_take hy)⟩)
theorem baseNames_ok : (∀ y ∈ baseNames, IsWord y) ∧ baseNames.Nodup ∧ baseNames.length = 8 := by decide +kernel
theorem ok_lawNames {f : Addr} {fd : FuncData} (F : Fun K "_law_names" "_law_names" sNames f fd) (L : Drw K mg fM fD fO fS fW dM dD dO dS dW) (B : Blt mg) : FnOk P w K mg base CX0 4 f fd ["_law_purse_here", "_law_many"] spPick := by
  have GWord : FnOk P w K mg base CX0 3 fW dW ["_law_purse_here"] spWord := L.okWord B
  have GShuffled : FnOk P w K mg base CX0 3 fS dS ["_law_purse_here", "_law_some"] (spShuffled K) := L.okShuffled B
  refine F.ok scNames (fun vs H Q E h => ?_) (fun cdv A outer s H vs Q E hr h => ?_)
  · obtain ⟨p, m, n, rfl, _⟩ := h
    rfl
  · obtain ⟨p, m, n, rfl, hp, hn, hm, q⟩ := h
    refine ⟨_, (pss_cons (ps_asg (pe_tup (pa_cons (pe_lst (pa_cons pe_str (pa_cons pe_str (pa_cons pe_str (pa_cons pe_str (pa_cons pe_str (pa_cons pe_str (pa_cons pe_str (pa_cons pe_str pa_nil))))))))) (pa_cons (pe_call GWord (hr.mono (by decide)) (by rfl) L.gWord L.Word.kp L.bWord .nil pass0 (pa_cons (pv 0) pa_nil)) pa_nil))) (pg_tup rfl (pgs_cons (pg_name (i := 2) scNames.nd rfl (.inr rfl)) (pgs_cons (pg_name (i := 3) scNames.nd rfl (.inl rfl)) pgs_nil))))
      (pss_one (ps_ret (pe_slice sl_list (pe_call GShuffled (hr.mono (by decide)) (by rfl) L.gShuffled L.Shuffled.kp L.bShuffled .nil pass0 (pa_cons (pv 0) (pa_cons (pe_op op_cat (pv 2) (pe_lc (own := [("_law_word_here", 4)]) (g := gName 4) (tt := tTest (tOp (rIn K true) (tVar 4) (tVar 2))) rfl scNames.nd (pi_list (pe_lst (pa_cons (pv 3) pa_nil))) (blkOk_by (own := [("_law_word_here", 4)]) (N := NNames) (sc := defScope sNames) (by decide +kernel)) (fun _ _ _ _ _ => pg_name (i := 4) scNames.nd rfl (.inl rfl)) (fun _ _ _ _ _ => pts_one (pt_cmpR op_notIn_seq (pv 4) (pv 2) (by rfl))) (fun _ _ _ _ _ => (pv 4)))) pa_nil))) po_none (po_some (pv 1)))))), ?_⟩
    refine ⟨(by show 8 ≤ sizeLine; decide), fun a na => ?_⟩
    have nap : a ≠ p := Kp.ne hp na
    refine ⟨.ref p, rfl, p, n, rfl, hp.fresh na, by omega, fun H1 wd hB hP hw => ?_⟩
    have e1 : H1 a = some (.lst (baseNames.map V.str)) := (hB a nap).trans upd_same
    have k1 : Kp p H H1 := (Kept.of_same (Same.fresh na)).trans (Kp.of_but hB)
    refine ⟨(by show 2 ≤ sizeLine; decide), fun tp nt => ⟨tp, _, rfl, SqT.of upd_same, rfl, _, _, rfl, _, _, rfl, rfl, ?_⟩⟩
    have ntp : tp ≠ p := Kp.ne hP nt
    have s2 := Same.fresh (o := .tup [.ref a, .str wd]) nt
    refine ⟨.ref p, rfl, .ref a, rfl, .str wd, rfl, (by show 1 ≤ sizeLine; decide), fun b nb => ⟨b, rfl, ⟨_, SqL.of upd_same⟩, fun D hD => ?_⟩⟩
    have s3 := Same.fresh (o := .lst [.str wd]) nb
    have s13 : Same H1 (upd (upd H1 tp (.tup [.ref a, .str wd])) b (.lst [.str wd])) := s2.trans s3
    have ea := s13 _ _ e1
    have eb : upd (upd H1 tp (.tup [.ref a, .str wd])) b (.lst [.str wd]) b = some (.lst ([wd].map V.str)) := upd_same
    refine lc_keep (xs := [wd]) (keep := fun x => decide (x ∉ baseNames)) (by have := walk_list (K := K) (a := b) (xs := [wd].map V.str); exact this) rfl (by show 1 ≤ 1000; decide) hD (fun G sG => SqL.of (sG _ _ eb)) (fun x G sG _ N M h1 h2 => ?_) fun G sG eG => ?_
    · refine ⟨rfl, .str x, rfl, .ref a, rfl, a, _, rfl, .inl (SqL.of (sG _ _ ea)), rfl, strs_flat _, _, rfl, ?_⟩
      rw [inV_strs]
      by_cases hx : x ∈ baseNames
      · rw [decide_eq_true hx]
        exact h2 (by rw [decide_eq_false (fun z => z hx)])
      · rw [decide_eq_false hx]
        exact ⟨.str x, rfl, h1 (decide_eq_true hx)⟩
    · have eaG := sG _ _ ea
      have hPG : PurseAt G p (n + 440) := hP.same (s13.trans sG)
      obtain ⟨b1, b2, b3⟩ := baseNames_ok
      generalize hfl : [wd].filter (fun x => decide (x ∉ baseNames)) = fl at eG
      have fw : ∀ y ∈ fl, IsWord y ∧ y ∉ baseNames := fun y hy => by
        rw [← hfl, List.mem_filter] at hy
        obtain rfl := List.mem_singleton.mp hy.1
        exact ⟨hw, of_decide_eq_true hy.2⟩
      have fl1 : fl.length ≤ 1 := by
        rw [← hfl]
        exact List.length_filter_le _ _
      have fnd : fl.Nodup := by
        rw [← hfl]
        exact List.Nodup.sublist List.filter_sublist (List.nodup_cons.mpr ⟨List.not_mem_nil, List.nodup_nil⟩)
      refine ⟨a, D, _, _, rfl, rfl, eaG, eG, ?_, fun c nc => ?_⟩
      · rw [List.length_map, List.length_map, b3, sizeLine_eq]
        omega
      · have hPc : PurseAt (upd G c (.lst (baseNames.map V.str ++ fl.map V.str))) p (n + 440) := hPG.fresh nc
        have kG : Kp p H1 G := Kp.same (s13.trans sG)
        refine ⟨p, c, _, n + 440, rfl, hPc, by omega, SqL.of upd_same, Kp.ne hPG nc, ?_, fun H2 q2 ys k2 hP2 nq2 eq2 pm => ?_⟩
        · rw [List.length_append, List.length_map, List.length_map, b3]
          omega
        · rw [← List.map_append] at pm
          obtain ⟨zs, rfl, pz⟩ := perm_strs pm
          have lz : zs.length = 8 + fl.length := by
            rw [pz.length_eq, List.length_append, b3]
          refine ⟨.int m, rfl, m, rfl, q2, _, rfl, SqL.of eq2, ?_⟩
          have fz : ∃ z, ∀ y ∈ zs, y ∈ baseNames ++ baseKinds ∨ y = z := ⟨wd, fun y hy => (List.mem_append.mp (pz.mem_iff.mp hy)).elim (fun z => .inl (List.mem_append_left _ z)) fun z => .inr (by rw [← hfl, List.mem_filter] at z; exact List.mem_singleton.mp z.1)⟩
          refine pick_end (fun y hy => ?_) fz (pz.nodup_iff.mpr ?_) (by omega) (by omega) hm hp ((k1.trans (kG.trans (Kept.of_same (Same.fresh nc)))).trans k2) (hP2.mono (by rw [List.length_append, List.length_map, List.length_map, b3]; omega)) q
          · rcases List.mem_append.mp (pz.mem_iff.mp hy) with z | z
            · exact b1 y z
            · exact (fw y z).1
          · rw [List.nodup_append]
            exact ⟨b2, fnd, fun u hu v hv e => (fw v hv).2 (e ▸ hu)⟩
theorem baseKinds_ok : (∀ y ∈ baseKinds, IsWord y) ∧ baseKinds.Nodup ∧ baseKinds.length = 7 := by decide +kernel
theorem ok_lawKinds {f : Addr} {fd : FuncData} (F : Fun K "_law_kinds" "_law_kinds" sKinds f fd) (L : Drw K mg fM fD fO fS fW dM dD dO dS dW) (B : Blt mg) : FnOk P w K mg base CX0 4 f fd ["_law_purse_here", "_law_many"] spPick := by
  have GWord : FnOk P w K mg base CX0 3 fW dW ["_law_purse_here"] spWord := L.okWord B
  have GShuffled : FnOk P w K mg base CX0 3 fS dS ["_law_purse_here", "_law_some"] (spShuffled K) := L.okShuffled B
  refine F.ok scKinds (fun vs H Q E h => ?_) (fun cdv A outer s H vs Q E hr h => ?_)
  · obtain ⟨p, m, n, rfl, _⟩ := h
    rfl
  · obtain ⟨p, m, n, rfl, hp, hn, hm, q⟩ := h
    refine ⟨_, (pss_cons (ps_asg (pe_tup (pa_cons (pe_lst (pa_cons pe_str (pa_cons pe_str (pa_cons pe_str (pa_cons pe_str (pa_cons pe_str (pa_cons pe_str (pa_cons pe_str pa_nil)))))))) (pa_cons (pe_call GWord (hr.mono (by decide)) (by rfl) L.gWord L.Word.kp L.bWord .nil pass0 (pa_cons (pv 0) pa_nil)) pa_nil))) (pg_tup rfl (pgs_cons (pg_name (i := 2) scKinds.nd rfl (.inr rfl)) (pgs_cons (pg_name (i := 3) scKinds.nd rfl (.inl rfl)) pgs_nil))))
      (pss_one (ps_ret (pe_slice sl_list (pe_call GShuffled (hr.mono (by decide)) (by rfl) L.gShuffled L.Shuffled.kp L.bShuffled .nil pass0 (pa_cons (pv 0) (pa_cons (pe_op op_cat (pv 2) (pe_lc (own := [("_law_word_here", 4)]) (g := gName 4) (tt := tTest (tOp (rIn K true) (tVar 4) (tVar 2))) rfl scKinds.nd (pi_list (pe_lst (pa_cons (pv 3) pa_nil))) (blkOk_by (own := [("_law_word_here", 4)]) (N := NKinds) (sc := defScope sKinds) (by decide +kernel)) (fun _ _ _ _ _ => pg_name (i := 4) scKinds.nd rfl (.inl rfl)) (fun _ _ _ _ _ => pts_one (pt_cmpR op_notIn_seq (pv 4) (pv 2) (by rfl))) (fun _ _ _ _ _ => (pv 4)))) pa_nil))) po_none (po_some (pv 1)))))), ?_⟩
    refine ⟨(by show 7 ≤ sizeLine; decide), fun a na => ?_⟩
    have nap : a ≠ p := Kp.ne hp na
    refine ⟨.ref p, rfl, p, n, rfl, hp.fresh na, by omega, fun H1 wd hB hP hw => ?_⟩
    have e1 : H1 a = some (.lst (baseKinds.map V.str)) := (hB a nap).trans upd_same
    have k1 : Kp p H H1 := (Kept.of_same (Same.fresh na)).trans (Kp.of_but hB)
    refine ⟨(by show 2 ≤ sizeLine; decide), fun tp nt => ⟨tp, _, rfl, SqT.of upd_same, rfl, _, _, rfl, _, _, rfl, rfl, ?_⟩⟩
    have ntp : tp ≠ p := Kp.ne hP nt
    have s2 := Same.fresh (o := .tup [.ref a, .str wd]) nt
    refine ⟨.ref p, rfl, .ref a, rfl, .str wd, rfl, (by show 1 ≤ sizeLine; decide), fun b nb => ⟨b, rfl, ⟨_, SqL.of upd_same⟩, fun D hD => ?_⟩⟩
    have s3 := Same.fresh (o := .lst [.str wd]) nb
    have s13 : Same H1 (upd (upd H1 tp (.tup [.ref a, .str wd])) b (.lst [.str wd])) := s2.trans s3
    have ea := s13 _ _ e1
    have eb : upd (upd H1 tp (.tup [.ref a, .str wd])) b (.lst [.str wd]) b = some (.lst ([wd].map V.str)) := upd_same
    refine lc_keep (xs := [wd]) (keep := fun x => decide (x ∉ baseKinds)) (by have := walk_list (K := K) (a := b) (xs := [wd].map V.str); exact this) rfl (by show 1 ≤ 1000; decide) hD (fun G sG => SqL.of (sG _ _ eb)) (fun x G sG _ N M h1 h2 => ?_) fun G sG eG => ?_
    · refine ⟨rfl, .str x, rfl, .ref a, rfl, a, _, rfl, .inl (SqL.of (sG _ _ ea)), rfl, strs_flat _, _, rfl, ?_⟩
      rw [inV_strs]
      by_cases hx : x ∈ baseKinds
      · rw [decide_eq_true hx]
        exact h2 (by rw [decide_eq_false (fun z => z hx)])
      · rw [decide_eq_false hx]
        exact ⟨.str x, rfl, h1 (decide_eq_true hx)⟩
    · have eaG := sG _ _ ea
      have hPG : PurseAt G p (n + 440) := hP.same (s13.trans sG)
      obtain ⟨b1, b2, b3⟩ := baseKinds_ok
      generalize hfl : [wd].filter (fun x => decide (x ∉ baseKinds)) = fl at eG
      have fw : ∀ y ∈ fl, IsWord y ∧ y ∉ baseKinds := fun y hy => by
        rw [← hfl, List.mem_filter] at hy
        obtain rfl := List.mem_singleton.mp hy.1
        exact ⟨hw, of_decide_eq_true hy.2⟩
      have fl1 : fl.length ≤ 1 := by
        rw [← hfl]
        exact List.length_filter_le _ _
      have fnd : fl.Nodup := by
        rw [← hfl]
        exact List.Nodup.sublist List.filter_sublist (List.nodup_cons.mpr ⟨List.not_mem_nil, List.nodup_nil⟩)
      refine ⟨a, D, _, _, rfl, rfl, eaG, eG, ?_, fun c nc => ?_⟩
      · rw [List.length_map, List.length_map, b3, sizeLine_eq]
        omega
      · have hPc : PurseAt (upd G c (.lst (baseKinds.map V.str ++ fl.map V.str))) p (n + 440) := hPG.fresh nc
        have kG : Kp p H1 G := Kp.same (s13.trans sG)
        refine ⟨p, c, _, n + 440, rfl, hPc, by omega, SqL.of upd_same, Kp.ne hPG nc, ?_, fun H2 q2 ys k2 hP2 nq2 eq2 pm => ?_⟩
        · rw [List.length_append, List.length_map, List.length_map, b3]
          omega
        · rw [← List.map_append] at pm
          obtain ⟨zs, rfl, pz⟩ := perm_strs pm
          have lz : zs.length = 7 + fl.length := by
            rw [pz.length_eq, List.length_append, b3]
          refine ⟨.int m, rfl, m, rfl, q2, _, rfl, SqL.of eq2, ?_⟩
          have fz : ∃ z, ∀ y ∈ zs, y ∈ baseNames ++ baseKinds ∨ y = z := ⟨wd, fun y hy => (List.mem_append.mp (pz.mem_iff.mp hy)).elim (fun z => .inl (List.mem_append_right _ z)) fun z => .inr (by rw [← hfl, List.mem_filter] at z; exact List.mem_singleton.mp z.1)⟩
          refine pick_end (fun y hy => ?_) fz (pz.nodup_iff.mpr ?_) (by omega) (by omega) hm hp ((k1.trans (kG.trans (Kept.of_same (Same.fresh nc)))).trans k2) (hP2.mono (by rw [List.length_append, List.length_map, List.length_map, b3]; omega)) q
          · rcases List.mem_append.mp (pz.mem_iff.mp hy) with z | z
            · exact b1 y z
            · exact (fw y z).1
          · rw [List.nodup_append]
            exact ⟨b2, fnd, fun u hu v hv e => (fw v hv).2 (e ▸ hu)⟩
/-! ### _law_most -/
def spMost : Sp := fun vs H Q _ => ∃ (p : Addr) (n : Nat), vs = [.ref p] ∧ PurseAt H p n ∧ n ≤ 80000000000 ∧ ∀ (H' : Hp) (m : Int), Kp p H H' → PurseAt H' p (n + 200) → 1 ≤ m → m < 10 ^ 30 → Q (.int m) H'
theorem mem_cutV {xs : List V} {lo hi : Option Int} {v : V} (h : v ∈ cutV xs lo hi) : v ∈ xs := List.mem_of_mem_drop (List.mem_of_mem_take h)
theorem ok_lawMost {f : Addr} {fd : FuncData} (F : Fun K "_law_most" "_law_most" sMost f fd) (L : Drw K mg fM fD fO fS fW dM dD dO dS dW) (B : Blt mg) : FnOk P w K mg base CX0 4 f fd ["_law_purse_here"] spMost := by
  have GDraw : FnOk P w K mg base CX0 2 fD dD ["_law_purse_here", "_law_many"] spDraw := L.okDraw B
  have GOneOf : FnOk P w K mg base CX0 3 fO dO ["_law_purse_here", "_law_some"] (spOneOf K) := L.okOneOf B
  refine F.ok scMost (fun vs H Q E h => ?_) (fun cdv A outer s H vs Q E hr h => ?_)
  · obtain ⟨p, n, rfl, _⟩ := h
    rfl
  · obtain ⟨p, n, rfl, hp, hn, q⟩ := h
    refine ⟨_, (pss_cons (ps_set (i := 1) scMost.nd rfl (.inl rfl) (pe_lst (pa_cons pe_int (pa_cons pe_int (pa_cons pe_int (pa_cons pe_int (pa_cons (pe_op op_add pe_int (pe_call GDraw (hr.mono (by decide)) (by rfl) L.gDraw L.Draw.kp L.bDraw .nil pass0 (pa_cons (pv 0) (pa_cons pe_int pa_nil)))) (pa_cons (pe_op op_add pe_int (pe_call GDraw (hr.mono (by decide)) (by rfl) L.gDraw L.Draw.kp L.bDraw .nil pass0 (pa_cons (pv 0) (pa_cons (pe_op op_pow pe_int pe_int) pa_nil)))) (pa_cons (pe_op op_add (pe_op op_pow pe_int pe_int) (pe_call GDraw (hr.mono (by decide)) (by rfl) L.gDraw L.Draw.kp L.bDraw .nil pass0 (pa_cons (pv 0) (pa_cons pe_int pa_nil)))) pa_nil)))))))))
      (pss_one (ps_ret (pe_call GOneOf (hr.mono (by decide)) (by rfl) L.gOneOf L.OneOf.kp L.bOneOf .nil pass0 (pa_cons (pv 0) (pa_cons (pe_slice sl_list (pv 1) po_none (po_some (pe_op op_add pe_int (pe_call GDraw (hr.mono (by decide)) (by rfl) L.gDraw L.Draw.kp L.bDraw .nil pass0 (pa_cons (pv 0) (pa_cons pe_int pa_nil)))))) pa_nil)))))), ?_⟩
    refine ⟨.ref p, rfl, p, 9, n, rfl, hp, by omega, by decide, by decide +kernel, fun H1 r1 b1 p1 l1 u1 => ⟨1, r1, rfl, rfl, ?_⟩⟩
    refine ⟨.ref p, rfl, 10, 9, rfl, rfl, ⟨by decide, by decide, by decide⟩, p, _, _, rfl, p1, by omega, by decide +kernel, by decide +kernel, fun H2 r2 b2 p2 l2 u2 => ⟨1, r2, rfl, rfl, ?_⟩⟩
    refine ⟨10, 29, rfl, rfl, ⟨by decide, by decide, by decide⟩, .ref p, rfl, p, 9, _, rfl, p2, by omega, by decide, by decide +kernel, fun H3 r3 b3 p3 l3 u3 => ⟨_, r3, rfl, rfl, ?_⟩⟩
    refine ⟨(by show 7 ≤ sizeLine; decide), fun a na => ?_⟩
    have nap : a ≠ p := Kp.ne p3 na
    refine ⟨.ref p, rfl, .ref a, rfl, .ref p, rfl, p, 4, _, rfl, p3.fresh na, by omega, by decide, by decide +kernel, fun H4 r4 b4 p4 l4 u4 => ?_⟩
    have e4 := (b4 a nap).trans upd_same
    refine ⟨4, r4, rfl, rfl, _, rfl, a, _, rfl, SqL.of e4, fun c nc => ?_⟩
    obtain ⟨j, rfl⟩ : ∃ j : Nat, r4 = (j : Int) := ⟨r4.toNat, by omega⟩
    refine ⟨p, c, _, _, rfl, p4.fresh nc, by omega, SqL.of upd_same, Kp.ne p4 nc, ?_, ?_, fun H5 i x b5 p5 hx => ?_⟩
    · unfold cutV
      rw [HT.sIx_none, show (4 + (j : Int)) = ((4 + j : Nat) : Int) by omega, HT.sIx_nat]
      simp
      omega
    · unfold cutV
      rw [List.length_take, List.length_drop]
      simp
      omega
    · have hm := mem_cutV (List.mem_of_getElem? hx)
      have k5 : Kp p H H5 := ((((Kp.of_but b1).trans (Kp.of_but b2)).trans (Kp.of_but b3)).trans (Kept.of_same (Same.fresh na))).trans (((Kp.of_but b4).trans (Kept.of_same (Same.fresh nc))).trans (Kp.of_but b5))
      have fin : ∀ m : Int, 1 ≤ m → m < 10 ^ 30 → x = .int m → Q x H5 := fun m h1 h2 e => by
        rw [e]
        exact q H5 m k5 (p5.mono (by omega)) h1 h2
      have big9 : ((10 : Int) ^ (9 : Int).toNat) = 1000000000 := by decide +kernel
      have big29 : ((10 : Int) ^ (29 : Int).toNat) = 100000000000000000000000000000 := by decide +kernel
      rw [big9] at u2
      rw [big29] at hm
      simp only [List.mem_cons, List.not_mem_nil, or_false] at hm
      rcases hm with e | e | e | e | e | e | e
      · exact fin 1 (by decide) (by decide +kernel) e
      · exact fin 1 (by decide) (by decide +kernel) e
      · exact fin 2 (by decide) (by decide +kernel) e
      · exact fin 3 (by decide) (by decide +kernel) e
      · exact fin _ (by omega) (by omega) e
      · exact fin _ (by omega) (by omega) e
      · exact fin _ (by omega) (by omega) e
end
end Eld
end L2

set_option Elab.async false
set_option linter.all false
set_option maxRecDepth 100000
set_option maxHeartbeats 4000000
/-! ## the law's stocks, rows, lines -/
namespace L2
namespace Eld
open PySem PySem.Spec PyProof.Rows PySem.EldX
theorem putK_new' {kvs : List (Key × V)} {k : Key} {v : V} (h : k ∉ kvs.map Prod.fst) : putK kvs k v = kvs ++ [(k, v)] := by
  unfold putK
  have : (kvs.any fun kv => decide (kv.1 = k)) = false := by
    rw [List.any_eq_false]
    intro p hp q
    exact h (List.mem_map.mpr ⟨p, hp, of_decide_eq_true q⟩)
  simp [this]
structure KvsB (b : Int) (kvs : List (Key × V)) : Prop where
  ok : ∀ p ∈ kvs, ∃ (x : Str) (n : Int), p = (.inr x, .int n) ∧ IsWord x ∧ 0 ≤ n ∧ n < b
theorem KvsB.mono {b b' : Int} {kvs : List (Key × V)} (h : KvsB b kvs) (l : b ≤ b') : KvsB b' kvs := ⟨fun p hp => by
  obtain ⟨x, n, e, w, n0, n1⟩ := h.ok p hp
  exact ⟨x, n, e, w, n0, by omega⟩⟩
abbrev KvsOk (kvs : List (Key × V)) : Prop := KvsB (10 ^ 31) kvs
end Eld
end L2

set_option Elab.async false
set_option linter.all false
set_option maxRecDepth 100000
set_option maxHeartbeats 4000000
/-! ## the law's rows and lines -/
namespace L2
namespace Eld
open PySem PySem.Spec PyProof.Rows PySem.EldX
/-- a row of the law: no purse in it -/
def TkN (p : Addr) (H : Hp) (a : Addr) (t : Tk) : Prop := ∃ fp, fp ≠ p ∧ H a = some (.tup [.str t.nm, .ref fp, .int t.most]) ∧ H fp = some (.lst (t.fits.map V.str))
theorem TkN.kp {p : Addr} {H H' : Hp} {n : Nat} {a : Addr} {t : Tk} (h : TkN p H a t) (k : Kp p H H') (hp : PurseAt H p n) : TkN p H' a t := by
  obtain ⟨fp, h1, h2, h3⟩ := h
  obtain ⟨_, _, _, _, e, _⟩ := hp
  refine ⟨fp, h1, k a _ (fun z => ?_) h2, k fp _ h1 h3⟩
  rw [z, e] at h2
  cases h2
theorem TkN.same {p : Addr} {H H' : Hp} {a : Addr} {t : Tk} (h : TkN p H a t) (s : Same H H') : TkN p H' a t := by
  obtain ⟨fp, h1, h2, h3⟩ := h
  exact ⟨fp, h1, s _ _ h2, s _ _ h3⟩
structure RowsN (p : Addr) (H : Hp) (r : Addr) (tas : List Addr) (ts : List Tk) : Prop where
  ne : r ≠ p
  at_ : H r = some (.lst (tas.map V.ref))
  rows : Paired (TkN p H) tas ts
theorem RowsN.kp {p : Addr} {H H' : Hp} {n : Nat} {r : Addr} {tas : List Addr} {ts : List Tk} (h : RowsN p H r tas ts) (k : Kp p H H') (hp : PurseAt H p n) : RowsN p H' r tas ts := ⟨h.ne, k _ _ h.ne h.at_, paired_mono h.rows fun _ _ x => x.kp k hp⟩
theorem RowsN.same {p : Addr} {H H' : Hp} {r : Addr} {tas : List Addr} {ts : List Tk} (h : RowsN p H r tas ts) (s : Same H H') : RowsN p H' r tas ts := ⟨h.ne, s _ _ h.at_, paired_mono h.rows fun _ _ x => x.same s⟩
structure TkOk (U : List Str) (t : Tk) : Prop where
  nm : IsWord t.nm
  fits : t.fits.Nodup ∧ t.fits ≠ [] ∧ ∀ k ∈ t.fits, IsWord k ∧ k ∈ U
  most : 1 ≤ t.most ∧ t.most < 10 ^ 30
structure TsOk (U : List Str) (ts : List Tk) : Prop where
  nd : (ts.map (·.nm)).Nodup
  ok : ∀ t ∈ ts, TkOk U t
  le : ts.length ≤ 3
  u : U.length ≤ 9
theorem perm_cut {ys : List V} {zs : List Str} (h : ys.Perm (zs.map V.str)) : ∃ xs : List Str, ys = xs.map V.str ∧ xs.Perm zs := perm_strs h
section
variable {P : Program} {w : World} {K : PySem.W.Frag} {mg : Str → Option Value} {base : Heap} {CA fI pN gN pF gF pM gM fE CL fLI fLE fLL fLA fLN fLK fLR fLP fM fD fO fS fW : Addr} {dM dD dO dS dW : FuncData}
def spLRows (K : PySem.W.Frag) : Sp := fun vs H Q _ => ∃ (p l : Addr) (zs : List Str) (n : Nat), vs = [.ref p, .ref l, .int 3] ∧ PurseAt H p n ∧ n ≤ 70000000000 ∧ SqL K H l (zs.map V.str) ∧ l ≠ p ∧ (∀ z ∈ zs, IsWord z) ∧ zs.Nodup ∧ 1 ≤ zs.length ∧ zs.length ≤ 9 ∧
  ∀ (H' : Hp) (r : Addr) (tas : List Addr) (ts : List Tk), Kp p H H' → PurseAt H' p (n + 9000) → H r = none → RowsN p H' r tas ts → TsOk zs ts → Q (.ref r) H'
theorem ok_lrows {f fMo fNa : Addr} {fd dMo dNa : FuncData} (F : Fun K "_law_rows" "_law_rows" sLRows f fd) (FMost : Fun K "_law_most" "_law_most" sMost fMo dMo) (gMost : mg "_law_most" = some (.ref fMo)) (FNames : Fun K "_law_names" "_law_names" sNames fNa dNa) (gNames : mg "_law_names" = some (.ref fNa)) (L : Drw K mg fM fD fO fS fW dM dD dO dS dW) (B : Blt mg) : FnOk P w K mg base CX0 5 f fd ["_law_purse_here", "_law_kinds_here", "_law_few"] (spLRows K) := by
  have GDraw : FnOk P w K mg base CX0 2 fD dD ["_law_purse_here", "_law_many"] spDraw := L.okDraw B
  have GShuffled : FnOk P w K mg base CX0 3 fS dS ["_law_purse_here", "_law_some"] (spShuffled K) := L.okShuffled B
  have GMost : FnOk P w K mg base CX0 4 fMo dMo ["_law_purse_here"] spMost := ok_lawMost FMost L B
  have bMost : Binds K dMo ["_law_purse_here"] [] := FMost.binds fun _ _ _ _ _ _ us hl => match us, hl with | [_], _ => rfl
  have GNames : FnOk P w K mg base CX0 4 fNa dNa ["_law_purse_here", "_law_many"] spPick := ok_lawNames FNames L B
  have bNames : Binds K dNa ["_law_purse_here", "_law_many"] [] := FNames.binds fun _ _ _ _ _ _ us hl => match us, hl with | [_, _], _ => rfl
  refine F.ok scLRows (fun vs H Q E h => ?_) (fun cdv A outer s H vs Q E hr h => ?_)
  · obtain ⟨p, l, zs, n, rfl, _⟩ := h
    rfl
  · obtain ⟨p, l, zs, n, rfl, hp, hn, hS, ne, hw, hnd, hz1, hz9, q⟩ := h
    refine ⟨_, (pss_cons (ps_set (i := 3) scLRows.nd rfl (.inl rfl) (pe_lst pa_nil))
      (pss_cons (ps_for PassesOwn.never rfl (pi_list (pe_call GNames (hr.mono (by decide)) (by rfl) gNames FNames.kp bNames .nil pass0 (pa_cons (pv 0) (pa_cons (pe_call GDraw (hr.mono (by decide)) (by rfl) L.gDraw L.Draw.kp L.bDraw .nil pass0 (pa_cons (pv 0) (pa_cons (pe_op op_add (pv 2) pe_int) pa_nil))) pa_nil)))) (pg_name (i := 4) scLRows.nd rfl (.inl rfl))
        (pss_cons (ps_set (i := 5) scLRows.nd rfl (.inl rfl) (pe_call GShuffled (hr.mono (by decide)) (by rfl) L.gShuffled L.Shuffled.kp L.bShuffled .nil pass0 (pa_cons (pv 0) (pa_cons (pv 1) pa_nil))))
      (pss_one (ps_expr (pe_bm PySem.F.plainAttrs_list PySem.F.slot_list_append PySem.F.type_list_append mt_append (pv 3) (pa_cons (pe_tup (pa_cons (pv 4) (pa_cons (pe_slice sl_list (pv 5) po_none (po_some (pe_op op_add pe_int (pe_call GDraw (hr.mono (by decide)) (by rfl) L.gDraw L.Draw.kp L.bDraw .nil pass0 (pa_cons (pv 0) (pa_cons (pe_callB (call_min2 rfl) (by rfl) B.min (by decide +kernel) (pa_cons (pe_callB call_len_seq (by rfl) B.len PySem.boot_len (pa_cons (pv 5) pa_nil)) (pa_cons pe_int pa_nil))) pa_nil)))))) (pa_cons (pe_call GMost (hr.mono (by decide)) (by rfl) gMost FMost.kp bMost .nil pass0 (pa_cons (pv 0) pa_nil)) pa_nil)))) pa_nil))))))
      (pss_one (ps_ret (pv 3))))), ?_⟩
    refine ⟨(by show 0 ≤ sizeLine; decide), fun r nr => ?_⟩
    have nrp : r ≠ p := Kp.ne hp nr
    have k0 : Kp p H (upd H r (.lst [])) := Kp.same (Same.fresh nr)
    refine ⟨.ref p, rfl, .ref p, rfl, .int 3, rfl, 3, 1, rfl, rfl, p, _, n, rfl, hp.fresh nr, by omega, by decide, by decide +kernel, fun H1 m b1 p1 m0 m1 => ?_⟩
    have k1 : Kp p H H1 := k0.trans (Kp.of_but b1)
    have er1 : H1 r = some (.lst []) := (b1 r nrp).trans upd_same
    refine ⟨p, m, _, rfl, p1, by omega, m0, fun H2 nl ys k2 p2 nnl enl wys ndys _ l9 lm _ => ⟨nl, rfl, ⟨_, SqL.of enl⟩, ?_⟩⟩
    have nlp : nl ≠ p := Kp.ne p1 nnl
    have nlr : r ≠ nl := fun e => by rw [← e, er1] at nnl; cases nnl
    have k12 := k1.trans k2
    refine for_it walk_strs (fun i σ G => ∃ (v4 v5 : Option V) (tas : List Addr) (ts : List Tk), σ = [some (.ref p), some (.ref l), some (.int 3), some (.ref r), v4, v5] ∧ Kp p H G ∧ PurseAt G p (n + 900 + 800 * i) ∧ G nl = some (.lst (ys.map V.str)) ∧ RowsN p G r tas ts ∧ (∀ (a fp : Addr) (x y : V), a ∈ tas → G a = some (.tup [x, .ref fp, y]) → fp ≠ r) ∧ ts.map (·.nm) = ys.take i ∧ ∀ t ∈ ts, TkOk zs t)
      ⟨_, _, [], [], rfl, k12, p2.mono (by omega), enl, ⟨nrp, k2 r _ nrp er1, .nil⟩, (fun a fp x y ha => (nomatch ha)), by rw [List.take_zero]; rfl, (fun t ht => (nomatch ht))⟩ (fun i σ G _ ⟨_, _, _, _, _, _, _, e, _⟩ => SqL.of e) ?_ ?_
    · rintro i x σ G G' hi ⟨v4, v5, tas, ts, rfl, k, hp', enl', hR, hfr, hnm, hok⟩ ⟨rfl, hx⟩
      obtain ⟨y, hy, rfl⟩ := str_at hx
      refine ⟨.ref p, rfl, .ref l, rfl, p, l, _, _, rfl, hp', by omega, k.sql ne hS, ne, by rw [List.length_map]; omega, fun H3 sl sv k3 p3 nsl esl pm => ?_⟩
      obtain ⟨xs, rfl, pxs⟩ := perm_cut pm
      have lxs := pxs.length_eq
      rw [List.length_map] at p3
      have nslp : sl ≠ p := Kp.ne hp' nsl
      have k23 := k.trans k3
      refine ⟨.ref r, rfl, .inl ⟨rfl, _, SqL.of (k3 r _ nrp hR.at_)⟩, .str y, rfl, .ref sl, rfl, .ref p, rfl, .ref sl, rfl, sl, _, rfl, .inl (SqL.of esl), _, _, rfl, ?_⟩
      have lx : ((xs.map V.str).length : Int) = xs.length := by rw [List.length_map]
      rw [lx]
      have hm1 : (1 : Int) ≤ (if (3 : Int) < (xs.length : Int) then 3 else (xs.length : Int)) ∧ (if (3 : Int) < (xs.length : Int) then 3 else (xs.length : Int)) ≤ 3 := by
        split <;> omega
      have hm2 : (if (3 : Int) < (xs.length : Int) then 3 else (xs.length : Int)) ≤ xs.length := by
        split <;> omega
      generalize (if (3 : Int) < (xs.length : Int) then 3 else (xs.length : Int)) = mm at hm1 hm2
      refine ⟨p, mm, _, rfl, p3, by omega, hm1.1, ?_, fun H4 rr b4 p4 r0 r1 => ⟨1, rr, rfl, rfl, _, rfl, sl, _, rfl, SqL.of ((b4 sl nslp).trans esl), fun c nc => ?_⟩⟩
      · have : mm.natAbs ≤ 3 := by omega
        exact Nat.lt_of_le_of_lt this (by decide +kernel)
      obtain ⟨j, rfl⟩ : ∃ j : Nat, rr = (j : Int) := ⟨rr.toNat, by omega⟩
      have ec : cutV (xs.map V.str) none (some (1 + (j : Int))) = (xs.take (1 + j)).map V.str := by
        rw [show (1 + (j : Int)) = ((1 + j : Nat) : Int) by omega, cutV_map, HT.sIx_none, HT.sIx_nat]
        congr 1
        have : min (1 + j) xs.length = 1 + j := by omega
        simp [this]
      have k34 : Kp p G' H4 := k3.trans (Kp.of_but b4)
      have ncp : c ≠ p := Kp.ne p4 nc
      rw [ec] at *
      refine ⟨.ref p, rfl, p, _, rfl, p4.fresh nc, by omega, fun H5 m5 k5 p5 m51 m59 => ⟨(by show 3 ≤ sizeLine; decide), fun ta nta => ?_⟩⟩
      have k45 : Kp p G' H5 := (k34.trans (Kp.same (Same.fresh nc))).trans k5
      have er5 := k45 r _ nrp hR.at_
      have ec5 : H5 c = some (.lst ((xs.take (1 + j)).map V.str)) := k5 c _ ncp upd_same
      have ntap : ta ≠ p := Kp.ne p5 nta
      have s6 : Same H5 (upd H5 ta (.tup [.str y, .ref c, .int m5])) := Same.fresh nta
      have ncr : c ≠ r := fun e => by
        have := k34 r _ nrp hR.at_
        rw [← e, nc] at this
        cases this
      have rowNe : ∀ (a : Addr) {xs : List V}, G' a = some (.tup xs) → a ≠ r := fun a xs e z => by
        rw [z, hR.at_] at e
        cases e
      have ltas : tas.length = ts.length := Paired.length hR.rows
      have lts : ts.length = i := by
        have := congrArg List.length hnm
        rw [List.length_map, List.length_take] at this
        omega
      have ntr : ta ≠ r := fun e => by
        rw [e, er5] at nta
        cases nta
      refine ⟨r, _, _, rfl, rfl, s6 _ _ er5, by rw [List.length_map, sizeLine_eq]; omega, ?_⟩
      have keepR : ∀ b o, b ≠ p → b ≠ r → G' b = some o → upd (upd H5 ta (.tup [.str y, .ref c, .int m5])) r (.lst (tas.map V.ref ++ [.ref ta])) b = some o := fun b o n1 n2 e => by
        rw [upd_ne n2]
        exact s6 _ _ (k45 b o n1 e)
      refine ⟨_, _, tas ++ [ta], ts ++ [⟨y, xs.take (1 + j), m5⟩], rfl, ?_, ?_, ?_, ⟨nrp, by rw [upd_same]; simp, ?_⟩, fun a fp x2 y2 ha ea => ?_, ?_, fun t ht => ?_⟩
      · exact (k.trans (k45.trans (Kp.same s6))).put nr
      · exact ((p5.mono (by omega)).fresh nta).of_eq (upd_ne (Ne.symm nrp))
      · exact keepR nl _ nlp (Ne.symm nlr) enl'
      · refine Paired.snoc ?_ ⟨c, ncp, by rw [upd_ne ntr, upd_same], by rw [upd_ne ncr]; exact s6 _ _ ec5⟩
        have hq := hR.rows
        have hfr' := hfr
        generalize upd (upd H5 ta (.tup [.str y, .ref c, .int m5])) r (.lst (tas.map V.ref ++ [.ref ta])) = GN at keepR
        clear hfr ltas hR er5 hnm hok lts
        revert hfr'
        induction hq with
        | nil => intro _; exact .nil
        | @cons a t as ts' h _ ih =>
          intro hf
          obtain ⟨fp, h1, h2, h3⟩ := h
          have nar : a ≠ r := rowNe a h2
          exact .cons ⟨fp, h1, keepR a _ (fun z => by
            obtain ⟨_, _, _, _, e, _⟩ := hp'
            rw [z, e] at h2
            cases h2) nar h2, keepR fp _ h1 (hf a fp _ _ List.mem_cons_self h2) h3⟩ (ih fun a' fp' x' y' ha' => hf a' fp' x' y' (List.mem_cons_of_mem _ ha'))
      · rcases List.mem_append.mp ha with ha | ha
        · obtain ⟨i2, hi2⟩ := List.mem_iff_getElem?.mp ha
          obtain ⟨t2, _, fp2, h1, h2, h3⟩ := paired_get' hR.rows hi2
          have nar : a ≠ r := rowNe a h2
          have nap : a ≠ p := fun z => by
            obtain ⟨_, _, _, _, e, _⟩ := hp'
            rw [z, e] at h2
            cases h2
          rw [keepR a _ nap nar h2] at ea
          cases ea
          exact hfr a fp _ _ ha h2
        · obtain rfl := List.mem_singleton.mp ha
          rw [upd_ne ntr, upd_same] at ea
          cases ea
          exact ncr
      · rw [List.map_append, hnm, List.take_add_one, hy]
        rfl
      · rcases List.mem_append.mp ht with ht | ht
        · exact hok t ht
        · obtain rfl := List.mem_singleton.mp ht
          refine ⟨wys y (List.mem_of_getElem? hy), ⟨(pxs.nodup_iff.mpr hnd).sublist (List.take_sublist _ _), fun e => ?_, fun k hk => ?_⟩, m51, m59⟩
          · have := congrArg List.length e
            rw [List.length_take, List.length_nil] at this
            omega
          · have := pxs.mem_iff.mp (List.mem_of_mem_take hk)
            exact ⟨hw k this, this⟩
    · rintro σ G ⟨v4, v5, tas, ts, rfl, k, hp', enl', hR, hfr, hnm, hok⟩
      rw [List.take_length] at hnm
      have l5 : ys.length ≤ 3 := by omega
      refine ⟨.ref r, rfl, q G r tas ts k (hp'.mono (by omega)) nr hR ⟨by rw [hnm]; exact ndys, hok, ?_, hz9⟩⟩
      rw [← hnm, List.length_map] at l5
      exact l5
end
end Eld
end L2

set_option Elab.async false
set_option linter.all false
set_option maxRecDepth 100000
set_option maxHeartbeats 4000000
/-! ## lines of rows -/
namespace L2
namespace Eld
open PySem PySem.Spec PyProof.Rows PySem.EldX
/-- rows in a list, whatever purse there is -/
structure RowsL (H : Hp) (r : Addr) (tas : List Addr) (ts : List Tk) : Prop where
  at_ : H r = some (.lst (tas.map V.ref))
  rows : Paired (fun (a : Addr) (t : Tk) => ∃ fp, H a = some (.tup [.str t.nm, .ref fp, .int t.most]) ∧ H fp = some (.lst (t.fits.map V.str))) tas ts
theorem RowsN.l {p : Addr} {H : Hp} {r : Addr} {tas : List Addr} {ts : List Tk} (h : RowsN p H r tas ts) : RowsL H r tas ts := ⟨h.at_, paired_mono h.rows fun _ _ ⟨fp, _, e1, e2⟩ => ⟨fp, e1, e2⟩⟩
theorem RowsL.same {H H' : Hp} {r : Addr} {tas : List Addr} {ts : List Tk} (h : RowsL H r tas ts) (s : Same H H') : RowsL H' r tas ts := ⟨s _ _ h.at_, paired_mono h.rows fun _ _ ⟨fp, e1, e2⟩ => ⟨fp, s _ _ e1, s _ _ e2⟩⟩
/-- an asker made of a row: the kinds in their order -/
structure AskTk (k : Ask) (t : Tk) : Prop where
  nm : k.nm = t.nm
  m : k.m = t.most
  ks : k.ks.Perm t.fits
theorem cost_asks {ks : List Ask} {ts : List Tk} (h : Paired AskTk ks ts) (st : Str → Int) (L : Str → Bool) : cost (ks.map tkA) st L = cost ts st L := by
  unfold cost
  have e1 : sm (ks.map tkA) (fun t => if L t.nm = true then 0 else t.most) = sm ts fun t => if L t.nm = true then 0 else t.most := by
    induction h with
    | nil => rfl
    | cons h _ ih =>
      rw [List.map_cons, sm, sm, ih]
      show (if L (_ : Ask).nm = true then 0 else (_ : Ask).m) + _ = _
      rw [h.nm, h.m]
  rw [e1, sm_same (nodup_hits (ks.map tkA) L) (nodup_hits ts L) fun x => ?_]
  rw [mem_hits, mem_hits]
  clear e1
  induction h with
  | nil => exact ⟨fun ⟨t, ht, _⟩ => (nomatch ht), fun ⟨t, ht, _⟩ => (nomatch ht)⟩
  | @cons k t ks ts h _ ih =>
    constructor
    · rintro ⟨u, hu, hL, hx⟩
      rw [List.map_cons] at hu
      rcases List.mem_cons.mp hu with rfl | hu
      · exact ⟨t, List.mem_cons_self, by rw [← h.nm]; exact hL, h.ks.mem_iff.mp hx⟩
      · obtain ⟨v, hv, a, b⟩ := ih.mp ⟨u, hu, hL, hx⟩
        exact ⟨v, List.mem_cons_of_mem _ hv, a, b⟩
    · rintro ⟨u, hu, hL, hx⟩
      rcases List.mem_cons.mp hu with e | hu
      · subst e
        exact ⟨tkA k, List.mem_cons_self, by show L k.nm = true; rw [h.nm]; exact hL, h.ks.mem_iff.mpr hx⟩
      · obtain ⟨v, hv, a, b⟩ := ih.mpr ⟨u, hu, hL, hx⟩
        exact ⟨v, List.mem_cons_of_mem _ hv, a, b⟩
theorem least_asks {ks : List Ask} {ts : List Tk} (h : Paired AskTk ks ts) {st : Str → Int} {v : Int} : Least (ks.map tkA) st v ↔ Least ts st v := by
  unfold Least
  simp only [cost_asks h]
theorem asks_nm {ks : List Ask} {ts : List Tk} (h : Paired AskTk ks ts) : ks.map Ask.nm = ts.map (·.nm) := by
  induction h with
  | nil => rfl
  | cons h _ ih => rw [List.map_cons, List.map_cons, ih, h.nm]
theorem paired_take {α β : Type} {R : α → β → Prop} {l : List α} {m : List β} (h : Paired R l m) : ∀ i, Paired R (l.take i) (m.take i) := by
  induction h with
  | nil => intro i; rw [List.take_nil, List.take_nil]; exact .nil
  | cons h _ ih =>
    intro i
    cases i with
    | zero => exact .nil
    | succ i => exact .cons h (ih i)
def rListOf (K : PySem.W.Frag) : List V → Hp → VK → Prop := fun xs H Q => ∃ p ys, xs = [.ref p] ∧ (SqL K H p ys ∨ SqT K H p ys) ∧ ∀ l, H l = none → Q (.ref l) (upd H l (.lst ys))
theorem call_listK {X : Cx} : CallR X (.type "list") (rListOf X.K) := call_list_of
section
variable {P : Program} {w : World} {K : PySem.W.Frag} {mg : Str → Option Value} {base : Heap} {CA fI pN gN pF gF pM gM fE CL fLI fLE fLL fLA fLN fLK fLR fLP fM fD fO fS fW : Addr} {dM dD dO dS dW : FuncData}
def spLineOf (CL CA : Addr) : Sp := fun vs H Q _ => ∃ (r : Addr) (tas : List Addr) (ts : List Tk) (U : List Str), vs = [.ref r] ∧ RowsL H r tas ts ∧ TsOk U ts ∧
  ∀ (H' : Hp) (a : Addr) (as : List Addr) (ks : List Ask), Same H H' → H a = none → LineAt CL CA H' a as ks → Paired AskTk ks ts → Q (.ref a) H'
theorem ok_lineOf {f : Addr} {fd dAI dLI : FuncData} (F : Fun K "_law_line_of" "_law_line_of" sLineOf f fd) (B : Blt mg) (TA : ACls K CA fI pN gN pF gF pM gM fE) (gA : mg "Asker" = some (.ref CA)) (T : LCls K CL fLI fLE fLL fLA fLN fLK fLR fLP) (gL : mg "Line" = some (.ref CL))
    (GAInit : FnOk P w K mg base CX0 3 fI dAI ["self", "name", "fits", "most"] (spAInit K CA)) (bAInit : Binds K dAI ["self", "name", "fits", "most"] []) (GLInit : FnOk P w K mg base CX0 4 fLI dLI ["self", "askers"] (spLInit K CL CA)) (bLInit : Binds K dLI ["self", "askers"] []) : FnOk P w K mg base CX0 6 f fd ["_law_rows_here"] (spLineOf CL CA) := by
  refine F.ok scLineOf (fun vs H Q E h => ?_) (fun cdv A outer s H vs Q E hr h => ?_)
  · obtain ⟨r, tas, ts, U, rfl, _⟩ := h
    rfl
  · obtain ⟨r, tas, ts, U, rfl, hR, hok, q⟩ := h
    refine ⟨_, (pss_one (ps_ret (pe_make T.make GLInit (hr.mono (by decide)) (by rfl) gL bLInit .nil pass0 (pa_cons (pe_lc (own := [("_law_name", 1), ("_law_fits", 2), ("_law_most_here", 3)]) (g := gTup K 3 (gCons (gName 1) (gCons (gName 2) (gCons (gName 3) gNil)))) (tt := tYes) (te := tMake CA (spAInit K CA) [] E0 (tCons (tVar 1) (tCons (tCB (rListOf K) (tCons (tVar 2) tNil)) (tCons (tVar 3) tNil)))) rfl scLineOf.nd (pi_list (pv 0)) (blkOk_by (own := [("_law_name", 1), ("_law_fits", 2), ("_law_most_here", 3)]) (N := NLineOf) (sc := defScope sLineOf) (by decide +kernel))
      (fun _ _ _ _ _ => pg_tup rfl (pgs_cons (pg_name (i := 1) scLineOf.nd rfl (.inl rfl)) (pgs_cons (pg_name (i := 2) scLineOf.nd rfl (.inl rfl)) (pgs_cons (pg_name (i := 3) scLineOf.nd rfl (.inl rfl)) pgs_nil)))) (fun _ _ _ _ _ => pts_nil)
      (fun _ _ _ _ _ => (pe_make TA.make GAInit (hr.mono (by decide)) (by rfl) gA bAInit .nil pass0 (pa_cons (pv 1) (pa_cons (pe_callTy (T := "list") call_listK (by rfl) B.list (by decide +kernel) (pa_cons (pv 2) pa_nil)) (pa_cons (pv 3) pa_nil)))))) pa_nil)))), ?_⟩
    have ltas : tas.length = ts.length := Paired.length hR.rows
    have l5 := hok.le
    refine ⟨.ref r, rfl, r, rfl, ⟨_, SqL.of hR.at_⟩, fun D hD => ?_⟩
    refine lc_foldY walk_refsE (fun i acc G => ∃ (as : List Addr) (ks : List Ask), acc = as.map V.ref ∧ Asks CA G as ks ∧ Paired AskTk ks (ts.take i)) (by rw [sizeLine_eq]; omega) hD ⟨[], [], rfl, .nil, by rw [List.take_zero]; exact .nil⟩ (fun G s => SqL.of (s _ _ hR.at_)) yat_same (fun i acc l' G G' eD kk ⟨as, ks, e1, hA, e2⟩ => ⟨as, ks, e1, hA.off eD kk, e2⟩) ?_ ?_
    · rintro i x acc G G' hi sG eD ⟨rfl, hx⟩ ⟨as, ks, rfl, hA, hP⟩ N M hN hM
      obtain ⟨ta, hta, rfl⟩ := map_ref_at hx
      obtain ⟨t, ht, fp, et, ef⟩ := paired_get' hR.rows hta
      have ok := hok.ok t (List.mem_of_getElem? ht)
      refine ⟨ta, _, rfl, SqT.of (sG _ _ et), rfl, _, _, rfl, _, _, rfl, _, [], rfl, rfl, rfl, ?_⟩
      unfold tYes
      show (if true = true then _ else _)
      rw [if_pos rfl]
      refine ⟨.str t.nm, rfl, .ref fp, rfl, fp, _, rfl, .inl (SqL.of (sG _ _ ef)), fun l nl => ⟨.int t.most, rfl, ?_⟩⟩
      have s1 : Same G' (upd G' l (.lst (t.fits.map V.str))) := Same.fresh nl
      refine made_asker (ys := t.fits) ok.nm (SqL.of upd_same) (fun z hz => (ok.fits.2.2 z hz).1) ok.fits.1 ok.fits.2.1 ?_ ok.most.1 fun G5 x us s4 nx A pu so => ?_
      · have := nodup_leG t.fits U ok.fits.1 fun z hz => (ok.fits.2.2 z hz).2
        have := hok.u
        omega
      refine hN _ _ (s1.trans s4) ⟨as ++ [x], ks ++ [⟨t.nm, us, t.most⟩], by simp, ?_, ?_⟩
      · exact (hA.same (s1.trans s4)).append (.cons A .nil)
      · rw [List.take_add_one, ht]
        exact Paired.snoc hP ⟨rfl, rfl, pu⟩
    rintro G acc sG eD ⟨as, ks, rfl, hA, hP⟩
    rw [ltas, List.take_length] at hP
    have lks : ks.length = ts.length := Paired.length hP
    have enm := asks_nm hP
    refine made_line (SqL.of eD) hA (by omega) (by rw [enm]; exact hok.nd) fun G2 a s2 na LA => q G2 a as ks (sG.trans s2) (none_of_same sG na) LA hP
end
end Eld
end L2

set_option Elab.async false
set_option linter.all false
set_option maxRecDepth 100000
set_option maxHeartbeats 4000000
/-! ## deals, by themselves -/
namespace L2
namespace Eld
open PySem PySem.Spec PyProof.Rows PySem.EldX
structure IsDealT (ts : List Tk) (st : Str → Int) (ds : List (Str × Int)) : Prop where
  nm : ds.map (·.1) = ts.map (·.nm)
  ls : ∀ j, j ≤ ts.length → Least (ts.take j) st (sm (ds.take j) (·.2))
theorem sm_take_succ (ds : List (Str × Int)) {j : Nat} {d : Str × Int} (h : ds[j]? = some d) : sm (ds.take (j + 1)) (·.2) = sm (ds.take j) (·.2) + d.2 := by
  rw [List.take_add_one, h, sm_app]
  show _ + (d.2 + 0) = _
  omega
theorem IsDealT.uni {ts : List Tk} {st : Str → Int} {ds ds' : List (Str × Int)} (d : IsDealT ts st ds) (d' : IsDealT ts st ds') : ds = ds' := by
  have l1 : ds.length = ts.length := by
    have := congrArg List.length d.nm
    simpa using this
  have l2 : ds'.length = ts.length := by
    have := congrArg List.length d'.nm
    simpa using this
  refine List.ext_getElem? fun j => ?_
  rcases Nat.lt_or_ge j ts.length with hj | hj
  · have e1 : ds[j]? = some (ds[j]'(by omega)) := List.getElem?_eq_getElem _
    have e2 : ds'[j]? = some (ds'[j]'(by omega)) := List.getElem?_eq_getElem _
    generalize ds[j]'(by omega) = a at e1
    generalize ds'[j]'(by omega) = b at e2
    have h1 := (d.ls (j + 1) hj).uni (d'.ls (j + 1) hj)
    have h0 := (d.ls j (Nat.le_of_lt hj)).uni (d'.ls j (Nat.le_of_lt hj))
    rw [sm_take_succ ds e1, sm_take_succ ds' e2, h0] at h1
    have n1 : (ds.map (·.1))[j]? = some a.1 := by rw [List.getElem?_map, e1]; rfl
    have n2 : (ds'.map (·.1))[j]? = some b.1 := by rw [List.getElem?_map, e2]; rfl
    rw [d.nm] at n1
    rw [d'.nm, n1] at n2
    have e3 : a.1 = b.1 := Option.some.inj n2
    have e4 : a.2 = b.2 := by omega
    rw [e1, e2, show a = b from Prod.ext e3 e4]
  · rw [List.getElem?_eq_none (by omega), List.getElem?_eq_none (by omega)]
theorem IsDeal.tk {ks : List Ask} {st : Str → Int} {ds : List (Str × Int)} (d : IsDeal ks st ds) : IsDealT (ks.map tkA) st ds := ⟨by rw [d.nm, List.map_map]; rfl, fun j hj => d.ls j (by rw [List.length_map] at hj; exact hj)⟩

end Eld
end L2

set_option Elab.async false
set_option linter.all false
set_option maxRecDepth 100000
set_option maxHeartbeats 4000000
/-! ## who gets less: fewer or lesser elders, more bags -/
namespace L2
namespace Eld
open PySem PySem.Spec PyProof.Rows PySem.EldX
/-- some gone, some with lesser mosts -/
inductive Lesser : List Tk → List Tk → Prop
  | nil : Lesser [] []
  | drop {t : Tk} {P' P : List Tk} : Lesser P' P → Lesser P' (t :: P)
  | keep {t' t : Tk} {P' P : List Tk} : t'.nm = t.nm → t'.fits = t.fits → t'.most ≤ t.most → Lesser P' P → Lesser (t' :: P') (t :: P)
theorem Lesser.refl : ∀ P : List Tk, Lesser P P
  | [] => .nil
  | t :: P => .keep rfl rfl (Int.le_refl _) (Lesser.refl P)
theorem Lesser.pre {P' P : List Tk} (h : Lesser P' P) : ∀ A : List Tk, Lesser (A ++ P') (A ++ P)
  | [] => h
  | t :: A => .keep rfl rfl (Int.le_refl _) (h.pre A)
theorem Lesser.mem {P' P : List Tk} (h : Lesser P' P) : ∀ {t' : Tk}, t' ∈ P' → ∃ t ∈ P, t.nm = t'.nm ∧ t.fits = t'.fits := by
  induction h with
  | nil => intro t' h; cases h
  | drop _ ih =>
    intro t' ht
    obtain ⟨t, h1, h2⟩ := ih ht
    exact ⟨t, List.mem_cons_of_mem _ h1, h2⟩
  | keep e1 e2 _ _ ih =>
    intro t' ht
    rcases List.mem_cons.mp ht with rfl | ht
    · exact ⟨_, List.mem_cons_self, e1.symm, e2.symm⟩
    · obtain ⟨t, h1, h2⟩ := ih ht
      exact ⟨t, List.mem_cons_of_mem _ h1, h2⟩
theorem nm_inj {P : List Tk} (nd : (P.map (·.nm)).Nodup) {a b : Tk} (ha : a ∈ P) (hb : b ∈ P) (e : a.nm = b.nm) : a = b := by
  induction P with
  | nil => cases ha
  | cons t P ih =>
    rw [List.map_cons, List.nodup_cons] at nd
    rcases List.mem_cons.mp ha with ea | ha
    · rcases List.mem_cons.mp hb with eb | hb
      · rw [ea, eb]
      · exact absurd (List.mem_map.mpr ⟨b, hb, by rw [← e, ea]⟩) nd.1
    · rcases List.mem_cons.mp hb with eb | hb
      · exact absurd (List.mem_map.mpr ⟨a, ha, by rw [e, eb]⟩) nd.1
      · exact ih nd.2 ha hb
theorem Lesser.back {P' P : List Tk} (h : Lesser P' P) (nd : (P.map (·.nm)).Nodup) {t : Tk} (ht : t ∈ P) (hn : t.nm ∈ P'.map (·.nm)) : ∃ t' ∈ P', t'.nm = t.nm ∧ t'.fits = t.fits := by
  obtain ⟨t', h1, h2⟩ := List.mem_map.mp hn
  obtain ⟨t2, h3, h4, h5⟩ := h.mem h1
  obtain rfl := nm_inj nd h3 ht (h4.trans h2)
  exact ⟨t', h1, h2, h5.symm⟩
/-- mosts outside: of both lots' union and of what both share -/
theorem Lesser.sums {P' P : List Tk} (h : Lesser P' P) {L1 L2 : Str → Bool} : (P.map (·.nm)).Nodup → (∀ t ∈ P, t.nm ∉ P'.map (·.nm) → L1 t.nm = false) →
    sm P (fun t => if (L1 t.nm || L2 t.nm) = true then 0 else t.most) + sm P' (fun t => if (L1 t.nm && L2 t.nm) = true then 0 else t.most) ≤ sm P' (fun t => if L1 t.nm = true then 0 else t.most) + sm P (fun t => if L2 t.nm = true then 0 else t.most) := by
  induction h with
  | nil => intro _ _; exact Int.le_refl _
  | @drop t P' P hl ih =>
    intro nd hd
    rw [List.map_cons, List.nodup_cons] at nd
    have h1 := ih nd.2 fun u hu hn => hd u (List.mem_cons_of_mem _ hu) hn
    have h2 := hd t List.mem_cons_self fun z => by
      obtain ⟨t', h3, h4⟩ := List.mem_map.mp z
      obtain ⟨t2, h5, h6, _⟩ := hl.mem h3
      exact nd.1 (List.mem_map.mpr ⟨t2, h5, h6.trans h4⟩)
    simp only [sm, h2, Bool.false_or]
    omega
  | @keep t' t P' P e1 e2 e3 hl ih =>
    intro nd hd
    rw [List.map_cons, List.nodup_cons] at nd
    have h1 := ih nd.2 fun u hu hn => hd u (List.mem_cons_of_mem _ hu) fun z => by
      rw [List.map_cons] at z
      rcases List.mem_cons.mp z with z | z
      · exact nd.1 (List.mem_map.mpr ⟨u, hu, z.trans e1⟩)
      · exact hn z
    simp only [sm, e1]
    have key : (if (L1 t.nm || L2 t.nm) = true then 0 else t.most) + (if (L1 t.nm && L2 t.nm) = true then 0 else t'.most) ≤ (if L1 t.nm = true then 0 else t'.most) + (if L2 t.nm = true then 0 else t.most) := by
      cases L1 t.nm <;> cases L2 t.nm <;> simp <;> omega
    omega
theorem sm_in {A U : List Str} (hA : A.Nodup) (hU : U.Nodup) (h : ∀ k ∈ A, k ∈ U) (f : Str → Int) : sm A f = sm U fun k => if k ∈ A then f k else 0 := by
  have e : sm A f = sm (U.filter fun k => decide (k ∈ A)) f := sm_same hA (hU.filter _) (fun k => by
    rw [List.mem_filter, decide_eq_true_iff]
    exact ⟨fun q => ⟨h k q, q⟩, fun q => q.2⟩) f
  rw [e, sm_filter]
  refine sm_congr fun k _ => ?_
  by_cases z : k ∈ A
  · rw [if_pos (decide_eq_true z), if_pos z]
  · rw [if_neg fun q => z (of_decide_eq_true q), if_neg z]
theorem sm_cross {A B C D : List Str} (hA : A.Nodup) (hB : B.Nodup) (hC : C.Nodup) (hD : D.Nodup) (h1 : ∀ k ∈ A, k ∈ C ∨ k ∈ D) (h2 : ∀ k ∈ B, k ∈ C ∧ k ∈ D) {st st' : Str → Int} (h0 : ∀ k, 0 ≤ st k) (hs : ∀ k, st k ≤ st' k) :
    sm A st + sm B st' ≤ sm C st' + sm D st := by
  have mU : ∀ k, k ∈ uniq (A ++ B ++ C ++ D) ↔ ((k ∈ A ∨ k ∈ B) ∨ k ∈ C) ∨ k ∈ D := fun k => by rw [mem_uniq, List.mem_append, List.mem_append, List.mem_append]
  have nU := nodup_uniq (A ++ B ++ C ++ D)
  generalize uniq (A ++ B ++ C ++ D) = U at mU nU
  rw [sm_in hA nU fun k q => (mU k).mpr (.inl (.inl (.inl q))), sm_in hB nU fun k q => (mU k).mpr (.inl (.inl (.inr q))), sm_in hC nU fun k q => (mU k).mpr (.inl (.inr q)), sm_in hD nU fun k q => (mU k).mpr (.inr q), ← sm_add, ← sm_add]
  refine sm_le fun k _ => ?_
  have a0 := h0 k
  have a1 := hs k
  by_cases b : k ∈ B
  · obtain ⟨c, d⟩ := h2 k b
    rw [if_pos b, if_pos c, if_pos d]
    split <;> omega
  · rw [if_neg b]
    by_cases a : k ∈ A
    · rw [if_pos a]
      rcases h1 k a with c | d
      · rw [if_pos c]
        split <;> omega
      · rw [if_pos d]
        split <;> omega
    · rw [if_neg a]
      split <;> split <;> omega
theorem cost_lots {ts : List Tk} {st : Str → Int} {L L' : Str → Bool} (h : ∀ t ∈ ts, L t.nm = L' t.nm) : cost ts st L = cost ts st L' := by
  unfold cost
  rw [sm_congr fun t ht => by rw [h t ht], sm_same (nodup_hits ts L) (nodup_hits ts L') fun k => ?_]
  rw [mem_hits, mem_hits]
  exact ⟨fun ⟨t, a, b, c⟩ => ⟨t, a, by rw [← h t a]; exact b, c⟩, fun ⟨t, a, b, c⟩ => ⟨t, a, by rw [h t a]; exact b, c⟩⟩
/-- behind fewer or lesser elders, with more bags, the last one gets no less -/
theorem least_sub {P' P : List Tk} {x : Tk} {st st' : Str → Int} {v0 v1 v0' v1' : Int} (h : Lesser P' P) (nd : ((P ++ [x]).map (·.nm)).Nodup) (h0 : ∀ k, 0 ≤ st k) (hs : ∀ k, st k ≤ st' k) (a0 : Least P st v0) (a1 : Least (P ++ [x]) st v1) (b0 : Least P' st' v0') (b1 : Least (P' ++ [x]) st' v1') : v1 + v0' ≤ v1' + v0 := by
  obtain ⟨⟨L1, e1⟩, _⟩ := b1
  obtain ⟨⟨L2, e2⟩, _⟩ := a0
  rw [List.map_append, List.nodup_append] at nd
  obtain ⟨ndP, _, ndx⟩ := nd
  have hx : x.nm ∉ P.map (·.nm) := fun q => ndx _ q _ (List.mem_map.mpr ⟨x, List.mem_singleton.mpr rfl, rfl⟩) rfl
  have memN : ∀ {Q : List Tk} {t : Tk}, t ∈ Q → t.nm ∈ Q.map (·.nm) := fun ht => List.mem_map.mpr ⟨_, ht, rfl⟩
  obtain ⟨M1, hM1⟩ : ∃ M1 : Str → Bool, M1 = fun n => L1 n && decide (n ∈ (P' ++ [x]).map (·.nm)) := ⟨_, rfl⟩
  obtain ⟨M2, hM2⟩ : ∃ M2 : Str → Bool, M2 = fun n => L2 n && decide (n ∈ P.map (·.nm)) := ⟨_, rfl⟩
  have m1 : ∀ n, M1 n = true → n ∈ (P' ++ [x]).map (·.nm) := fun n q => by
    rw [hM1] at q
    have := (Bool.and_eq_true _ _ ▸ q).2
    exact of_decide_eq_true this
  have m2 : ∀ n, M2 n = true → n ∈ P.map (·.nm) := fun n q => by
    rw [hM2] at q
    have := (Bool.and_eq_true _ _ ▸ q).2
    exact of_decide_eq_true this
  have c1 : cost (P' ++ [x]) st' L1 = cost (P' ++ [x]) st' M1 := cost_lots fun t ht => by
    rw [hM1]
    show _ = (L1 t.nm && decide (t.nm ∈ (P' ++ [x]).map (·.nm)))
    rw [decide_eq_true (memN ht), Bool.and_true]
  have c2 : cost P st L2 = cost P st M2 := cost_lots fun t ht => by
    rw [hM2]
    show _ = (L2 t.nm && decide (t.nm ∈ P.map (·.nm)))
    rw [decide_eq_true (memN ht), Bool.and_true]
  have u1 : v1 ≤ sm (P ++ [x]) (fun t => if (M1 t.nm || M2 t.nm) = true then 0 else t.most) + sm (hits (P ++ [x]) fun n => M1 n || M2 n) st := a1.2 fun n => M1 n || M2 n
  have u2 : v0' ≤ sm P' (fun t => if (M1 t.nm && M2 t.nm) = true then 0 else t.most) + sm (hits P' fun n => M1 n && M2 n) st' := b0.2 fun n => M1 n && M2 n
  have M2x : M2 x.nm = false := by
    cases e : M2 x.nm with
    | false => rfl
    | true => exact absurd (m2 _ e) hx
  have s1 := h.sums (L1 := M1) (L2 := M2) ndP fun t ht hn => by
    cases e : M1 t.nm with
    | false => rfl
    | true =>
      have q := m1 _ e
      rw [List.map_append] at q
      rcases List.mem_append.mp q with q | q
      · exact absurd q hn
      · have : t.nm = x.nm := by
          obtain ⟨y, hy, ey⟩ := List.mem_map.mp q
          obtain rfl := List.mem_singleton.mp hy
          exact ey.symm
        exact absurd (this ▸ memN ht) hx
  have s2 : sm (hits (P ++ [x]) fun n => M1 n || M2 n) st + sm (hits P' fun n => M1 n && M2 n) st' ≤ sm (hits (P' ++ [x]) M1) st' + sm (hits P M2) st := by
    refine sm_cross (nodup_hits _ _) (nodup_hits _ _) (nodup_hits _ _) (nodup_hits _ _) (fun k hk => ?_) (fun k hk => ?_) h0 hs
    · obtain ⟨t, ht, hL, hf⟩ := mem_hits.mp hk
      rcases List.mem_append.mp ht with ht | ht
      · rcases (Bool.or_eq_true _ _ ▸ hL : M1 t.nm = true ∨ M2 t.nm = true) with q | q
        · have q' := m1 _ q
          rw [List.map_append] at q'
          rcases List.mem_append.mp q' with q' | q'
          · obtain ⟨t', a, b, c⟩ := h.back ndP ht q'
            exact .inl (mem_hits.mpr ⟨t', List.mem_append_left _ a, b ▸ q, c ▸ hf⟩)
          · have : t.nm = x.nm := by
              obtain ⟨y, hy, ey⟩ := List.mem_map.mp q'
              obtain rfl := List.mem_singleton.mp hy
              exact ey.symm
            exact absurd (this ▸ memN ht) hx
        · exact .inr (mem_hits.mpr ⟨t, ht, q, hf⟩)
      · have ex := List.mem_singleton.mp ht
        rw [ex] at hL hf
        rcases (Bool.or_eq_true _ _ ▸ hL : M1 x.nm = true ∨ M2 x.nm = true) with q | q
        · exact .inl (mem_hits.mpr ⟨x, List.mem_append_right _ (List.mem_singleton.mpr rfl), q, hf⟩)
        · rw [M2x] at q
          cases q
    · obtain ⟨t', ht, hL, hf⟩ := mem_hits.mp hk
      have q : M1 t'.nm = true ∧ M2 t'.nm = true := Bool.and_eq_true _ _ ▸ hL
      obtain ⟨t, a, b, c⟩ := h.mem ht
      exact ⟨mem_hits.mpr ⟨t', List.mem_append_left _ ht, q.1, hf⟩, mem_hits.mpr ⟨t, a, b ▸ q.2, c ▸ hf⟩⟩
  rw [e1, e2, c1, c2]
  unfold cost
  rw [sm_app] at u1 ⊢
  have ex : sm [x] (fun t => if (M1 t.nm || M2 t.nm) = true then 0 else t.most) = sm [x] fun t => if M1 t.nm = true then 0 else t.most := by
    simp only [sm, M2x, Bool.or_false]
  rw [ex] at u1
  omega
theorem least_plus {ts : List Tk} {st st' : Str → Int} {z : Str} (h : ∀ k, st' k = st k + if k = z then 1 else 0) {v v' : Int} (a : Least ts st v) (b : Least ts st' v') : v' ≤ v + 1 := by
  obtain ⟨⟨L, rfl⟩, _⟩ := a
  have h1 := b.2 L
  unfold cost at h1 ⊢
  have e : sm (hits ts L) st' = sm (hits ts L) st + sm (hits ts L) fun k => if k = z then 1 else 0 := by
    rw [← sm_add]
    exact sm_congr fun k _ => h k
  rw [sm_hot (nodup_hits ts L)] at e
  split at e <;> omega
/-! ### deals -/
theorem deal_at {ts : List Tk} {st : Str → Int} {ds : List (Str × Int)} (d : IsDealT ts st ds) {j : Nat} {a : Str × Int} (ha : ds[j]? = some a) : ∃ x v0, ts[j]? = some x ∧ x.nm = a.1 ∧ Least (ts.take j) st v0 ∧ Least (ts.take j ++ [x]) st (v0 + a.2) := by
  have l1 : ds.length = ts.length := by
    have := congrArg List.length d.nm
    simpa using this
  have lj := (List.getElem?_eq_some_iff.mp ha).1
  obtain ⟨x, hx⟩ : ∃ x, ts[j]? = some x := ⟨ts[j]'(by omega), List.getElem?_eq_getElem (by omega)⟩
  have hn : a.1 = x.nm := by
    have e := congrArg (fun l => l[j]?) d.nm
    simp only [List.getElem?_map, ha, hx, Option.map_some] at e
    exact Option.some.inj e
  have e1 := d.ls j (by omega)
  have e2 := d.ls (j + 1) (by omega)
  rw [sm_take_succ ds ha, List.take_add_one, hx] at e2
  exact ⟨x, _, hx, hn.symm, e1, e2⟩
theorem deal_ge {ts ts' : List Tk} {st st' : Str → Int} {ds ds' : List (Str × Int)} (d : IsDealT ts st ds) (d' : IsDealT ts' st' ds') (nd : (ts.map (·.nm)).Nodup) (h0 : ∀ k, 0 ≤ st k) (hs : ∀ k, st k ≤ st' k) {j j' : Nat} {x : Tk} (hx : ts[j]? = some x) (hx' : ts'[j']? = some x) {P' : List Tk} (pp : P'.Perm (ts'.take j')) (l : Lesser P' (ts.take j)) {a b : Str × Int} (ha : ds[j]? = some a) (hb : ds'[j']? = some b) : a.2 ≤ b.2 := by
  obtain ⟨y, v0, hy, _, a0, a1⟩ := deal_at d ha
  obtain ⟨y', w0, hy', _, b0, b1⟩ := deal_at d' hb
  obtain rfl : y = x := Option.some.inj (hy.symm.trans hx)
  obtain rfl : y' = y := Option.some.inj (hy'.symm.trans hx')
  have nd1 : ((ts.take j ++ [y']).map (·.nm)).Nodup := by
    have e : ts.take j ++ [y'] = ts.take (j + 1) := by rw [List.take_add_one, hy]; rfl
    rw [e]
    exact nd.sublist ((List.take_sublist _ _).map _)
  have := least_sub l nd1 h0 hs a0 a1 (b0.perm pp.symm) (b1.perm (pp.symm.append_right _))
  omega
/-- turned so that nobody but one has more ahead -/
def Behind (nm : Str) (ts ts' : List Tk) : Prop := ∀ j' x, ts'[j']? = some x → x.nm ≠ nm → ∃ j P', ts[j]? = some x ∧ P'.Perm (ts'.take j') ∧ Lesser P' (ts.take j)
theorem get_app {α : Type} {A B : List α} {j : Nat} (h : A.length ≤ j) : (A ++ B)[j]? = B[j - A.length]? := List.getElem?_append_right h
theorem behind_gone (A B : List Tk) (i : Tk) : Behind i.nm (A ++ i :: B) (A ++ B) := fun j' x hx hn => by
  rcases Nat.lt_or_ge j' A.length with lt | ge
  · rw [List.getElem?_append_left lt] at hx
    refine ⟨j', A.take j', by rw [List.getElem?_append_left lt]; exact hx, by rw [List.take_append_of_le_length (by omega)], ?_⟩
    rw [List.take_append_of_le_length (by omega)]
    exact .refl _
  · obtain ⟨q, rfl⟩ : ∃ q, j' = A.length + q := ⟨j' - A.length, by omega⟩
    rw [get_app ge, Nat.add_sub_cancel_left] at hx
    refine ⟨A.length + (q + 1), A ++ B.take q, ?_, ?_, ?_⟩
    · rw [get_app (by omega), Nat.add_sub_cancel_left]
      exact hx
    · rw [List.take_length_add_append]
    · rw [List.take_length_add_append]
      exact (Lesser.drop (.refl _)).pre A
theorem behind_less (A B : List Tk) {i i' : Tk} (e1 : i'.nm = i.nm) (e2 : i'.fits = i.fits) (e3 : i'.most ≤ i.most) : Behind i.nm (A ++ i :: B) (A ++ i' :: B) := fun j' x hx hn => by
  rcases Nat.lt_or_ge j' A.length with lt | ge
  · rw [List.getElem?_append_left lt] at hx
    refine ⟨j', A.take j', by rw [List.getElem?_append_left lt]; exact hx, by rw [List.take_append_of_le_length (by omega)], ?_⟩
    rw [List.take_append_of_le_length (by omega)]
    exact .refl _
  · obtain ⟨q, rfl⟩ : ∃ q, j' = A.length + q := ⟨j' - A.length, by omega⟩
    rw [get_app ge, Nat.add_sub_cancel_left] at hx
    cases q with
    | zero =>
      obtain rfl : i' = x := Option.some.inj hx
      exact absurd e1 hn
    | succ q =>
      refine ⟨A.length + (q + 1), A ++ i' :: B.take q, ?_, ?_, ?_⟩
      · rw [get_app (by omega), Nat.add_sub_cancel_left]
        exact hx
      · rw [List.take_length_add_append]
        exact .refl _
      · rw [List.take_length_add_append]
        exact (Lesser.keep e1 e2 e3 (.refl _)).pre A
theorem behind_moved (A C E : List Tk) (i : Tk) : Behind i.nm (A ++ i :: (C ++ E)) (A ++ (C ++ i :: E)) := fun j' x hx hn => by
  rcases Nat.lt_or_ge j' A.length with lt | ge
  · rw [List.getElem?_append_left lt] at hx
    refine ⟨j', A.take j', by rw [List.getElem?_append_left lt]; exact hx, by rw [List.take_append_of_le_length (by omega)], ?_⟩
    rw [List.take_append_of_le_length (by omega)]
    exact .refl _
  · obtain ⟨q, rfl⟩ : ∃ q, j' = A.length + q := ⟨j' - A.length, by omega⟩
    rw [get_app ge, Nat.add_sub_cancel_left] at hx
    rcases Nat.lt_or_ge q C.length with lt | ge2
    · rw [List.getElem?_append_left lt] at hx
      refine ⟨A.length + (q + 1), A ++ C.take q, ?_, ?_, ?_⟩
      · rw [get_app (by omega), Nat.add_sub_cancel_left, List.getElem?_cons_succ, List.getElem?_append_left lt]
        exact hx
      · rw [List.take_length_add_append, List.take_append_of_le_length (by omega)]
      · rw [List.take_length_add_append, List.take_succ_cons, List.take_append_of_le_length (by omega)]
        exact (Lesser.drop (.refl _)).pre A
    · obtain ⟨u, rfl⟩ : ∃ u, q = C.length + u := ⟨q - C.length, by omega⟩
      rw [get_app ge2, Nat.add_sub_cancel_left] at hx
      cases u with
      | zero =>
        obtain rfl : i = x := Option.some.inj hx
        exact absurd rfl hn
      | succ u =>
        refine ⟨A.length + (C.length + u + 1), A ++ i :: (C ++ E.take u), ?_, ?_, ?_⟩
        · rw [get_app (by omega), Nat.add_sub_cancel_left, List.getElem?_cons_succ, get_app (by omega), Nat.add_sub_cancel_left]
          exact hx
        · rw [List.take_length_add_append, show C.length + (u + 1) = C.length + (u + 1) from rfl, List.take_length_add_append, List.take_succ_cons]
          exact (List.perm_middle.symm).append_left A
        · rw [List.take_length_add_append, List.take_succ_cons, List.take_length_add_append]
          exact .refl _

end Eld
end L2

set_option Elab.async false
set_option linter.all false
set_option maxRecDepth 100000
set_option maxHeartbeats 4000000
/-! ## parts -/
namespace L2
namespace Eld
open PySem PySem.Spec PyProof.Rows PySem.EldX
theorem strOkW {y : Str} (h : IsWord y) : PySem.PyData.strOk y = true := by
  unfold PySem.PyData.strOk
  rw [Array.all_eq_true']
  intro c hc
  have := h.2.2 c (Array.mem_toList_iff.mpr hc)
  exact decide_eq_true (Nat.lt_of_le_of_lt this.2 (by decide))
/-! ### all parts of a list -/
def pws {α : Type} (xs : List α) : List (List α) := xs.foldl (fun ls x => ls ++ ls.map (· ++ [x])) [[]]
theorem pws_snoc {α : Type} (xs : List α) (x : α) : pws (xs ++ [x]) = pws xs ++ (pws xs).map (· ++ [x]) := by
  unfold pws
  rw [List.foldl_append]
  rfl
theorem sub_pws {α : Type} {xs l : List α} (h : l ∈ pws xs) : l.Sublist xs := by
  revert l
  rw [← List.reverse_reverse xs]
  generalize xs.reverse = r
  induction r with
  | nil =>
    intro l h
    obtain rfl := List.mem_singleton.mp h
    exact .slnil
  | cons x r ih =>
    intro l h
    rw [List.reverse_cons, pws_snoc] at h
    rw [List.reverse_cons]
    rcases List.mem_append.mp h with h | h
    · exact (ih h).trans (List.sublist_append_left _ _)
    · obtain ⟨m, hm, rfl⟩ := List.mem_map.mp h
      exact (ih hm).append (List.Sublist.refl _)
theorem filter_pws {α : Type} (p : α → Bool) (xs : List α) : xs.filter p ∈ pws xs := by
  rw [← List.reverse_reverse xs]
  generalize xs.reverse = r
  induction r with
  | nil => exact List.mem_singleton.mpr rfl
  | cons x r ih =>
    rw [List.reverse_cons, pws_snoc, List.filter_append]
    by_cases z : p x = true
    · rw [List.filter_cons, if_pos z]
      exact List.mem_append_right _ (List.mem_map.mpr ⟨_, ih, rfl⟩)
    · rw [List.filter_cons, if_neg z]
      refine List.mem_append_left _ ?_
      rw [List.filter_nil, List.append_nil]
      exact ih
theorem pws_len {α : Type} (xs : List α) : (pws xs).length = 2 ^ xs.length := by
  rw [← List.reverse_reverse xs]
  generalize xs.reverse = r
  induction r with
  | nil => rfl
  | cons x r ih =>
    rw [List.reverse_cons, pws_snoc, List.length_append, List.length_map, ih, List.length_append, List.length_singleton, Nat.pow_succ]
    omega
/-- the lot's sum as the law makes it -/
theorem cost_congr {ts : List Tk} {st : Str → Int} {L M : Str → Bool} (h : ∀ t ∈ ts, L t.nm = M t.nm) : cost ts st L = cost ts st M := by
  unfold cost
  rw [sm_congr fun t ht => by rw [h t ht], sm_same (nodup_hits ts L) (nodup_hits ts M) fun k => ?_]
  rw [mem_hits, mem_hits]
  exact ⟨fun ⟨t, ht, a, b⟩ => ⟨t, ht, by rw [← h t ht]; exact a, b⟩, fun ⟨t, ht, a, b⟩ => ⟨t, ht, by rw [h t ht]; exact a, b⟩⟩
end Eld
end L2

set_option Elab.async false
set_option linter.all false
set_option maxRecDepth 100000
set_option maxHeartbeats 4000000
/-! ## data of words: shown, compared -/
namespace L2
namespace Eld
open PySem PySem.Spec PyProof.Rows PySem.EldX
structure Shows (d : PyData) : Prop where
  s : d.showable = true
  z : d.shown.length ≤ sizeLine
  d : d.depth ≤ 100
theorem shows_of {d : PyData} (h1 : d.showable = true) (h2 : d.leavesShort 40 = true) (h3 : d.bulk ≤ 3000) (h4 : d.depth ≤ 100) : Shows d := by
  refine ⟨h1, ?_, h4⟩
  have e := PyData.shown_le_bulk 40 (by decide) d h2
  rw [sizeLine_eq]
  omega
abbrev sts (ys : List Str) : List PyData := ys.map PyData.str
theorem word_short {w : Str} (h : IsWord w) : (PyData.str w).leavesShort 40 = true := by
  simp only [PyData.leavesShort, List.all_eq_true, decide_eq_true_eq]
  intro c hc
  exact Nat.lt_of_le_of_lt (h.2.2 c hc).2 (by decide)
theorem sts_showable : ∀ ys : List Str, PyData.showableAll (sts ys) = true
  | [] => by simp only [sts, List.map_nil, PyData.showableAll]
  | y :: ys => by
    have ih := sts_showable ys
    simp only [sts, List.map_cons, PyData.showableAll, PyData.showable, Bool.true_and] at ih ⊢
    exact ih
theorem sts_short : ∀ {ys : List Str}, (∀ y ∈ ys, IsWord y) → PyData.leavesShortAll 40 (sts ys) = true
  | [], _ => by simp only [sts, List.map_nil, PyData.leavesShortAll]
  | y :: ys, h => by
    have ih := sts_short fun z hz => h z (List.mem_cons_of_mem _ hz)
    have hy := word_short (h y (List.mem_cons_self ..))
    simp only [sts, List.map_cons, PyData.leavesShortAll] at ih ⊢
    rw [hy, ih] <;> rfl
theorem sts_bulk : ∀ {ys : List Str}, (∀ y ∈ ys, IsWord y) → PyData.bulkAll (sts ys) ≤ 11 * ys.length
  | [], _ => by simp only [sts, List.map_nil, PyData.bulkAll, List.length_nil]; omega
  | y :: ys, h => by
    have ih := sts_bulk fun z hz => h z (List.mem_cons_of_mem _ hz)
    have hy : y.cps.size ≤ 10 := (h y (List.mem_cons_self ..)).2.1
    simp only [sts, List.map_cons, PyData.bulkAll, PyData.bulk, List.length_cons] at ih ⊢
    omega
theorem sts_depth : ∀ ys : List Str, PyData.depthAll (sts ys) ≤ 1
  | [] => by simp only [sts, List.map_nil, PyData.depthAll]; omega
  | y :: ys => by
    have ih := sts_depth ys
    simp only [sts, List.map_cons, PyData.depthAll, PyData.depth] at ih ⊢
    omega
theorem shows_sts {ys : List Str} (h : ∀ y ∈ ys, IsWord y) (l : ys.length ≤ 200) : Shows (.list (sts ys)) := by
  refine shows_of ?_ ?_ ?_ ?_
  · simp only [PyData.showable]
    exact sts_showable ys
  · simp only [PyData.leavesShort]
    exact sts_short h
  · have := sts_bulk h
    simp only [PyData.bulk]
    omega
  · have := sts_depth ys
    simp only [PyData.depth]
    omega
theorem int_short {m : Int} (h0 : 0 ≤ m) (h : m < 10 ^ 30) : (PyData.int m).leavesShort 40 = true := by
  simp only [PyData.leavesShort, PyData.shown]
  have := PyProof.Rows.toString_length_le h0 (k := 30) (by decide) (by exact_mod_cast h)
  exact decide_eq_true (Nat.le_trans this (show 30 ≤ 40 by decide))
theorem int_bits {m : Int} (h0 : 0 ≤ m) (h : m < 10 ^ 30) : m.natAbs.log2 < 1920 := by
  refine PySem.Flt.log2_lt_of (by decide) ?_
  have : m.natAbs < 10 ^ 30 := by omega
  exact Nat.lt_trans this (by decide +kernel)
/-- [name, fits, most] -/
abbrev askD (k : Ask) : PyData := .list [.str k.nm, .list (sts k.ks), .int k.m]
theorem shows_ask {k : Ask} (h : IsWord k.nm) (hk : ∀ y ∈ k.ks, IsWord y) (l : k.ks.length ≤ 100) (h0 : 0 ≤ k.m) (h1 : k.m < 10 ^ 30) : Shows (askD k) := by
  have a1 := sts_showable k.ks
  have a2 := sts_short hk
  have a3 := sts_bulk hk
  have a4 := sts_depth k.ks
  have b1 := word_short h
  have b2 : k.nm.cps.size ≤ 10 := h.2.1
  have c1 := int_short h0 h1
  refine shows_of ?_ ?_ ?_ ?_
  · simp only [askD, PyData.showable, PyData.showableAll, a1, Bool.true_and, Bool.and_true, decide_eq_true_eq]
    exact int_bits h0 h1
  · have b1' := b1
    have c1' := c1
    simp only [askD, PyData.leavesShort, PyData.leavesShortAll] at b1' c1' ⊢
    rw [b1', c1', a2] <;> rfl
  · simp only [askD, PyData.bulk, PyData.bulkAll]
    omega
  · simp only [askD, PyData.depth, PyData.depthAll]
    omega
section
variable {K : PySem.W.Frag} {H : Hp}
theorem dq_all : ∀ ys : List Str, DqAll K H (ys.map V.str) (sts ys)
  | [] => .nil
  | y :: ys => .cons (.str y) (dq_all ys)
theorem dq_sts {a : Addr} {ys : List Str} (h : SqL K H a (ys.map V.str)) : Dq K H (.ref a) (.list (sts ys)) := .lst h (dq_all ys)
theorem dp_all : ∀ ys : List Str, DpAll K H (ys.map V.str) (sts ys)
  | [] => .nil
  | y :: ys => .cons (.str y) (dp_all ys)
theorem dp_sts {a : Addr} {ys : List Str} (h : SqL K H a (ys.map V.str)) : Dp K H (.ref a) (.list (sts ys)) := .lst h (dp_all ys)
end
theorem sts_lay : ∀ {ys : List Str}, (∀ y ∈ ys, IsWord y) → PyData.canLayAll0 (sts ys) = true
  | [], _ => by simp only [sts, List.map_nil, PyData.canLayAll0]
  | y :: ys, h => by
    have ih := sts_lay fun z hz => h z (List.mem_cons_of_mem _ hz)
    have hy : PySem.PyData.strOk y = true := by
      unfold PySem.PyData.strOk
      rw [Array.all_eq_true']
      intro c hc
      have := (h y (List.mem_cons_self ..)).2.2 c (Array.mem_toList_iff.mpr hc)
      exact decide_eq_true (Nat.lt_of_le_of_lt this.2 (by decide))
    simp only [sts, List.map_cons, PyData.canLayAll0, PyData.canLay0] at ih ⊢
    rw [hy, ih] <;> rfl
theorem shaped_sts {ys : List Str} (h : ∀ y ∈ ys, IsWord y) : SeqAt.shaped (.list (sts ys)) = true := by
  unfold SeqAt.shaped
  rw [Bool.and_eq_true, decide_eq_true_eq]
  refine ⟨?_, ?_⟩
  · simp only [PyData.canLay0]
    exact sts_lay h
  · have := sts_depth ys
    simp only [PyData.depth]
    omega
theorem eqv_same {d : PyData} (h : SeqAt.shaped d = true) : PyData.eqv d d = true := SeqAt.eqv_refl d (SeqAt.canLay_of_shaped h)
/-- a comprehension of which no test holds -/
theorem lc_none {J : It} {n : Nat} {G : Hp → Prop} {xs : List V} (w : Walk J n G (YAt xs)) {g : TG} {tt : TT} {te : TE} {vs : List Nat} {σ : St} {H1 : Hp} {D : Addr} {Qd : Hp → Prop} (hD : H1 D = none) (hG : ∀ H, Same H1 H → G H)
    (hs : ∀ x H, Same H1 H → x ∈ xs → ∀ (N : VK) (M : Hp → Prop), M H → g x (wipe σ vs) H fun σ2 H2 => wipe σ2 vs = wipe σ vs ∧ tt σ2 H2 fun b H3 => if b = true then te σ2 H3 N else M H3)
    (hd : ∀ H, Same H1 H → H D = some (.lst []) → Qd H) :
    ∃ W : Nat → Nat → Hp → Prop, (∃ m, W 0 m (upd H1 D (.lst []))) ∧ ∀ i m H, W i m H →
      (J.stop i H ∧ Qd H) ∨ (J.go i H ∧ ∃ Nx : Hp → Prop, (∀ H', Nx H' → ∃ m', m' < m ∧ W (i + 1) m' H') ∧ ∀ x H', J.yld i H x H' → g x (wipe σ vs) H' fun σ2 H2 => wipe σ2 vs = wipe σ vs ∧ tt σ2 H2 fun b H3 =>
        if b = true then te σ2 H3 fun y H4 => ∃ acc, H4 D = some (.lst acc) ∧ acc.length < sizeLine ∧ Nx (upd H4 D (.lst (acc ++ [y]))) else Nx H3) := by
  refine lc_it w (fun i H => Same H1 H ∧ H D = some (.lst [])) ⟨Same.fresh hD, upd_same⟩ (fun i H _ p => hG H p.1) ?_ fun H p => hd H p.1 p.2
  rintro i x H H' hi ⟨s, e⟩ ⟨rfl, hx⟩
  exact hs x H' s (List.mem_of_getElem? hx) _ _ ⟨s, e⟩
end Eld
end L2

set_option Elab.async false
set_option linter.all false
set_option maxRecDepth 100000
set_option maxHeartbeats 8000000
/-! ## equality of askers, of lines, of lists of them -/
namespace L2
namespace Eld
open PySem PySem.Spec PyProof.Rows PySem.EldX
/-- the very same object -/
def DSm : Eqv := fun x y _ => ∃ a : Addr, x = .ref a ∧ y = .ref a
theorem mon_id : Mon DSm := fun _ _ _ _ _ d => d
theorem eqG_id {X : Cx} : EqG X 0 DSm := by
  intro A pins s σ H x y u v sb I rx ry d
  obtain ⟨a, rfl, rfl⟩ := d
  cases rx
  cases ry
  exact SeqAt.EqAt.same (A := A) (s := s) (.ref a) X.prog X.w X.xe _ ⟨rfl, H, I, Ext.rfl'⟩
theorem prs_same {H : Hp} : ∀ as : List Addr, Prs DSm (as.map V.ref) (as.map V.ref) H
  | [] => .nil
  | a :: as => .cons ⟨a, rfl, rfl⟩ (prs_same as)
theorem rev_same {cs : List Ask} (h : (cs.map Ask.nm).Nodup) : decide (cs.reverse = cs) = decide (cs.length < 2) := by
  refine decide_eq_decide.mpr ⟨fun e => ?_, fun l => ?_⟩
  · rcases Nat.lt_or_ge cs.length 2 with l | l
    · exact l
    · exfalso
      have h0 : 0 < cs.length := by omega
      have h1 : cs.length - 1 < cs.length := by omega
      have z : cs.reverse[0]'(by rw [List.length_reverse]; exact h0) = cs[cs.length - 1] := by
        rw [List.getElem_reverse]
        congr 1
      have z2 : cs.reverse[0]'(by rw [List.length_reverse]; exact h0) = cs[0] := by
        congr 1
      have z3 : cs[0].nm = cs[cs.length - 1].nm := by rw [← z2, z]
      have p := List.pairwise_iff_getElem.mp h 0 (cs.length - 1) (by rw [List.length_map]; exact h0) (by rw [List.length_map]; exact h1) (by omega)
      simp only [List.getElem_map] at p
      exact p z3
  · match cs, l with
    | [], _ => rfl
    | [c], _ => rfl
theorem shows_int {i : Int} (h0 : 0 ≤ i) (h : i < 10 ^ 30) : Shows (.int i) :=
  shows_of (by simp only [PyData.showable, decide_eq_true_eq]; exact int_bits h0 h) (int_short h0 h) (by simp only [PyData.bulk]; omega) (by simp only [PyData.depth]; omega)
theorem walk_refs {K : PySem.W.Frag} {a : Addr} {xs : List Addr} : Walk (Itl K a) xs.length (fun H => SqL K H a (xs.map V.ref)) (YAt (xs.map V.ref)) := by
  have := walk_list (K := K) (a := a) (xs := xs.map V.ref)
  rw [List.length_map] at this
  exact this
/-- what is neither an asker nor a line -/
structure Oth (K : PySem.W.Frag) (CA CL : Addr) : Prop where
  a : ∀ T ∈ (["tuple", "str", "NoneType", "list"] : List String), PySem.W.kitOne K (.type T) (.ref CA) = some false ∧ PySem.W.notFirst K CA (.type T) = true
  l : ∀ T ∈ (["tuple", "str", "NoneType", "list"] : List String), PySem.W.kitOne K (.type T) (.ref CL) = some false ∧ PySem.W.notFirst K CL (.type T) = true
  al : PySem.W.kitOne K (.ref CA) (.ref CL) = some false ∧ PySem.W.notFirst K CL (.ref CA) = true
section
variable {P : Program} {w : World} {K : PySem.W.Frag} {mg : Str → Option Value} {base : Heap} {fM fD fO fS fW : Addr} {dM dD dO dS dW : FuncData} {CA fI pN gN pF gF pM gM fE CL fLI fLE fLL fLA fLN fLK fLR fLP : Addr}
theorem din_ask {H : Hp} {a c : Addr} {k k' : Ask} {b : Bool} (TA : ACls K CA fI pN gN pF gF pM gM fE) (A : AskAt CA H a k) (A' : AskAt CA H c k') (hb : b = decide (k = k')) : DIn K CA (RA K CA) (.ref a) (.ref c) H b := by
  obtain ⟨dx, fs, hI⟩ := A.ins
  obtain ⟨dx', fs', hI'⟩ := A'.ins
  exact ⟨a, dx, fs, .ref CA, rfl, hI, tyx_ask TA.ins hI', by simp [PySem.W.notFirst], k, A, .inl ⟨c, k', rfl, A', hb⟩⟩
theorem din_oth {H : Hp} {a : Addr} {k : Ask} {y : V} {t : Value} (A : AskAt CA H a k) (ty : TyX K H y t) (h : PySem.W.kitOne K t (.ref CA) = some false ∧ PySem.W.notFirst K CA t = true) : DIn K CA (RA K CA) (.ref a) y H false := by
  obtain ⟨dx, fs, hI⟩ := A.ins
  exact ⟨a, dx, fs, t, rfl, hI, ty, h.2, k, A, .inr ⟨t, ty, h.1, rfl⟩⟩
theorem dil_line {H : Hp} {a c : Addr} {as as' : List Addr} {ks ks' : List Ask} {b : Bool} (T : LCls K CL fLI fLE fLL fLA fLN fLK fLR fLP) (A : LineAt CL CA H a as ks) (A' : LineAt CL CA H c as' ks') (hb : b = decide (ks = ks')) : DIn K CL (RL K CL CA) (.ref a) (.ref c) H b := by
  obtain ⟨dx, fs, hI⟩ := A.ins
  obtain ⟨dx', fs', hI'⟩ := A'.ins
  exact ⟨a, dx, fs, .ref CL, rfl, hI, tyx_ask T.ins hI', by simp [PySem.W.notFirst], as, ks, A, .inl ⟨c, as', ks', rfl, A', hb⟩⟩
theorem dil_oth {H : Hp} {a : Addr} {as : List Addr} {ks : List Ask} {y : V} {t : Value} (A : LineAt CL CA H a as ks) (ty : TyX K H y t) (h : PySem.W.kitOne K t (.ref CL) = some false ∧ PySem.W.notFirst K CL t = true) : DIn K CL (RL K CL CA) (.ref a) y H false := by
  obtain ⟨dx, fs, hI⟩ := A.ins
  exact ⟨a, dx, fs, t, rfl, hI, ty, h.2, as, ks, A, .inr ⟨t, ty, h.1, rfl⟩⟩
end
/-- != of two lists of the very same objects -/
def rNeId (K : PySem.W.Frag) : R2 := fun x y H Q => ∃ (a b : Addr) (xs : List Addr), x = .ref a ∧ y = .ref b ∧ SqL K H a (xs.map V.ref) ∧ SqL K H b (xs.map V.ref) ∧ Q (.bl false) H
theorem op_neId {X : Cx} (hu : X.A.units < cLine) : OpR X (compareOp .NotEq) (rNeId X.K) := by
  intro pins s σ H x y u v Q I rx ry hq
  obtain ⟨a, b, xs, rfl, rfl, ha, hb, q⟩ := hq
  cases rx
  cases ry
  obtain ⟨its, r1, l1, _⟩ := I.list ha
  obtain ⟨its2, r2, l2, _⟩ := I.list hb
  have e : its = its2 := by
    have key : ∀ (ys : List Addr) (us vs : List Value), Vals (ys.map V.ref) us → Vals (ys.map V.ref) vs → us = vs := by
      intro ys
      induction ys with
      | nil =>
        intro us vs h1 h2
        cases h1
        cases h2
        rfl
      | cons y ys ih =>
        intro us vs h1 h2
        cases h1 with
        | cons p q =>
          cases h2 with
          | cons p' q' =>
            rw [ih _ _ q q', show _ = _ from p, show _ = _ from p']
    exact key xs its its2 r1 r2
  subst e
  have q2 := SeqAt.RcNeAt.lists (A := X.A) (e := fun _ => true) l1.isList l2.isList rfl hu fun j h1 h2 => by
    have hj : j < its.length := by simpa using h1
    have hx : j < xs.length := by
      have := r1.length
      rw [List.length_map] at this
      omega
    obtain ⟨w, hw, rw'⟩ := r1.get (x := .ref xs[j]) (i := j) (by rw [List.getElem?_map, List.getElem?_eq_getElem hx] <;> rfl)
    have e2 : its.toArray[j] = w := by
      have := List.getElem?_eq_getElem hj
      rw [hw] at this
      simpa using (Option.some.inj this).symm
    obtain rfl : w = Value.ref xs[j] := rw'
    show SeqAt.EqAt _ _ its.toArray[j] its.toArray[j] true
    rw [e2]
    exact SeqAt.EqAt.same _
  have ea : (!(List.range its.toArray.size).all fun _ => true) = false := by simp
  rw [ea] at q2
  exact q2 X.prog X.w X.xe _ ⟨.bl false, H, I, rfl, q⟩
/-- a slice of a tuple: some tuple of these -/
def rSlQ (K : PySem.W.Frag) : V → Option Int → Option Int → Hp → VK → Prop := fun x lo hi H Q => ∃ (a : Addr) (xs : List V), x = .ref a ∧ SqT K H a xs ∧ ∀ (p : Addr) (H' : Hp), Same H H' → SqT K H' p (cutV xs lo hi) → Q (.ref p) H'
theorem sl_tupQ {X : Cx} : SlR X (rSlQ X.K) := by
  intro pins s σ H x v vl vu lo hi sl Q I rx hs pl pu hq
  obtain ⟨a, xs, rfl, ha, q⟩ := hq
  refine sl_tupA pins s σ H (.ref a) v vl vu lo hi sl Q I rx hs pl pu ⟨a, xs, rfl, ha, fun full => ?_, fun _ p np => q p _ (Same.fresh np) (SqT.of upd_same)⟩
  refine q a H (Same.refl _) ?_
  have e : cutV xs lo hi = xs := by
    unfold cutV
    rw [full.1, full.2]
    simp
  rw [e]
  exact ha
end Eld
end L2

set_option Elab.async false
set_option linter.all false
set_option maxRecDepth 100000
set_option maxHeartbeats 4000000
/-! ## what is shown; bounds -/
namespace L2
namespace Eld
open PySem PySem.Spec PyProof.Rows PySem.EldX
theorem int_short31 {m : Int} (h0 : 0 ≤ m) (h : m < 10 ^ 31) : (PyData.int m).leavesShort 40 = true := by
  simp only [PyData.leavesShort, PyData.shown]
  have := PyProof.Rows.toString_length_le h0 (k := 31) (by decide) (by exact_mod_cast h)
  exact decide_eq_true (Nat.le_trans this (show 31 ≤ 40 by decide))
theorem int_bits31 {m : Int} (h0 : 0 ≤ m) (h : m < 10 ^ 31) : m.natAbs.log2 < 1920 := by
  refine PySem.Flt.log2_lt_of (by decide) ?_
  have : m.natAbs < 10 ^ 31 := by omega
  exact Nat.lt_trans this (by decide +kernel)
theorem shows_int31 {m : Int} (h0 : 0 ≤ m) (h : m < 10 ^ 31) : Shows (.int m) := by
  refine shows_of ?_ (int_short31 h0 h) ?_ ?_
  · simp only [PyData.showable]
    exact decide_eq_true (int_bits31 h0 h)
  · simp only [PyData.bulk]; omega
  · simp only [PyData.depth]; omega
/-! ### a deal as data -/
def dealD (x : Str × Int) : PyData := .tuple [.str x.1, .int x.2]
structure DOk (x : Str × Int) : Prop where
  nm : IsWord x.1
  lo : 0 ≤ x.2
  hi : x.2 < 10 ^ 31
theorem deals_show : ∀ {ds : List (Str × Int)}, (∀ x ∈ ds, DOk x) → PyData.showableAll (ds.map dealD) = true
  | [], _ => by simp only [List.map_nil, PyData.showableAll]
  | d :: ds, h => by
    have ih := deals_show fun z hz => h z (List.mem_cons_of_mem _ hz)
    have hd := h d List.mem_cons_self
    simp only [List.map_cons, PyData.showableAll, dealD, PyData.showable, Bool.true_and, Bool.and_true] at ih ⊢
    rw [decide_eq_true (int_bits31 hd.lo hd.hi), ih] <;> rfl
theorem deals_short : ∀ {ds : List (Str × Int)}, (∀ x ∈ ds, DOk x) → PyData.leavesShortAll 40 (ds.map dealD) = true
  | [], _ => by simp only [List.map_nil, PyData.leavesShortAll]
  | d :: ds, h => by
    have ih := deals_short fun z hz => h z (List.mem_cons_of_mem _ hz)
    have hd := h d List.mem_cons_self
    have b1 := word_short hd.nm
    have b2 := int_short31 hd.lo hd.hi
    simp only [List.map_cons, PyData.leavesShortAll, dealD, PyData.leavesShort] at ih b1 b2 ⊢
    rw [b1, b2, ih] <;> rfl
theorem deals_bulk : ∀ {ds : List (Str × Int)}, (∀ x ∈ ds, DOk x) → PyData.bulkAll (ds.map dealD) ≤ 40 * ds.length
  | [], _ => by simp only [List.map_nil, PyData.bulkAll, List.length_nil]; omega
  | d :: ds, h => by
    have ih := deals_bulk fun z hz => h z (List.mem_cons_of_mem _ hz)
    have b1 : d.1.cps.size ≤ 10 := (h d List.mem_cons_self).nm.2.1
    simp only [List.map_cons, PyData.bulkAll, dealD, PyData.bulk, List.length_cons] at ih ⊢
    omega
theorem deals_depth : ∀ ds : List (Str × Int), PyData.depthAll (ds.map dealD) ≤ 3
  | [] => by simp only [List.map_nil, PyData.depthAll]; omega
  | d :: ds => by
    have ih := deals_depth ds
    simp only [List.map_cons, PyData.depthAll, dealD, PyData.depth] at ih ⊢
    omega
theorem deals_lay : ∀ {ds : List (Str × Int)}, (∀ x ∈ ds, DOk x) → PyData.canLayAll0 (ds.map dealD) = true
  | [], _ => by simp only [List.map_nil, PyData.canLayAll0]
  | d :: ds, h => by
    have ih := deals_lay fun z hz => h z (List.mem_cons_of_mem _ hz)
    have b1 := strOkW (h d List.mem_cons_self).nm
    simp only [List.map_cons, PyData.canLayAll0, dealD, PyData.canLay0] at ih ⊢
    rw [b1, ih] <;> rfl
theorem shows_deal {ds : List (Str × Int)} (h : ∀ x ∈ ds, DOk x) (l : ds.length ≤ 60) : Shows (.list (ds.map dealD)) := by
  refine shows_of ?_ ?_ ?_ ?_
  · simp only [PyData.showable]
    exact deals_show h
  · simp only [PyData.leavesShort]
    exact deals_short h
  · have := deals_bulk h
    simp only [PyData.bulk]
    omega
  · have := deals_depth ds
    simp only [PyData.depth]
    omega
theorem shaped_deal {ds : List (Str × Int)} (h : ∀ x ∈ ds, DOk x) : SeqAt.shaped (.list (ds.map dealD)) = true := by
  unfold SeqAt.shaped
  have h1 : (PyData.list (ds.map dealD)).canLay0 = true := by simp only [PyData.canLay0]; exact deals_lay h
  have h2 : (PyData.list (ds.map dealD)).depth ≤ 64 := by
    have := deals_depth ds
    simp only [PyData.depth]
    omega
  rw [h1, decide_eq_true h2]
  rfl
section
variable {K : PySem.W.Frag} {H : Hp}
theorem dq_dealAll : ∀ {ts : List Addr} {ds : List (Str × Int)}, Paired (fun (t : Addr) (x : Str × Int) => H t = some (.tup [.str x.1, .int x.2])) ts ds → DqAll K H (ts.map V.ref) (ds.map dealD)
  | _, _, .nil => .nil
  | _, _, .cons h t => .cons (.tup (SqT.of h) (.cons (.str _) (.cons (.int _) .nil))) (dq_dealAll t)
theorem dp_dealAll : ∀ {ts : List Addr} {ds : List (Str × Int)}, Paired (fun (t : Addr) (x : Str × Int) => H t = some (.tup [.str x.1, .int x.2])) ts ds → DpAll K H (ts.map V.ref) (ds.map dealD)
  | _, _, .nil => .nil
  | _, _, .cons h t => .cons (.tup (SqT.of h) (.cons (.str _) (.cons (.int _) .nil))) (dp_dealAll t)
theorem dq_deal {p : Addr} {ts : List Addr} {ds : List (Str × Int)} (h : DealAt H p ts ds) : Dq K H (.ref p) (.list (ds.map dealD)) := .lst (SqL.of h.at_) (dq_dealAll h.rows)
theorem dp_deal {p : Addr} {ts : List Addr} {ds : List (Str × Int)} (h : DealAt H p ts ds) : Dp K H (.ref p) (.list (ds.map dealD)) := .lst (SqL.of h.at_) (dp_dealAll h.rows)
end
/-! ### a stock as data -/
def kvD (p : Key × V) : PyData × PyData := match p with
  | (.inr x, .int n) => (.str x, .int n)
  | _ => (.none, .none)
theorem kvs_show : ∀ {kvs : List (Key × V)}, (∀ p ∈ kvs, ∃ (x : Str) (n : Int), p = (.inr x, .int n) ∧ IsWord x ∧ 0 ≤ n ∧ n < 10 ^ 31) → PyData.showableKv (kvs.map kvD) = true ∧ PyData.leavesShortKv 40 (kvs.map kvD) = true ∧ PyData.bulkKv (kvs.map kvD) ≤ 60 * kvs.length ∧ PyData.depthKv (kvs.map kvD) ≤ 3
  | [], _ => by
    refine ⟨?_, ?_, ?_, ?_⟩
    · simp only [List.map_nil, PyData.showableKv]
    · simp only [List.map_nil, PyData.leavesShortKv]
    · simp only [List.map_nil, PyData.bulkKv, List.length_nil]; omega
    · simp only [List.map_nil, PyData.depthKv]; omega
  | p :: kvs, h => by
    obtain ⟨i1, i2, i3, i4⟩ := kvs_show fun z hz => h z (List.mem_cons_of_mem _ hz)
    obtain ⟨x, n, rfl, hw, h0, h1⟩ := h p List.mem_cons_self
    have b1 := word_short hw
    have b2 := int_short31 h0 h1
    have b3 : x.cps.size ≤ 10 := hw.2.1
    refine ⟨?_, ?_, ?_, ?_⟩
    · simp only [List.map_cons, PyData.showableKv, kvD, PyData.showable, Bool.true_and] at i1 ⊢
      rw [decide_eq_true (int_bits31 h0 h1), i1] <;> rfl
    · simp only [List.map_cons, PyData.leavesShortKv, kvD] at i2 ⊢
      rw [b1, b2, i2] <;> rfl
    · simp only [List.map_cons, PyData.bulkKv, kvD, PyData.bulk, List.length_cons] at i3 ⊢
      omega
    · simp only [List.map_cons, PyData.depthKv, kvD, PyData.depth] at i4 ⊢
      omega
theorem shows_kvs {kvs : List (Key × V)} (h : KvsOk kvs) (l : kvs.length ≤ 40) : Shows (.dict (kvs.map kvD)) := by
  obtain ⟨h1, h2, h3, h4⟩ := kvs_show h.ok
  refine shows_of ?_ ?_ ?_ ?_
  · simp only [PyData.showable]; exact h1
  · simp only [PyData.leavesShort]; exact h2
  · simp only [PyData.bulk]; omega
  · simp only [PyData.depth]; omega
theorem dq_kvsAll {K : PySem.W.Frag} {H : Hp} : ∀ {kvs : List (Key × V)}, (∀ p ∈ kvs, ∃ (x : Str) (n : Int), p = (.inr x, .int n) ∧ IsWord x ∧ 0 ≤ n ∧ n < 10 ^ 31) → DqKv K H kvs (kvs.map kvD)
  | [], _ => .nil
  | p :: kvs, h => by
    have ih := dq_kvsAll (K := K) (H := H) fun z hz => h z (List.mem_cons_of_mem _ hz)
    obtain ⟨x, n, rfl, hw, h0, h1⟩ := h p List.mem_cons_self
    exact .cons (.int n) ih
theorem dq_kvs {K : PySem.W.Frag} {H : Hp} {d : Addr} {kvs : List (Key × V)} (e : H d = some (.dK kvs)) (h : KvsOk kvs) : Dq K H (.ref d) (.dict (kvs.map kvD)) := .dct e (dq_kvsAll h.ok)
/-! ### bounds -/
theorem least_mono {ts : List Tk} {t : Tk} {st : Str → Int} {v v' : Int} (h0 : ∀ k, 0 ≤ st k) (hm : 0 ≤ t.most) (h : Least ts st v) (h' : Least (ts ++ [t]) st v') : v ≤ v' := by
  obtain ⟨⟨L, rfl⟩, _⟩ := h'
  refine Int.le_trans (h.2 L) ?_
  unfold cost
  rw [sm_app]
  have e1 : 0 ≤ sm [t] (fun t => if L t.nm = true then 0 else t.most) := by
    show 0 ≤ (if L t.nm = true then 0 else t.most) + 0
    split <;> omega
  have e2 : sm (hits ts L) st ≤ sm (hits (ts ++ [t]) L) st := by
    have : sm (hits ts L) st = sm ((hits (ts ++ [t]) L).filter fun k => decide (k ∈ hits ts L)) st := sm_same (nodup_hits _ _) ((nodup_hits _ _).filter _) (fun k => by
      rw [List.mem_filter, decide_eq_true_iff]
      refine ⟨fun hk => ⟨?_, hk⟩, fun hk => hk.2⟩
      obtain ⟨u, hu, a, b⟩ := mem_hits.mp hk
      exact mem_hits.mpr ⟨u, List.mem_append_left _ hu, a, b⟩) st
    rw [this, sm_filter]
    refine sm_le fun k _ => ?_
    have := h0 k
    split <;> omega
  omega
theorem least_lo {ts : List Tk} {st : Str → Int} {v : Int} (h0 : ∀ k, 0 ≤ st k) (hm : ∀ t ∈ ts, 0 ≤ t.most) (h : Least ts st v) : 0 ≤ v := by
  obtain ⟨⟨L, rfl⟩, _⟩ := h
  unfold cost
  have e1 : 0 ≤ sm ts (fun t => if L t.nm = true then 0 else t.most) := sm_nn fun t ht => by
    have := hm t ht
    split <;> omega
  have e2 : 0 ≤ sm (hits ts L) st := sm_nn fun k _ => h0 k
  omega
theorem least_hi {ts : List Tk} {st : Str → Int} {v : Int} (hm : ∀ t ∈ ts, t.most < 10 ^ 30) (l : ts.length ≤ 9) (h : Least ts st v) : v < 10 ^ 31 := by
  have h1 := h.2 fun _ => false
  have e : cost ts st (fun _ => false) = sm ts (·.most) := by
    unfold cost
    have : hits ts (fun _ => false) = [] := List.eq_nil_iff_forall_not_mem.mpr fun k hk => by
      obtain ⟨t, _, z, _⟩ := mem_hits.mp hk
      cases z
    rw [this]
    show _ + 0 = _
    rw [Int.add_zero]
    exact sm_congr fun t _ => if_neg (show ¬ (false = true) from Bool.false_ne_true)
  rw [e] at h1
  have h2 : ∀ l : List Tk, (∀ t ∈ l, t.most < 10 ^ 30) → sm l (·.most) ≤ (l.length : Int) * 10 ^ 30 := by
    intro l
    induction l with
    | nil => intro _; show (0 : Int) ≤ 0 * _; omega
    | cons t l ih =>
      intro q
      have := ih fun u hu => q u (List.mem_cons_of_mem _ hu)
      have := q t List.mem_cons_self
      rw [sm, List.length_cons]
      omega
  have h3 := h2 ts hm
  have big : (10 : Int) ^ 31 = 10 * 10 ^ 30 := by decide +kernel
  rw [big]
  omega
/-! ### parts of a line -/
theorem perm_lift {α β : Type} {f : α → β} {l l' : List β} (p : l.Perm l') : ∀ z : List α, z.map f = l → ∃ z' : List α, z'.Perm z ∧ z'.map f = l' := by
  induction p with
  | nil =>
    intro z e
    exact ⟨z, .refl _, e⟩
  | cons x _ ih =>
    intro z e
    cases z with
    | nil => cases e
    | cons a z =>
      rw [List.map_cons] at e
      injection e with e1 e2
      obtain ⟨z', p', e'⟩ := ih z e2
      exact ⟨a :: z', .cons _ p', by rw [List.map_cons, e1, e']⟩
  | swap x y l =>
    intro z e
    cases z with
    | nil => cases e
    | cons a z =>
      cases z with
      | nil => cases e
      | cons b z =>
        rw [List.map_cons, List.map_cons] at e
        injection e with e1 e2
        injection e2 with e2 e3
        exact ⟨b :: a :: z, .swap _ _ _, by rw [List.map_cons, List.map_cons, e1, e2, e3]⟩
  | trans _ _ ih1 ih2 =>
    intro z e
    obtain ⟨z1, p1, e1⟩ := ih1 z e
    obtain ⟨z2, p2, e2⟩ := ih2 z1 e1
    exact ⟨z2, p2.trans p1, e2⟩

end Eld
end L2

set_option Elab.async false
set_option linter.all false
set_option maxRecDepth 100000
set_option maxHeartbeats 4000000
/-! ## deals as dicts; what the laws of deals share -/
namespace L2
namespace Eld
open PySem PySem.Spec PyProof.Rows PySem.EldX
theorem walk_dkeysH {d : Addr} {o : Obj} {kvs : List (Key × V)} {xs : List Str} (h : kvs.map Prod.fst = xs.map .inr) : Walk (Itk d o kvs) xs.length (fun H => H d = some (.frz o (.dK kvs))) (YAt (xs.map V.str)) := by
  have hl : kvs.length = xs.length := by
    have := congrArg List.length h
    simpa using this
  have w := walk_keys (d := d) (o := o) (kvs := kvs)
  rw [hl] at w
  refine ⟨w.goes, w.stops, fun i H x H' hi g y => ?_⟩
  obtain ⟨e, k, v, e1, rfl⟩ := w.yields i H x H' hi g y
  refine ⟨e, ?_⟩
  have e2 : (kvs.map Prod.fst)[i]? = some k := by
    rw [List.getElem?_map, e1]
    rfl
  rw [h, List.getElem?_map] at e2
  rw [List.getElem?_map]
  cases c : xs[i]? with
  | none => rw [c] at e2; cases e2
  | some y =>
    rw [c] at e2
    obtain rfl : (Sum.inr y : Key) = k := Option.some.inj e2
    rfl
/-- a deal as a dict -/
def dkv (ds : List (Str × Int)) : List (Key × V) := ds.map fun x => (.inr x.1, .int x.2)
def cntD (ds : List (Str × Int)) (n : Str) : Option Int := (ds.find? fun x => decide (x.1 = n)).map (·.2)
theorem dkv_fst (ds : List (Str × Int)) : (dkv ds).map Prod.fst = (ds.map (·.1)).map .inr := by
  unfold dkv
  rw [List.map_map, List.map_map]
  rfl
theorem valV_dkv (n : Str) : ∀ ds : List (Str × Int), valV (dkv ds) (.inr n) = (cntD ds n).map V.int
  | [] => rfl
  | x :: ds => by
    have ih := valV_dkv n ds
    unfold valV cntD dkv at ih ⊢
    rw [List.map_cons, List.find?_cons, List.find?_cons]
    by_cases e : x.1 = n
    · rw [decide_eq_true (show (Sum.inr x.1 : Key) = .inr n by rw [e]), decide_eq_true e]
      rfl
    · rw [decide_eq_false (fun z : (Sum.inr x.1 : Key) = .inr n => e (Sum.inr.inj z)), decide_eq_false e]
      exact ih
theorem cntD_none {n : Str} {ds : List (Str × Int)} : cntD ds n = none ↔ n ∉ ds.map (·.1) := by
  unfold cntD
  rw [Option.map_eq_none_iff, List.find?_eq_none]
  constructor
  · intro h z
    obtain ⟨x, hx, e⟩ := List.mem_map.mp z
    exact h x hx (decide_eq_true e)
  · intro h x hx z
    exact h (List.mem_map.mpr ⟨x, hx, of_decide_eq_true z⟩)
theorem cntD_mem {n : Str} {c : Int} {ds : List (Str × Int)} (h : cntD ds n = some c) : (n, c) ∈ ds := by
  unfold cntD at h
  obtain ⟨x, hx, e⟩ := Option.map_eq_some_iff.mp h
  have h1 := List.mem_of_find?_eq_some hx
  have h2 := List.find?_some (p := fun x : Str × Int => decide (x.1 = n)) hx
  have h2 : x.1 = n := of_decide_eq_true h2
  subst e
  subst h2
  exact h1
theorem cntD_of {x : Str × Int} : ∀ {ds : List (Str × Int)}, (ds.map (·.1)).Nodup → x ∈ ds → cntD ds x.1 = some x.2
  | [], _, h => nomatch h
  | y :: ds, nd, h => by
    rw [List.map_cons, List.nodup_cons] at nd
    rcases List.mem_cons.mp h with rfl | h
    · unfold cntD
      rw [List.find?_cons, decide_eq_true rfl]
      rfl
    · have ne : y.1 ≠ x.1 := fun e => nd.1 (List.mem_map.mpr ⟨x, h, e.symm⟩)
      have ih := cntD_of nd.2 h
      unfold cntD at ih ⊢
      rw [List.find?_cons, decide_eq_false ne]
      exact ih
theorem mergeK_dkv : ∀ (ds : List (Str × Int)) (acc : List (Key × V)), (ds.map (·.1)).Nodup → (∀ x ∈ ds, (.inr x.1 : Key) ∉ acc.map Prod.fst) → mergeK acc (dkv ds) = acc ++ dkv ds
  | [], acc, _, _ => by
    show acc = acc ++ []
    rw [List.append_nil]
  | x :: ds, acc, nd, h => by
    rw [List.map_cons, List.nodup_cons] at nd
    show mergeK (putK acc (.inr x.1) (.int x.2)) (dkv ds) = _
    rw [putK_new' (h x List.mem_cons_self), mergeK_dkv ds _ nd.2 fun y hy z => ?_, List.append_assoc]
    · rfl
    · rw [List.map_append] at z
      rcases List.mem_append.mp z with z | z
      · exact h y (List.mem_cons_of_mem _ hy) z
      · have e := List.mem_singleton.mp z
        exact nd.1 (List.mem_map.mpr ⟨y, hy, Sum.inr.inj e⟩)
theorem paired_mapR {α β γ : Type} {R : α → γ → Prop} {f : β → γ} {l : List α} {m : List β} (h : Paired (fun a b => R a (f b)) l m) : Paired R l (m.map f) := by
  induction h with
  | nil => exact .nil
  | cons h _ ih => exact .cons h ih
theorem lock_same {H F G : Hp} {d : Addr} {u : HO} {od : Obj} (e : H d = some u) (hF : F = upd H d (.frz od u)) (s : Same F G) : Same H (upd G d u) := fun b o h => by
  by_cases z : b = d
  · rw [z, upd_same]
    rw [z, e] at h
    exact h
  · rw [upd_ne z]
    refine s b o ?_
    rw [hF, upd_ne z]
    exact h
theorem iteD {p : Prop} [Decidable p] {A B : Prop} (h1 : p → A) (h2 : ¬ p → B) : if decide p = true then A else B := by
  by_cases z : p
  · rw [if_pos (decide_eq_true z)]
    exact h1 z
  · rw [if_neg fun q => z (of_decide_eq_true q)]
    exact h2 z
theorem decide_strV {a b : Str} : decide (V.str a = V.str b) = decide (a = b) := by
  by_cases z : a = b
  · rw [decide_eq_true z, decide_eq_true (by rw [z])]
  · rw [decide_eq_false z, decide_eq_false fun q => z (by cases q; rfl)]
theorem not_selfV {x : V} : (!decide (x = x)) = false := by simp
theorem eqv_nilL (ds : List PyData) : PyData.eqv (.list ds) (.list []) = ds.isEmpty := by
  cases ds <;> simp [PyData.eqv, PyData.eqvAll]
theorem cut_lastW (xs : List V) (v : V) : cutV (xs ++ [v]) none (some (-1)) = xs := by
  unfold cutV
  rw [HT.sIx_none]
  have e1 : HT.sIx (xs ++ [v]).length (xs ++ [v]).length (some (-1)) = xs.length := by
    unfold HT.sIx
    simp
    omega
  rw [e1]
  simp
theorem LineAt.kp {CL CA p : Addr} {H H' : Hp} {a : Addr} {as : List Addr} {ks : List Ask} {n : Nat} (h : LineAt CL CA H a as ks) (k : Kp p H H') (hp : PurseAt H p n) : LineAt CL CA H' a as ks := by
  obtain ⟨dx, t, h1, h2, h3⟩ := h
  have h3' := k.asks hp h3
  obtain ⟨_, _, _, _, e, _⟩ := hp
  refine ⟨dx, t, k a _ (fun z => ?_) h1, k t _ (fun z => ?_) h2, h3'⟩
  · rw [z, e] at h1
    cases h1
  · rw [z, e] at h2
    cases h2
theorem dk_kp {p d : Addr} {H H' : Hp} {kvs : List (Key × V)} {n : Nat} (e : H d = some (.dK kvs)) (k : Kp p H H') (hp : PurseAt H p n) : H' d = some (.dK kvs) := by
  obtain ⟨_, _, _, _, e2, _⟩ := hp
  refine k d _ (fun z => ?_) e
  rw [z, e2] at e
  cases e
theorem paired_zip {α β : Type} {R : α → β → Prop} {l : List α} {m : List β} (h : Paired R l m) : (l.zip m).map (·.1) = l ∧ (l.zip m).map (·.2) = m ∧ ∀ x ∈ l.zip m, R x.1 x.2 := by
  induction h with
  | nil => exact ⟨rfl, rfl, fun x hx => nomatch hx⟩
  | cons h _ ih =>
    obtain ⟨a, b, c⟩ := ih
    refine ⟨by rw [List.zip_cons_cons, List.map_cons, a], by rw [List.zip_cons_cons, List.map_cons, b], fun x hx => ?_⟩
    rw [List.zip_cons_cons] at hx
    rcases List.mem_cons.mp hx with rfl | hx
    · exact h
    · exact c x hx
theorem paired_snoc_inv {α β : Type} {R : α → β → Prop} {b : β} : ∀ {m : List β} {l : List α}, Paired R l (m ++ [b]) → ∃ l0 a, l = l0 ++ [a] ∧ Paired R l0 m ∧ R a b
  | [], _, h => by
    cases h with
    | cons h t =>
      cases t
      exact ⟨[], _, rfl, .nil, h⟩
  | c :: m, _, h => by
    rw [List.cons_append] at h
    cases h with
    | @cons a _ l _ h t =>
      obtain ⟨l0, x, e, h1, h2⟩ := paired_snoc_inv t
      exact ⟨a :: l0, x, by rw [e]; rfl, .cons h h1, h2⟩
theorem DealAt.kp {p : Addr} {H H' : Hp} {n : Nat} {tp : Addr} {ts : List Addr} {ds : List (Str × Int)} (h : DealAt H tp ts ds) (ne : tp ≠ p) (k : Kp p H H') (hp : PurseAt H p n) : DealAt H' tp ts ds := by
  obtain ⟨_, _, _, _, e2, _⟩ := hp
  refine ⟨k _ _ ne h.at_, paired_mono h.rows fun t x e => k _ _ (fun z => ?_) e⟩
  rw [z, e2] at e
  cases e
theorem stN_more {kvs : List (Key × V)} {w : Str} : stN (kvs ++ [(.inr w, .int 0)]) = stN kvs := by
  funext k
  unfold stN valV
  rw [List.find?_append]
  cases e : kvs.find? fun kv => decide (kv.1 = .inr k) with
  | some p => rfl
  | none =>
    by_cases z : w = k
    · simp [z]
    · simp [z]
theorem valV_keys {kvs : List (Key × V)} {U : List Str} (e : kvs.map Prod.fst = U.map .inr) (x : Str) : (valV kvs (.inr x)).isSome = decide (x ∈ U) := by
  unfold valV
  rw [Option.isSome_map, Bool.eq_iff_iff, decide_eq_true_iff, List.find?_isSome]
  constructor
  · rintro ⟨kv, hkv, h⟩
    have h1 := of_decide_eq_true h
    have h2 : kv.1 ∈ kvs.map Prod.fst := List.mem_map.mpr ⟨kv, hkv, rfl⟩
    rw [h1, e] at h2
    obtain ⟨y, hy, ey⟩ := List.mem_map.mp h2
    cases ey
    exact hy
  · intro hx
    have h2 : (.inr x : Key) ∈ kvs.map Prod.fst := by
      rw [e]
      exact List.mem_map.mpr ⟨x, hx, rfl⟩
    obtain ⟨kv, hkv, h⟩ := List.mem_map.mp h2
    exact ⟨kv, hkv, decide_eq_true h⟩
def spLaw (K : PySem.W.Frag) : Sp := fun vs H Q _ => ∃ (a : Addr) (ns : List Int), vs = [.ref a] ∧ SqL K H a (ns.map V.int) ∧ ns.length ≤ 63 ∧ ∀ H' : Hp, Q (.bl true) H'
theorem purse_kp {p q : Addr} {H H' : Hp} {n : Nat} (h : PurseAt H q n) (k : Kp p H H') (ne : q ≠ p) : PurseAt H' q n := by
  obtain ⟨o, e⟩ := h.some
  exact h.of_eq ((k q o ne e).trans e.symm)
/-! ### where the purse and a stock change -/
def PS (p sp : Addr) (b : Addr) : Prop := b = p ∨ b = sp
theorem off_ps {p sp : Addr} {H : Hp} {n : Nat} {kvs : List (Key × V)} (hp : PurseAt H p n) (e : H sp = some (.dK kvs)) : ∀ b, PS p sp b → (∃ xs, H b = some (.lst xs)) ∨ ∃ kvs, H b = some (.dK kvs) := fun b h => by
  rcases h with rfl | rfl
  · exact .inl (purse_lst hp)
  · exact .inr ⟨_, e⟩
theorem kept_ins {S : Addr → Prop} {H H' : Hp} (k : Kept S H H') (o : ∀ b, S b → (∃ xs, H b = some (.lst xs)) ∨ ∃ kvs, H b = some (.dK kvs)) {a : Addr} {u : HO} (e : H a = some u) (n1 : ∀ xs, u ≠ .lst xs) (n2 : ∀ kvs, u ≠ .dK kvs) : H' a = some u := by
  refine k a u (fun z => ?_) e
  rcases o a z with ⟨xs, h⟩ | ⟨kvs, h⟩
  · rw [e] at h
    exact n1 _ (Option.some.inj h)
  · rw [e] at h
    exact n2 _ (Option.some.inj h)
theorem AskAt.ps {C : Addr} {S : Addr → Prop} {H H' : Hp} (k : Kept S H H') (o : ∀ b, S b → (∃ xs, H b = some (.lst xs)) ∨ ∃ kvs, H b = some (.dK kvs)) {a : Addr} {q : Ask} (h : AskAt C H a q) : AskAt C H' a q := by
  obtain ⟨dx, t, h1, h2⟩ := h
  exact ⟨dx, t, kept_ins k o h1 (fun _ h => by cases h) (fun _ h => by cases h), kept_ins k o h2 (fun _ h => by cases h) (fun _ h => by cases h)⟩
theorem Asks.ps {C : Addr} {S : Addr → Prop} {H H' : Hp} (k : Kept S H H') (o : ∀ b, S b → (∃ xs, H b = some (.lst xs)) ∨ ∃ kvs, H b = some (.dK kvs)) : ∀ {as : List Addr} {ks : List Ask}, Asks C H as ks → Asks C H' as ks
  | _, _, .nil => .nil
  | _, _, .cons h t => .cons (h.ps k o) (Asks.ps k o t)
theorem LineAt.ps {CL CA : Addr} {S : Addr → Prop} {H H' : Hp} (k : Kept S H H') (o : ∀ b, S b → (∃ xs, H b = some (.lst xs)) ∨ ∃ kvs, H b = some (.dK kvs)) {a : Addr} {as : List Addr} {ks : List Ask} (h : LineAt CL CA H a as ks) : LineAt CL CA H' a as ks := by
  obtain ⟨dx, t, h1, h2, h3⟩ := h
  exact ⟨dx, t, kept_ins k o h1 (fun _ h => by cases h) (fun _ h => by cases h), kept_ins k o h2 (fun _ h => by cases h) (fun _ h => by cases h), h3.ps k o⟩
theorem lst_ps {p sp r : Addr} {H H' : Hp} {kvs : List (Key × V)} {xs : List V} (k : Kept (PS p sp) H H') (e : H sp = some (.dK kvs)) (ne : r ≠ p) (h : H r = some (.lst xs)) : H' r = some (.lst xs) := by
  refine k _ _ (fun z => ?_) h
  rcases z with z | z
  · exact ne z
  · rw [z, e] at h
    cases h
theorem Kept.drop {p sp : Addr} {H0 H H' : Hp} (k0 : Kp p H0 H) (k : Kept (PS p sp) H H') (n : H0 sp = none) : Kp p H0 H' := fun b o nb e => k b o (fun z => z.elim nb fun z => by
  rw [z, n] at e
  cases e) (k0 b o nb e)
theorem putK_fst {kvs : List (Key × V)} {k : Key} {v : V} (h : k ∈ kvs.map Prod.fst) : (putK kvs k v).map Prod.fst = kvs.map Prod.fst := by
  unfold putK
  have e : (kvs.any fun kv => decide (kv.1 = k)) = true := by
    obtain ⟨kv, hkv, rfl⟩ := List.mem_map.mp h
    exact List.any_eq_true.mpr ⟨kv, hkv, decide_eq_true rfl⟩
  rw [if_pos e, List.map_map]
  refine List.map_congr_left fun kv _ => ?_
  show (if kv.1 = k then (kv.1, v) else kv).1 = kv.1
  split <;> rfl
theorem KvsB.put {b b' : Int} {kvs : List (Key × V)} {x : Str} {m : Int} (h : KvsB b kvs) (l : b ≤ b') (hx : (.inr x : Key) ∈ kvs.map Prod.fst) (w : IsWord x) (m0 : 0 ≤ m) (m1 : m < b') : KvsB b' (putK kvs (.inr x) (.int m)) := by
  unfold putK
  have e : (kvs.any fun kv => decide (kv.1 = .inr x)) = true := by
    obtain ⟨kv, hkv, e⟩ := List.mem_map.mp hx
    exact List.any_eq_true.mpr ⟨kv, hkv, decide_eq_true e⟩
  rw [if_pos e]
  refine ⟨fun q hq => ?_⟩
  obtain ⟨kv, hkv, rfl⟩ := List.mem_map.mp hq
  by_cases c : kv.1 = .inr x
  · rw [if_pos c]
    exact ⟨x, m, by rw [c], w, m0, m1⟩
  · rw [if_neg c]
    exact (h.mono l).ok kv hkv
theorem paired_unzip {α β : Type} {R : α → β → Prop} : ∀ {z : List (α × β)}, (∀ x ∈ z, R x.1 x.2) → Paired R (z.map (·.1)) (z.map (·.2))
  | [], _ => .nil
  | x :: z, h => .cons (h x List.mem_cons_self) (paired_unzip fun y hy => h y (List.mem_cons_of_mem _ hy))

theorem cut_toS {xs : List Str} {i : Nat} (h : i ≤ xs.length) : cutV (xs.map V.str) none (some (i : Int)) = (xs.take i).map V.str := by
  rw [cutV_map, HT.sIx_none, HT.sIx_nat, Nat.min_eq_left h]
  simp
theorem stN_put {kvs : List (Key × V)} {z : Str} {m : Int} (k : Str) : stN (putK kvs (.inr z) (.int m)) k = if k = z then m else stN kvs k := by
  unfold stN
  rw [valV_put]
  by_cases e : k = z
  · rw [if_pos (show (Sum.inr k : Key) = .inr z by rw [e]), if_pos e]
  · rw [if_neg (fun q : (Sum.inr k : Key) = .inr z => e (Sum.inr.inj q)), if_neg e]
def gro (ds ds' : List (Str × Int)) : List Int := (ds.zip ds').map fun p => p.2.2 - p.1.2
theorem gro_sum : ∀ {ds ds' : List (Str × Int)}, ds.length = ds'.length → (gro ds ds').sum = sm ds' (·.2) - sm ds (·.2)
  | [], [], _ => rfl
  | a :: ds, b :: ds', h => by
    have ih := gro_sum (ds := ds) (ds' := ds') (by simpa using h)
    unfold gro at ih ⊢
    rw [List.zip_cons_cons, List.map_cons, List.sum_cons, ih, sm, sm]
    show b.2 - a.2 + _ = _
    omega
  | [], _ :: _, h => by cases h
  | _ :: _, [], h => by cases h
theorem grown_ok {ts : List Tk} {st st' : Str → Int} {ds ds' : List (Str × Int)} {z : Str} (d : IsDealT ts st ds) (d' : IsDealT ts st' ds') (nd : (ts.map (·.nm)).Nodup) (h0 : ∀ k, 0 ≤ st k) (h : ∀ k, st' k = st k + if k = z then 1 else 0) : (∀ x ∈ gro ds ds', 0 ≤ x) ∧ (gro ds ds').sum ≤ 1 ∧ (gro ds ds').length = ts.length := by
  have l1 : ds.length = ts.length := by
    have := congrArg List.length d.nm
    simpa using this
  have l2 : ds'.length = ts.length := by
    have := congrArg List.length d'.nm
    simpa using this
  refine ⟨fun x hx => ?_, ?_, by unfold gro; rw [List.length_map, List.length_zip]; omega⟩
  · obtain ⟨p, hp, rfl⟩ := List.mem_map.mp hx
    obtain ⟨j, hj⟩ := List.mem_iff_getElem?.mp hp
    rw [List.getElem?_zip_eq_some] at hj
    obtain ⟨x, v0, hx, _⟩ := deal_at d hj.1
    have := deal_ge d d' nd h0 (fun k => by have := h k; split at this <;> omega) hx hx (.refl _) (.refl _) hj.1 hj.2
    omega
  · rw [gro_sum (by omega)]
    have a := d.ls ts.length (Nat.le_refl _)
    have b := d'.ls ts.length (Nat.le_refl _)
    rw [List.take_of_length_le (Nat.le_refl _), List.take_of_length_le (by omega)] at a b
    have := least_plus h a b
    omega
theorem zeros_snoc (j : Nat) : (List.replicate j (0 : Int)).map V.int ++ [V.int 0] = (List.replicate (j + 1) (0 : Int)).map V.int := by
  rw [List.replicate_succ', List.map_append]
  rfl

end Eld
end L2

set_option Elab.async false
set_option linter.all false
set_option maxRecDepth 100000
set_option maxHeartbeats 4000000
/-! ## who can get what together -/
namespace L2
namespace Eld
open PySem PySem.Spec PyProof.Rows PySem.EldX
/-- what they ask for can all be had -/
def FitT (T : List Tk) (st : Str → Int) : Prop := ∀ L, sm T (·.most) ≤ cost T st L
theorem cost_none (T : List Tk) (st : Str → Int) : cost T st (fun _ => false) = sm T (·.most) := by
  unfold cost hits
  have e : (T.filter fun _ => false) = [] := List.filter_eq_nil_iff.mpr fun t _ => by simp
  show sm T (fun t => if false = true then 0 else t.most) + sm (uniq ((T.filter fun _ => false).flatMap (·.fits))) st = _
  rw [e]
  show _ + 0 = _
  rw [Int.add_zero]
  exact sm_congr fun t _ => rfl
theorem fit_least {T : List Tk} {st : Str → Int} {v : Int} (h : Least T st v) : FitT T st ↔ v = sm T (·.most) := by
  obtain ⟨⟨L, e⟩, a⟩ := h
  have h1 := a fun _ => false
  rw [cost_none] at h1
  refine ⟨fun f => ?_, fun q M => q ▸ a M⟩
  have := f L
  omega
theorem cost_sub {T : List Tk} (nd : (T.map (·.nm)).Nodup) {st : Str → Int} (h0 : ∀ k, 0 ≤ st k) (L1 L2 : Str → Bool) : cost T st (fun y => L1 y || L2 y) + cost T st (fun y => L1 y && L2 y) ≤ cost T st L1 + cost T st L2 := by
  have h1 := (Lesser.refl T).sums (L1 := L1) (L2 := L2) nd fun t ht hn => absurd (List.mem_map.mpr ⟨t, ht, rfl⟩) hn
  have h2 := sm_cross (nodup_hits T fun y => L1 y || L2 y) (nodup_hits T fun y => L1 y && L2 y) (nodup_hits T L1) (nodup_hits T L2) (fun k hk => by
    obtain ⟨t, ht, hL, hf⟩ := mem_hits.mp hk
    rcases Bool.or_eq_true _ _ ▸ hL with q | q
    · exact .inl (mem_hits.mpr ⟨t, ht, q, hf⟩)
    · exact .inr (mem_hits.mpr ⟨t, ht, q, hf⟩)) (fun k hk => by
    obtain ⟨t, ht, hL, hf⟩ := mem_hits.mp hk
    rw [Bool.and_eq_true] at hL
    exact ⟨mem_hits.mpr ⟨t, ht, hL.1, hf⟩, mem_hits.mpr ⟨t, ht, hL.2, hf⟩⟩) h0 (st' := st) fun k => Int.le_refl _
  unfold cost
  dsimp only
  omega
theorem cost_plus {T : List Tk} {st st' : Str → Int} {z : Str} (h : ∀ k, st' k = st k + if k = z then 1 else 0) (L : Str → Bool) : cost T st' L = cost T st L + if z ∈ hits T L then 1 else 0 := by
  unfold cost
  have e : sm (hits T L) st' = sm (hits T L) st + sm (hits T L) fun k => if k = z then 1 else 0 := by
    rw [← sm_add]
    exact sm_congr fun k _ => h k
  rw [e, sm_hot (nodup_hits T L)]
  omega
/-- one asks for one less -/
def less1 (x : Tk) : Tk := ⟨x.nm, x.fits, x.most - 1⟩
theorem hits_eq {T T' : List Tk} {L : Str → Bool} (h : ∀ k, (∃ t ∈ T, L t.nm = true ∧ k ∈ t.fits) ↔ ∃ t ∈ T', L t.nm = true ∧ k ∈ t.fits) (st : Str → Int) : sm (hits T L) st = sm (hits T' L) st :=
  sm_same (nodup_hits _ _) (nodup_hits _ _) (fun k => by rw [mem_hits, mem_hits]; exact h k) st
theorem cost_dec {A B : List Tk} {x : Tk} {st : Str → Int} (L : Str → Bool) : cost (A ++ less1 x :: B) st L = cost (A ++ x :: B) st L - if L x.nm = true then 0 else 1 := by
  unfold cost
  rw [hits_eq (T := A ++ less1 x :: B) (T' := A ++ x :: B) fun k => ?_, sm_app, sm_app]
  · show _ + ((if L x.nm = true then 0 else x.most - 1) + _) + _ = _ + ((if L x.nm = true then 0 else x.most) + _) + _ - _
    split <;> omega
  · constructor
    · rintro ⟨t, ht, h1, h2⟩
      rcases List.mem_append.mp ht with ht | ht
      · exact ⟨t, List.mem_append_left _ ht, h1, h2⟩
      · rcases List.mem_cons.mp ht with rfl | ht
        · exact ⟨x, List.mem_append_right _ List.mem_cons_self, h1, h2⟩
        · exact ⟨t, List.mem_append_right _ (List.mem_cons_of_mem _ ht), h1, h2⟩
    · rintro ⟨t, ht, h1, h2⟩
      rcases List.mem_append.mp ht with ht | ht
      · exact ⟨t, List.mem_append_left _ ht, h1, h2⟩
      · rcases List.mem_cons.mp ht with rfl | ht
        · exact ⟨less1 t, List.mem_append_right _ List.mem_cons_self, h1, h2⟩
        · exact ⟨t, List.mem_append_right _ (List.mem_cons_of_mem _ ht), h1, h2⟩
theorem sm_dec {A B : List Tk} {x : Tk} : sm (A ++ less1 x :: B) (·.most) = sm (A ++ x :: B) (·.most) - 1 := by
  rw [sm_app, sm_app]
  show _ + (x.most - 1 + _) = _ + (x.most + _) - 1
  omega
theorem sm_sub {A U : List Str} (hA : A.Nodup) (hU : U.Nodup) (h : ∀ k ∈ A, k ∈ U) {st : Str → Int} (h0 : ∀ k, 0 ≤ st k) : sm A st ≤ sm U st := by
  rw [sm_in hA hU h]
  refine sm_le fun k _ => ?_
  have := h0 k
  split <;> omega
/-- one that asks for nothing may be left out of a lot -/
theorem cost_out {T : List Tk} (nd : (T.map (·.nm)).Nodup) {st : Str → Int} (h0 : ∀ k, 0 ≤ st k) {t : Tk} (ht : t ∈ T) (hz : t.most = 0) (L : Str → Bool) : cost T st (fun y => L y && !decide (y = t.nm)) ≤ cost T st L := by
  unfold cost
  have e1 : sm T (fun s => if (L s.nm && !decide (s.nm = t.nm)) = true then 0 else s.most) = sm T fun s => if L s.nm = true then 0 else s.most := sm_congr fun s hs => by
    show (if (L s.nm && !decide (s.nm = t.nm)) = true then 0 else s.most) = if L s.nm = true then 0 else s.most
    by_cases z : s.nm = t.nm
    · obtain rfl := nm_inj nd hs ht z
      rw [hz]
      split <;> split <;> rfl
    · rw [decide_eq_false z]
      simp
  rw [e1]
  have e2 : sm (hits T fun y => L y && !decide (y = t.nm)) st ≤ sm (hits T L) st := sm_sub (nodup_hits _ _) (nodup_hits _ _) (fun k hk => by
    obtain ⟨s, hs, hL, hf⟩ := mem_hits.mp hk
    rw [Bool.and_eq_true] at hL
    exact mem_hits.mpr ⟨s, hs, hL.1, hf⟩) h0
  omega
theorem lot_agree {T : List Tk} {L M : Str → Bool} (h : (T.filter fun t => L t.nm).length ≤ (T.filter fun t => L t.nm && M t.nm).length) {t : Tk} (ht : t ∈ T) (hL : L t.nm = true) : M t.nm = true := by
  have e : (T.filter fun t => L t.nm && M t.nm) = (T.filter fun t => L t.nm).filter fun t => M t.nm := by
    rw [List.filter_filter]
    congr 1
    funext t
    rw [Bool.and_comm]
  rw [e] at h
  have h2 := List.length_filter_le (fun t : Tk => M t.nm) (T.filter fun t => L t.nm)
  exact (List.length_filter_eq_length_iff.mp (Nat.le_antisymm h2 h)) t (List.mem_filter.mpr ⟨ht, hL⟩)
theorem lot_least {T : List Tk} {p : (Str → Bool) → Prop} : ∀ n : Nat, (∃ L, p L ∧ (T.filter fun t => L t.nm).length ≤ n) → ∃ L, p L ∧ ∀ M, p M → (T.filter fun t => L t.nm).length ≤ (T.filter fun t => M t.nm).length
  | 0, ⟨L, hp, hL⟩ => ⟨L, hp, fun M _ => by omega⟩
  | n + 1, ⟨L, hp, hL⟩ => by
    by_cases c : ∃ M, p M ∧ (T.filter fun t => M t.nm).length ≤ n
    · exact lot_least n c
    · refine ⟨L, hp, fun M hM => ?_⟩
      have : ¬ (T.filter fun t => M t.nm).length ≤ n := fun z => c ⟨M, hM, z⟩
      omega
/-- with a bag more: as before, or one whom it fits asks for one bag less -/
theorem fit_step {T : List Tk} (nd : (T.map (·.nm)).Nodup) {st st' : Str → Int} (h0 : ∀ k, 0 ≤ st k) (hm : ∀ t ∈ T, 0 ≤ t.most) {z : Str} (h : ∀ k, st' k = st k + if k = z then 1 else 0) :
    FitT T st' ↔ FitT T st ∨ ∃ A x B, T = A ++ x :: B ∧ z ∈ x.fits ∧ 0 < x.most ∧ FitT (A ++ less1 x :: B) st := by
  constructor
  · intro f
    by_cases g : FitT T st
    · exact .inl g
    have hv : ∃ L, cost T st L < sm T (·.most) := Classical.byContradiction fun q => g fun L => Classical.byContradiction fun r => q ⟨L, by omega⟩
    obtain ⟨L1, hL1⟩ := hv
    obtain ⟨L, hL, ml⟩ := lot_least (T := T) (p := fun L => cost T st L < sm T (·.most)) _ ⟨L1, hL1, Nat.le_refl _⟩
    have lo : ∀ M, sm T (·.most) ≤ cost T st M + 1 := fun M => by
      have := f M
      rw [cost_plus h] at this
      split at this <;> omega
    have hz : z ∈ hits T L := Classical.byContradiction fun q => by
      have := f L
      rw [cost_plus h, if_neg q] at this
      omega
    obtain ⟨t, ht, hLt, hf⟩ := mem_hits.mp hz
    have pos : 0 < t.most := Classical.byContradiction fun q => by
      have e : t.most = 0 := by have := hm t ht; omega
      have c := cost_out nd h0 ht e L
      have := lot_agree (T := T) (L := L) (M := fun y => !decide (y = t.nm)) (ml (fun y => L y && !decide (y = t.nm)) (by show _ < _; omega)) ht hLt
      simp at this
    obtain ⟨A, B, eT⟩ := List.append_of_mem ht
    refine .inr ⟨A, t, B, eT, hf, pos, fun M => ?_⟩
    rw [sm_dec, cost_dec, ← eT]
    by_cases v : cost T st M < sm T (·.most)
    · have c := cost_sub nd h0 L M
      have l1 := lo fun y => L y || M y
      have l2 := lo M
      have := lot_agree (T := T) (L := L) (M := M) (ml (fun y => L y && M y) (by omega)) ht hLt
      rw [if_pos this]
      omega
    · split <;> omega
  · rintro (f | ⟨A, x, B, rfl, hz, _, f⟩) L
    · have := f L
      rw [cost_plus h]
      split <;> omega
    · have := f L
      rw [sm_dec, cost_dec] at this
      rw [cost_plus h]
      by_cases q : L x.nm = true
      · rw [if_pos (mem_hits.mpr ⟨x, List.mem_append_right _ List.mem_cons_self, q, hz⟩)]
        rw [if_pos q] at this
        omega
      · rw [if_neg q] at this
        split <;> omega
theorem fit_pre {A B : List Tk} (nd : ((A ++ B).map (·.nm)).Nodup) {st : Str → Int} (f : FitT (A ++ B) st) : FitT A st := fun L => by
  have h := f fun y => L y && decide (y ∈ A.map (·.nm))
  have nB : ∀ t ∈ B, t.nm ∉ A.map (·.nm) := fun t ht q => by
    rw [List.map_append] at nd
    exact (List.nodup_append.mp nd).2.2 _ q _ (List.mem_map.mpr ⟨t, ht, rfl⟩) rfl
  unfold cost at h ⊢
  rw [sm_app, sm_app] at h
  have e1 : sm A (fun t => if (L t.nm && decide (t.nm ∈ A.map (·.nm))) = true then 0 else t.most) = sm A fun t => if L t.nm = true then 0 else t.most := sm_congr fun t ht => by
    show (if (L t.nm && decide (t.nm ∈ A.map (·.nm))) = true then 0 else t.most) = if L t.nm = true then 0 else t.most
    rw [decide_eq_true (List.mem_map.mpr ⟨t, ht, rfl⟩), Bool.and_true]
  have e2 : sm B (fun t => if (L t.nm && decide (t.nm ∈ A.map (·.nm))) = true then 0 else t.most) = sm B (·.most) := sm_congr fun t ht => by
    show (if (L t.nm && decide (t.nm ∈ A.map (·.nm))) = true then 0 else t.most) = t.most
    rw [decide_eq_false (nB t ht), Bool.and_false]
    rfl
  have e3 : sm (hits (A ++ B) fun y => L y && decide (y ∈ A.map (·.nm))) st = sm (hits A L) st := by
    refine sm_same (nodup_hits _ _) (nodup_hits _ _) (fun k => ?_) st
    rw [mem_hits, mem_hits]
    constructor
    · rintro ⟨t, ht, hL, hk⟩
      rw [Bool.and_eq_true] at hL
      rcases List.mem_append.mp ht with ht | ht
      · exact ⟨t, ht, hL.1, hk⟩
      · exact absurd (of_decide_eq_true hL.2) (nB t ht)
    · rintro ⟨t, ht, hL, hk⟩
      exact ⟨t, List.mem_append_left _ ht, by rw [hL, decide_eq_true (List.mem_map.mpr ⟨t, ht, rfl⟩)]; rfl, hk⟩
  rw [e1, e2, e3] at h
  omega
end Eld
end L2

set_option Elab.async false
set_option linter.all false
set_option maxRecDepth 100000
set_option maxHeartbeats 4000000
/-! ## rows of counts -/
namespace L2
namespace Eld
open PySem PySem.Spec PyProof.Rows PySem.EldX
theorem least_min {f : (Str → Bool) → Int} (h : ∀ L, 0 ≤ f L) : ∀ n : Nat, (∃ L, (f L).toNat ≤ n) → ∃ L, ∀ L', f L ≤ f L'
  | 0, ⟨L, hL⟩ => ⟨L, fun L' => by
    have := h L
    have := h L'
    omega⟩
  | n + 1, ⟨L, hL⟩ => by
    by_cases c : ∃ L', (f L').toNat ≤ n
    · exact least_min h n c
    · refine ⟨L, fun L' => ?_⟩
      have : ¬ (f L').toNat ≤ n := fun z => c ⟨L', z⟩
      have := h L
      have := h L'
      omega
theorem least_ex {ts : List Tk} {st : Str → Int} (h0 : ∀ k, 0 ≤ st k) (hm : ∀ t ∈ ts, 0 ≤ t.most) : ∃ v, Least ts st v := by
  have nn : ∀ L, 0 ≤ cost ts st L := fun L => by
    unfold cost
    have e1 : 0 ≤ sm ts (fun t => if L t.nm = true then 0 else t.most) := sm_nn fun t ht => by
      have := hm t ht
      split <;> omega
    have e2 : 0 ≤ sm (hits ts L) st := sm_nn fun k _ => h0 k
    omega
  obtain ⟨L, hL⟩ := least_min (f := cost ts st) nn _ ⟨fun _ => true, Nat.le_refl _⟩
  exact ⟨_, ⟨L, rfl⟩, hL⟩
/-- askers with counts as their mosts -/
def tsC (ts : List Tk) (c : List Int) : List Tk := List.zipWith (fun t x => ⟨t.nm, t.fits, x⟩) ts c
theorem tsC_nm : ∀ {ts : List Tk} {c : List Int}, c.length = ts.length → (tsC ts c).map (·.nm) = ts.map (·.nm)
  | [], [], _ => rfl
  | t :: ts, x :: c, h => by
    show t.nm :: (tsC ts c).map (·.nm) = t.nm :: ts.map (·.nm)
    rw [tsC_nm (by simpa using h)]
  | [], _ :: _, h => by simp at h
  | _ :: _, [], h => by simp at h
theorem tsC_sm : ∀ {ts : List Tk} {c : List Int}, c.length = ts.length → sm (tsC ts c) (·.most) = sm c id
  | [], [], _ => rfl
  | t :: ts, x :: c, h => by
    show x + sm (tsC ts c) (·.most) = x + sm c id
    rw [tsC_sm (by simpa using h)]
  | [], _ :: _, h => by simp at h
  | _ :: _, [], h => by simp at h
theorem tsC_len {ts : List Tk} {c : List Int} (h : c.length = ts.length) : (tsC ts c).length = ts.length := by
  have := congrArg List.length (tsC_nm h)
  simpa using this
theorem tsC_at {ts : List Tk} {c : List Int} {j : Nat} {t : Tk} {x : Int} (ht : ts[j]? = some t) (hx : c[j]? = some x) : (tsC ts c)[j]? = some ⟨t.nm, t.fits, x⟩ := by
  unfold tsC
  rw [List.getElem?_zipWith, ht, hx]
theorem tsC_get {ts : List Tk} {c : List Int} {j : Nat} {u : Tk} (h : (tsC ts c)[j]? = some u) : ∃ t x, ts[j]? = some t ∧ c[j]? = some x ∧ u = ⟨t.nm, t.fits, x⟩ := by
  unfold tsC at h
  rw [List.getElem?_zipWith] at h
  cases e : ts[j]? with
  | none => rw [e] at h; cases h
  | some t =>
    cases e2 : c[j]? with
    | none => rw [e, e2] at h; cases h
    | some x =>
      rw [e, e2] at h
      exact ⟨t, x, rfl, rfl, (Option.some.inj h).symm⟩
theorem tsC_take (ts : List Tk) (c : List Int) (j : Nat) : (tsC ts c).take j = tsC (ts.take j) (c.take j) := by
  unfold tsC
  exact List.take_zipWith
/-- counts between nought and the mosts -/
structure CB (ts : List Tk) (c : List Int) : Prop where
  len : c.length = ts.length
  bd : ∀ (i : Nat) (t : Tk) (x : Int), ts[i]? = some t → c[i]? = some x → 0 ≤ x ∧ x ≤ t.most
theorem CB.nn {ts : List Tk} {c : List Int} (h : CB ts c) : ∀ t ∈ tsC ts c, 0 ≤ t.most := fun u hu => by
  obtain ⟨j, hj⟩ := List.mem_iff_getElem?.mp hu
  obtain ⟨t, x, h1, h2, rfl⟩ := tsC_get hj
  exact (h.bd j t x h1 h2).1
theorem split_at {α : Type} : ∀ {l : List α} {j : Nat} {x : α}, l[j]? = some x → ∃ A B, l = A ++ x :: B ∧ A.length = j
  | y :: l, 0, x, h => ⟨[], l, by rw [show y = x from by simpa using h]; rfl, rfl⟩
  | y :: l, j + 1, x, h => by
    obtain ⟨A, B, e, n⟩ := split_at (l := l) (j := j) (x := x) (by simpa using h)
    exact ⟨y :: A, B, by rw [e]; rfl, by simp [n]⟩
  | [], j, x, h => by simp at h
theorem set_at {α : Type} : ∀ {A B : List α} {x y : α}, (A ++ x :: B).set A.length y = A ++ y :: B
  | [], B, x, y => rfl
  | a :: A, B, x, y => by
    show a :: (A ++ x :: B).set A.length y = a :: (A ++ y :: B)
    rw [set_at]
theorem tsC_set : ∀ {ts : List Tk} {c : List Int} {j : Nat} {t : Tk} {y : Int}, ts[j]? = some t → tsC ts (c.set j y) = (tsC ts c).set j ⟨t.nm, t.fits, y⟩
  | t :: ts, [], j, u, y, h => by simp [tsC]
  | t :: ts, x :: c, 0, u, y, h => by
    obtain rfl : t = u := by simpa using h
    rfl
  | t :: ts, x :: c, j + 1, u, y, h => by
    show _ :: tsC ts (c.set j y) = _ :: (tsC ts c).set j _
    rw [tsC_set (by simpa using h)]
  | [], c, j, u, y, h => by simp at h
theorem get_split {α : Type} {A B : List α} {x : α} : (A ++ x :: B)[A.length]? = some x := by simp
/-- with a bag more, of rows of counts -/
theorem fitC_step {ts : List Tk} (nd : (ts.map (·.nm)).Nodup) {c : List Int} (hc : CB ts c) {st st' : Str → Int} (h0 : ∀ k, 0 ≤ st k) {z : Str} (h : ∀ k, st' k = st k + if k = z then 1 else 0) :
    FitT (tsC ts c) st' ↔ FitT (tsC ts c) st ∨ ∃ j t x, ts[j]? = some t ∧ c[j]? = some x ∧ z ∈ t.fits ∧ 0 < x ∧ FitT (tsC ts (c.set j (x - 1))) st := by
  rw [fit_step (by rw [tsC_nm hc.len]; exact nd) h0 hc.nn h]
  constructor
  · rintro (f | ⟨A, u, B, e, hz, pos, f⟩)
    · exact .inl f
    · have hu : (tsC ts c)[A.length]? = some u := by rw [e]; exact get_split
      obtain ⟨t, x, h1, h2, rfl⟩ := tsC_get hu
      refine .inr ⟨A.length, t, x, h1, h2, hz, pos, ?_⟩
      rw [tsC_set h1, e, set_at]
      exact f
  · rintro (f | ⟨j, t, x, h1, h2, hz, pos, f⟩)
    · exact .inl f
    · obtain ⟨A, B, e, rfl⟩ := split_at (tsC_at h1 h2)
      refine .inr ⟨A, _, B, e, hz, pos, ?_⟩
      rw [tsC_set h1, e, set_at] at f
      exact f
theorem fitC_take {ts : List Tk} (nd : (ts.map (·.nm)).Nodup) {c : List Int} (hc : c.length = ts.length) {st : Str → Int} (f : FitT (tsC ts c) st) (j : Nat) : FitT (tsC (ts.take j) (c.take j)) st := by
  rw [← tsC_take]
  refine fit_pre (B := (tsC ts c).drop j) ?_ (by rw [List.take_append_drop]; exact f)
  rw [List.take_append_drop, tsC_nm hc]
  exact nd
theorem cost_up {A B : List Tk} (h : Paired (fun a b : Tk => a.nm = b.nm ∧ a.fits = b.fits ∧ a.most ≤ b.most) A B) (st : Str → Int) (L : Str → Bool) : cost A st L ≤ cost B st L := by
  unfold cost
  have e1 : sm A (fun t => if L t.nm = true then 0 else t.most) ≤ sm B fun t => if L t.nm = true then 0 else t.most := by
    induction h with
    | nil => exact Int.le_refl _
    | @cons a b A B q _ ih =>
      show (if L a.nm = true then 0 else a.most) + sm A _ ≤ (if L b.nm = true then 0 else b.most) + sm B _
      rw [q.1]
      have := q.2.2
      split <;> omega
  have e2 : sm (hits A L) st = sm (hits B L) st := hits_eq (fun k => by
    constructor
    · rintro ⟨t, ht, h1, h2⟩
      clear e1
      induction h with
      | nil => cases ht
      | @cons a b A B q _ ih =>
        rcases List.mem_cons.mp ht with rfl | ht
        · exact ⟨b, List.mem_cons_self, q.1 ▸ h1, q.2.1 ▸ h2⟩
        · obtain ⟨u, hu, p⟩ := ih ht
          exact ⟨u, List.mem_cons_of_mem _ hu, p⟩
    · rintro ⟨t, ht, h1, h2⟩
      clear e1
      induction h with
      | nil => cases ht
      | @cons a b A B q _ ih =>
        rcases List.mem_cons.mp ht with rfl | ht
        · exact ⟨a, List.mem_cons_self, by rw [q.1]; exact h1, by rw [q.2.1]; exact h2⟩
        · obtain ⟨u, hu, p⟩ := ih ht
          exact ⟨u, List.mem_cons_of_mem _ hu, p⟩) st
  omega
theorem tsC_up : ∀ {ts : List Tk} {c : List Int}, c.length = ts.length → (∀ (i : Nat) (t : Tk) (x : Int), ts[i]? = some t → c[i]? = some x → x ≤ t.most) → Paired (fun a b : Tk => a.nm = b.nm ∧ a.fits = b.fits ∧ a.most ≤ b.most) (tsC ts c) ts
  | [], [], _, _ => .nil
  | t :: ts, x :: c, h, b => .cons ⟨rfl, rfl, b 0 t x rfl rfl⟩ (tsC_up (by simpa using h) fun i u y h1 h2 => b (i + 1) u y (by simpa using h1) (by simpa using h2))
  | [], _ :: _, h, _ => by simp at h
  | _ :: _, [], h, _ => by simp at h
theorem CB.take {ts : List Tk} {c : List Int} (h : CB ts c) (j : Nat) : CB (ts.take j) (c.take j) := ⟨by rw [List.length_take, List.length_take, h.len], fun i t x h1 h2 => by
  have l1 := (List.getElem?_eq_some_iff.mp h1).1
  rw [List.length_take] at l1
  rw [List.getElem?_take_of_lt (by omega)] at h1 h2
  exact h.bd i t x h1 h2⟩
/-- what they ask for is no more than the first ones can get -/
theorem fitC_le {ts : List Tk} (nd : (ts.map (·.nm)).Nodup) {c : List Int} (hc : CB ts c) {st : Str → Int} (f : FitT (tsC ts c) st) {j : Nat} {v : Int} (hv : Least (ts.take j) st v) : sm (c.take j) id ≤ v := by
  obtain ⟨⟨L, e⟩, _⟩ := hv
  have h1 := fitC_take nd hc.len f j L
  rw [tsC_sm (hc.take j).len] at h1
  have h2 := cost_up (tsC_up (hc.take j).len fun i t x a b => ((hc.take j).bd i t x a b).2) st L
  omega
theorem filt_lesser (p : Tk → Bool) : ∀ P : List Tk, Lesser (P.filter p) P
  | [] => .nil
  | t :: P => by
    rw [List.filter_cons]
    split
    · exact .keep rfl rfl (Int.le_refl _) (filt_lesser p P)
    · exact .drop (filt_lesser p P)
theorem deal_nth {ts : List Tk} {ds : List (Str × Int)} (h : ds.map (·.1) = ts.map (·.nm)) {j : Nat} {d : Str × Int} (hd : ds[j]? = some d) : ∃ t, ts[j]? = some t ∧ d.1 = t.nm := by
  have e1 : (ds.map (·.1))[j]? = some d.1 := by rw [List.getElem?_map, hd]; rfl
  rw [h, List.getElem?_map] at e1
  obtain ⟨t, h1, h2⟩ := Option.map_eq_some_iff.mp e1
  exact ⟨t, h1, h2.symm⟩
theorem tsC_sum {L : Str → Bool} : ∀ {ts : List Tk} {ds : List (Str × Int)}, ds.map (·.1) = ts.map (·.nm) → sm (tsC ts (ds.map (·.2))) (fun t => if L t.nm = true then 0 else t.most) = sm ds fun x => if L x.1 = true then 0 else x.2
  | [], [], _ => rfl
  | t :: ts, x :: ds, h => by
    have h1 : x.1 = t.nm := List.cons.inj h |>.1
    show (if L t.nm = true then 0 else x.2) + sm (tsC ts (ds.map (·.2))) _ = (if L x.1 = true then 0 else x.2) + sm ds _
    rw [h1, tsC_sum (List.cons.inj h |>.2)]
  | [], _ :: _, h => by cases h
  | _ :: _, [], h => by cases h
theorem tsC_hits {ts : List Tk} {c : List Int} (hc : c.length = ts.length) {L : Str → Bool} {st : Str → Int} : sm (hits (tsC ts c) L) st = sm (hits ts L) st := by
  refine hits_eq (fun k => ?_) st
  constructor
  · rintro ⟨u, hu, h1, h2⟩
    obtain ⟨j, hj⟩ := List.mem_iff_getElem?.mp hu
    obtain ⟨t, x, a, b, rfl⟩ := tsC_get hj
    exact ⟨t, List.mem_of_getElem? a, h1, h2⟩
  · rintro ⟨t, ht, h1, h2⟩
    obtain ⟨j, hj⟩ := List.mem_iff_getElem?.mp ht
    have lt := (List.getElem?_eq_some_iff.mp hj).1
    have hx : c[j]? = some (c[j]'(by omega)) := List.getElem?_eq_getElem _
    exact ⟨_, List.mem_of_getElem? (tsC_at hj hx), h1, h2⟩
/-- a deal can all be had -/
theorem deal_fit {ts : List Tk} (nd : (ts.map (·.nm)).Nodup) (hm : ∀ t ∈ ts, 0 ≤ t.most) {st : Str → Int} (h0 : ∀ k, 0 ≤ st k) {ds : List (Str × Int)} (d : IsDealT ts st ds) : FitT (tsC ts (ds.map (·.2))) st := fun L => by
  have ld : ds.length = ts.length := by
    have := congrArg List.length d.nm
    simpa using this
  have lc : (ds.map (·.2)).length = ts.length := by rw [List.length_map]; exact ld
  have key : ∀ j, j ≤ ts.length → ∀ v, Least ((ts.take j).filter fun t => L t.nm) st v → sm (ds.take j) (fun x => if L x.1 = true then x.2 else 0) ≤ v := fun j => by
    induction j with
    | zero =>
      intro _ v hv
      rw [List.take_zero] at hv ⊢
      obtain rfl := hv.uni (least_nil st)
      exact Int.le_refl _
    | succ j ih =>
      intro hj v hv
      have hx : ds[j]? = some (ds[j]'(by omega)) := List.getElem?_eq_getElem _
      obtain ⟨t, ht, en⟩ := deal_nth d.nm hx
      generalize ds[j]'(by omega) = x at hx en
      have et : ts.take (j + 1) = ts.take j ++ [t] := by rw [List.take_add_one, ht]; rfl
      have ex : ds.take (j + 1) = ds.take j ++ [x] := by rw [List.take_add_one, hx]; rfl
      rw [et, List.filter_append] at hv
      rw [ex, sm_app]
      by_cases q : L t.nm = true
      · have e1 : ([t].filter fun t => L t.nm) = [t] := by simp [q]
        rw [e1] at hv
        obtain ⟨v0, hv0⟩ := least_ex (ts := (ts.take j).filter fun t => L t.nm) h0 fun t ht => hm t (List.mem_of_mem_take (List.mem_filter.mp ht).1)
        have i1 := ih (by omega) v0 hv0
        have a0 := d.ls j (by omega)
        have a1 := d.ls (j + 1) hj
        rw [et, ex, sm_app] at a1
        have s := least_sub (filt_lesser (fun t => L t.nm) (ts.take j)) (by rw [← et]; exact nd.sublist ((List.take_sublist _ _).map _)) h0 (fun k => Int.le_refl _) a0 a1 hv0 hv
        have e2 : sm [x] (fun x => if L x.1 = true then x.2 else 0) = x.2 := by
          show (if L x.1 = true then x.2 else 0) + 0 = x.2
          rw [en, if_pos q, Int.add_zero]
        have e3 : sm [x] (·.2) = x.2 := by
          show x.2 + 0 = x.2
          omega
        omega
      · have e1 : ([t].filter fun t => L t.nm) = [] := by simp [q]
        rw [e1, List.append_nil] at hv
        have i1 := ih (by omega) v hv
        have e2 : sm [x] (fun x => if L x.1 = true then x.2 else 0) = 0 := by
          show (if L x.1 = true then x.2 else 0) + 0 = 0
          rw [en, if_neg q]
          rfl
        omega
  obtain ⟨v, hv⟩ := least_ex (ts := ts.filter fun t => L t.nm) (st := st) h0 fun t ht => hm t (List.mem_filter.mp ht).1
  have k := key ts.length (Nat.le_refl _) v (by rw [List.take_length]; exact hv)
  rw [← ld, List.take_length] at k
  have up := hv.2 fun _ => true
  have e0 : cost (ts.filter fun t => L t.nm) st (fun _ => true) = sm (hits ts L) st := by
    unfold cost
    have z : sm (ts.filter fun t => L t.nm) (fun t => if true = true then 0 else t.most) = 0 := sm_zero fun t _ => rfl
    dsimp only
    rw [z, Int.zero_add]
    refine sm_same (nodup_hits _ _) (nodup_hits _ _) (fun k => ?_) st
    rw [mem_hits, mem_hits]
    constructor
    · rintro ⟨t, ht, _, hk⟩
      exact ⟨t, (List.mem_filter.mp ht).1, (List.mem_filter.mp ht).2, hk⟩
    · rintro ⟨t, ht, hL, hk⟩
      exact ⟨t, List.mem_filter.mpr ⟨ht, hL⟩, rfl, hk⟩
  rw [tsC_sm lc]
  unfold cost
  rw [tsC_sum d.nm, tsC_hits lc]
  have e1 : sm (ds.map (·.2)) id = sm ds (·.2) := by rw [sm_map]; rfl
  have e2 : sm ds (·.2) = sm ds (fun x => if L x.1 = true then x.2 else 0) + sm ds fun x => if L x.1 = true then 0 else x.2 := by
    rw [← sm_add]
    refine sm_congr fun x _ => ?_
    split <;> omega
  omega
end Eld
end L2

set_option Elab.async false
set_option linter.all false
set_option maxRecDepth 100000
set_option maxHeartbeats 4000000
/-! ## told deals, checked -/
namespace L2
namespace Eld
open PySem PySem.Spec PyProof.Rows PySem.EldX
theorem asks_nth {C : Addr} {H : Hp} : ∀ {as : List Addr} {ks : List Ask} {j : Nat} {k : Ask}, Asks C H as ks → ks[j]? = some k → ∃ b, as[j]? = some b ∧ AskAt C H b k
  | _, _, 0, k, .cons h _, e => by
    obtain rfl := Option.some.inj e
    exact ⟨_, rfl, h⟩
  | _, _, j + 1, k, .cons _ t, e => asks_nth (j := j) t e
  | _, _, _, _, .nil, e => by simp at e
theorem paired_getJ {α β : Type} {R : α → β → Prop} {l : List α} {m : List β} (h : Paired R l m) : ∀ {i : Nat} {a : α}, l[i]? = some a → ∃ b, m[i]? = some b ∧ R a b := by
  induction h with
  | nil => intro i a e; simp at e
  | cons r _ ih =>
    intro i a e
    cases i with
    | zero =>
      obtain rfl := Option.some.inj e
      exact ⟨_, rfl, r⟩
    | succ i => exact ih (by simpa using e)
def askI (ks : List Ask) (i : Nat) : Ask := ks.getD i ⟨"", [], 0⟩
theorem askI_at {ks : List Ask} {i : Nat} (h : i < ks.length) : ks[i]? = some (askI ks i) := by
  unfold askI
  rw [List.getD_eq_getElem?_getD, List.getElem?_eq_getElem h]
  rfl
structure Blt3 (mg : Str → Option Value) : Prop where
  zip : mg "zip" = none
  enumerate : mg "enumerate" = none
/-- a told deal of a line -/
structure Told (ks : List Ask) (ds : List (Str × Int)) : Prop where
  nm : ds.map (·.1) = ks.map Ask.nm
  lo : ∀ x ∈ ds, 0 ≤ x.2
  hi : ∀ i x, ds[i]? = some x → x.2 ≤ (askI ks i).m
theorem Told.len {ks : List Ask} {ds : List (Str × Int)} (h : Told ks ds) : ds.length = ks.length := by
  have := congrArg List.length h.nm
  simpa using this
theorem Told.wd {ks : List Ask} {ds : List (Str × Int)} (h : Told ks ds) (hw : ∀ k ∈ ks, IsWord k.nm) : ∀ x ∈ ds, IsWord x.1 := fun x hx => by
  have : x.1 ∈ ks.map Ask.nm := h.nm ▸ List.mem_map.mpr ⟨x, hx, rfl⟩
  obtain ⟨k, hk, e⟩ := List.mem_map.mp this
  rw [← e]
  exact hw k hk
theorem rep_snoc (i : Nat) : (List.replicate i true).map V.bl ++ [V.bl true] = (List.replicate (i + 1) true).map V.bl := by
  rw [List.replicate_succ', List.map_append]
  rfl
theorem all_rep (n : Nat) : (List.replicate n true).all id = true := by
  rw [List.all_eq_true]
  intro b hb
  rw [List.eq_of_mem_replicate hb]
  rfl
theorem ypair_sameT {xs ys : Nat → Option V} : ∀ i H x H', YPair xs ys i H x H' → Same H H' := fun i H x H' ⟨T, _, _, _, nT, e, _⟩ => e ▸ Same.fresh nT
section
variable {P : Program} {w : World} {K : PySem.W.Frag} {mg : Str → Option Value} {base : Heap} {CA fI pN gN pF gF pM gM fE CL fLI fLE fLL fLA fLN fLK fLR fLP : Addr} {f1 f2 f3 f4 fC fS fN fL fM : Addr} {d1 d2 d3 d4 dC dS dN dL dM : FuncData}
/-! ### _is_pair -/
def spIsPair : Sp := fun vs H Q _ => ∃ (t : Addr) (x : Str) (c : Int), vs = [.ref t] ∧ H t = some (.tup [.str x, .int c]) ∧ IsWord x ∧ 0 ≤ c ∧ ∀ H', Same H H' → Q (.bl true) H'
theorem ok_isPair {f : Addr} {fd : FuncData} (F : Fun K "_is_pair" "_is_pair" sIsPair f fd) (D : ChkD K mg f1 f2 f3 f4 fC fS fN fL fM d1 d2 d3 d4 dC dS dN dL dM) (B : Blt mg) : FnOk P w K mg base CX0 4 f fd ["value"] spIsPair := by
  have GIsName : FnOk P w K mg base CX0 1 f1 d1 ["value"] spIsName := ok_isName D.C1.IsName B
  have GCount : FnOk P w K mg base CX0 3 fC dC ["value"] spCountB := ok_countB D.Count D.C2 B
  have bCount : Binds K dC ["value"] [] := D.Count.binds fun _ _ _ _ _ _ us hl => match us, hl with | [_], _ => rfl
  refine F.ok scIsPair (fun vs H Q E h => ?_) (fun cdv A outer s H vs Q E hr h => ?_)
  · obtain ⟨t, x, c, rfl, _⟩ := h
    rfl
  · obtain ⟨t, x, c, rfl, ht, hx, hc, q⟩ := h
    refine ⟨_, (pss_one (ps_ret (pe_and (pe_callB call_isi (by rfl) B.isinstance (by decide +kernel) (pa_cons (pv 0) (pa_cons (pe_bltn (v := .ty "tuple") rfl B.tuple (by decide +kernel) rfl) pa_nil))) (pe_and (pe_cmpR op_eq (pe_callB call_len_seq (by rfl) B.len PySem.boot_len (pa_cons (pv 0) pa_nil)) pe_int (nomark _)) (pe_and (pe_call GIsName (hr.mono (by decide)) (by rfl) D.C1.gIsName D.C1.IsName.kp D.C1.bIsName .nil pass0 (pa_cons (pe_ix ix_tup (pv 0) pe_int (fun _ _ => rfl)) pa_nil)) (pe_one (pe_call GCount (hr.mono (by decide)) (by rfl) D.gCount D.Count.kp bCount .nil pass0 (pa_cons (pe_ix ix_tup (pv 0) pe_int (fun _ _ => rfl)) pa_nil)))))))), ?_⟩
    refine ⟨.ref t, rfl, .ref t, .ty "tuple", _, _, true, rfl, .ty _, .base (.tup ht), kit_ty (by decide +kernel), true, rfl, iteT ?_⟩
    refine ⟨.ref t, rfl, t, _, rfl, .inr (SqT.of ht), rfl, _, rfl, iteD (fun _ => ?_) fun z => absurd rfl z⟩
    refine ⟨.ref t, rfl, t, _, 0, .str x, rfl, rfl, SqT.of ht, rfl, x, rfl, hx, fun H1 s1 => ⟨true, rfl, iteT ?_⟩⟩
    exact ⟨.ref t, rfl, t, _, 1, .int c, rfl, rfl, SqT.of (s1 _ _ ht), rfl, c, rfl, hc, q H1 s1⟩
/-! ### are_pairs -/
def spArePairs : Sp := fun vs H Q _ => ∃ (p : Addr) (ts : List Addr) (ds : List (Str × Int)), vs = [.ref p] ∧ DealAt H p ts ds ∧ (∀ x ∈ ds, IsWord x.1 ∧ 0 ≤ x.2) ∧ (ds.map (·.1)).Nodup ∧ ds.length ≤ 60 ∧ ∀ H', Same H H' → Q (.bl true) H'
theorem ok_arePairs {f fP : Addr} {fd dP : FuncData} (F : Fun K "are_pairs" "are_pairs" sArePairs f fd) (FIsPair : Fun K "_is_pair" "_is_pair" sIsPair fP dP) (gIsPair : mg "_is_pair" = some (.ref fP)) (D : ChkD K mg f1 f2 f3 f4 fC fS fN fL fM d1 d2 d3 d4 dC dS dN dL dM) (B : Blt mg) : FnOk P w K mg base CX0 5 f fd ["value"] spArePairs := by
  have GIsPair : FnOk P w K mg base CX0 4 fP dP ["value"] spIsPair := ok_isPair FIsPair D B
  have bIsPair : Binds K dP ["value"] [] := FIsPair.binds fun _ _ _ _ _ _ us hl => match us, hl with | [_], _ => rfl
  have GUnlike : FnOk P w K mg base CX0 1 f2 d2 ["names"] (spUnlike K) := ok_unlike D.C1.Unlike B
  refine F.ok scArePairs (fun vs H Q E h => ?_) (fun cdv A outer s H vs Q E hr h => ?_)
  · obtain ⟨p, ts, ds, rfl, _⟩ := h
    rfl
  · obtain ⟨p, ts, ds, rfl, hD, hok, nd, l60, q⟩ := h
    refine ⟨_, (pss_cons (ps_if (PW.pt (pw_or (pt_not (pt_val (pe_callB call_isi (by rfl) B.isinstance (by decide +kernel) (pa_cons (pv 0) (pa_cons (pe_bltn (v := .ty "list") rfl B.list (by decide +kernel) rfl) pa_nil))))) (pw_or1 (pt_not (pt_val (pe_callB (cr_all rfl) (by rfl) B.all (by decide +kernel) (pa_cons (pe_lc (own := [("pair", 1)]) (g := gName 1) (tt := tYes) rfl scArePairs.nd (pi_list (pv 0)) (blkOk_by (own := [("pair", 1)]) (N := NArePairs) (sc := defScope sArePairs) (by decide +kernel)) (fun _ _ _ _ _ => pg_name (i := 1) scArePairs.nd rfl (.inl rfl)) (fun _ _ _ _ _ => pts_nil) (fun _ _ _ _ _ => (pe_call GIsPair (hr.mono (by decide)) (by rfl) gIsPair FIsPair.kp bIsPair .nil pass0 (pa_cons (pv 1) pa_nil)))) pa_nil))))))) (pss_one (ps_ret pe_bl)) pss_nil)
      (pss_one (ps_ret (pe_call GUnlike (hr.mono (by decide)) (by rfl) D.C1.gUnlike D.C1.Unlike.kp D.C1.bUnlike .nil pass0 (pa_cons (pe_lc (own := [("name", 2), ("_", 3)]) (g := (gTup K 2 (gCons (gName 2) (gCons (gName 3) gNil)))) (tt := tYes) rfl scArePairs.nd (pi_list (pv 0)) (blkOk_by (own := [("name", 2), ("_", 3)]) (N := NArePairs) (sc := defScope sArePairs) (by decide +kernel)) (fun _ _ _ _ _ => (pg_tup rfl (pgs_cons (pg_name (i := 2) scArePairs.nd rfl (.inl rfl)) (pgs_cons (pg_name (i := 3) scArePairs.nd rfl (.inl rfl)) pgs_nil)))) (fun _ _ _ _ _ => pts_nil) (fun _ _ _ _ _ => (pv 2))) pa_nil))))), ?_⟩
    have lt : ts.length = ds.length := Paired.length hD.rows
    refine ⟨.ref p, rfl, .ref p, .ty "list", _, _, true, rfl, .ty _, .base (.lst hD.at_), kit_ty (by decide +kernel), true, rfl, iteF ?_⟩
    refine ⟨.ref p, rfl, p, rfl, ⟨_, SqL.of hD.at_⟩, fun E1 hE1 => ?_⟩
    refine lc_foldY walk_refsE (fun i acc _ => acc = (List.replicate i true).map V.bl) (by rw [sizeLine_eq]; omega) hE1 rfl (fun G s => SqL.of (s _ _ hD.at_)) yat_same (fun _ _ _ _ _ _ _ p => p) ?_ ?_
    · rintro i x acc G G' hi sG eD ⟨rfl, hx⟩ rfl N M hN hM
      obtain ⟨t, ht, rfl⟩ := map_ref_at hx
      obtain ⟨y, hy, ey⟩ := paired_getJ hD.rows ht
      refine ⟨rfl, ?_⟩
      unfold tYes
      show (if true = true then _ else _)
      rw [if_pos rfl]
      exact ⟨.ref t, rfl, t, y.1, y.2, rfl, sG _ _ ey, (hok y (List.mem_of_getElem? hy)).1, (hok y (List.mem_of_getElem? hy)).2, fun G2 s2 => hN _ G2 s2 (rep_snoc i)⟩
    · rintro G acc sG eD rfl
      refine ⟨E1, _, rfl, SqL.of eD, true, congrArg V.bl (all_rep _), iteF ?_⟩
      have hD2 := hD.same sG
      refine ⟨.ref p, rfl, p, rfl, ⟨_, SqL.of hD2.at_⟩, fun E2 hE2 => ?_⟩
      refine lc_foldY walk_refsE (fun i acc _ => acc = ((ds.take i).map (·.1)).map V.str) (by rw [sizeLine_eq]; omega) hE2 rfl (fun G s => SqL.of (s _ _ hD2.at_)) yat_same (fun _ _ _ _ _ _ _ p => p) ?_ ?_
      · rintro i x acc G1 G1' hi sG1 eD1 ⟨rfl, hx⟩ rfl N M hN hM
        obtain ⟨t, ht, rfl⟩ := map_ref_at hx
        obtain ⟨y, hy, ey⟩ := paired_getJ hD2.rows ht
        refine ⟨t, _, rfl, SqT.of (sG1 _ _ ey), rfl, .str y.1, [.int y.2], rfl, .int y.2, [], rfl, rfl, rfl, ?_⟩
        unfold tYes
        show (if true = true then _ else _)
        rw [if_pos rfl]
        refine ⟨.str y.1, rfl, hN _ _ (Same.refl _) ?_⟩
        rw [List.take_add_one, hy]
        simp
      · rintro G1 acc sG1 eD1 rfl
        rw [lt, List.take_length] at eD1
        refine ⟨E2, ds.map (·.1), rfl, SqL.of eD1, by rw [List.length_map]; omega, fun G2 s2 => ?_⟩
        rw [decide_eq_true nd]
        exact q G2 ((sG.trans sG1).trans s2)
/-! ### are_counts -/
def spAreCounts (CL CA : Addr) : Sp := fun vs H Q _ => ∃ (a p : Addr) (as : List Addr) (ks : List Ask) (ts : List Addr) (ds : List (Str × Int)), vs = [.ref a, .ref p] ∧ LineAt CL CA H a as ks ∧ DealAt H p ts ds ∧ Told ks ds ∧ (∀ k ∈ ks, IsWord k.nm) ∧ (ks.map Ask.nm).Nodup ∧ ks.length ≤ 60 ∧ ∀ H', Same H H' → Q (.bl true) H'
theorem ok_areCounts {f fP fA : Addr} {fd dP dA dLN dLA dAN dAM : FuncData} (F : Fun K "are_counts" "are_counts" sAreCounts f fd) (FArePairs : Fun K "are_pairs" "are_pairs" sArePairs fA dA) (gArePairs : mg "are_pairs" = some (.ref fA)) (FIsPair : Fun K "_is_pair" "_is_pair" sIsPair fP dP) (gIsPair : mg "_is_pair" = some (.ref fP)) (D : ChkD K mg f1 f2 f3 f4 fC fS fN fL fM d1 d2 d3 d4 dC dS dN dL dM) (B : Blt mg) (B3 : Blt3 mg)
    (TA : ACls K CA fI pN gN pF gF pM gM fE) (FAN : Fun K "name" "Asker.name" sAName gN dAN) (FAM : Fun K "most" "Asker.most" sAMost gM dAM) (T : LCls K CL fLI fLE fLL fLA fLN fLK fLR fLP) (FLA : Fun K "askers" "Line.askers" sLAskers fLA dLA) (FLN : Fun K "names" "Line.names" sLNames fLN dLN) : FnOk P w K mg base CX0 6 f fd ["line", "value"] (spAreCounts CL CA) := by
  have GArePairs : FnOk P w K mg base CX0 5 fA dA ["value"] spArePairs := ok_arePairs FArePairs FIsPair gIsPair D B
  have bArePairs : Binds K dA ["value"] [] := FArePairs.binds fun _ _ _ _ _ _ us hl => match us, hl with | [_], _ => rfl
  have GLAskers : FnOk P w K mg base CX0 1 fLA dLA ["self"] (spLAskers CL CA) := ok_laskers FLA B T
  have bLAskers : Binds K dLA ["self"] [] := FLA.binds fun _ _ _ _ _ _ us hl => match us, hl with | [_], _ => rfl
  have GLNames : FnOk P w K mg base CX0 3 fLN dLN ["self"] (spLNames CL CA) := ok_lnames FLN TA FAN T
  have bLNames : Binds K dLN ["self"] [] := FLN.binds fun _ _ _ _ _ _ us hl => match us, hl with | [_], _ => rfl
  have GAMost : FnOk P w K mg base CX0 1 gM dAM ["self"] (spAMost CA) := ok_amost FAM TA
  have bAMost : Binds K dAM ["self"] [] := FAM.binds fun _ _ _ _ _ _ us hl => match us, hl with | [_], _ => rfl
  refine F.ok scAreCounts (fun vs H Q E h => ?_) (fun cdv A outer s H vs Q E hr h => ?_)
  · obtain ⟨a, p, as, ks, ts, ds, rfl, _⟩ := h
    rfl
  · obtain ⟨a, p, as, ks, ts, ds, rfl, hL, hD, hT, hw, nd, l60, q⟩ := h
    refine ⟨_, (pss_cons (ps_if (PW.pt (pw_or (pt_not (pt_val (pe_call GArePairs (hr.mono (by decide)) (by rfl) gArePairs FArePairs.kp bArePairs .nil pass0 (pa_cons (pv 1) pa_nil)))) (pw_or1 (pt_cmpR (op_neD hr.units) (pe_lc (own := [("name", 2), ("_", 3)]) (g := (gTup K 2 (gCons (gName 2) (gCons (gName 3) gNil)))) (tt := tYes) rfl scAreCounts.nd (pi_list (pv 1)) (blkOk_by (own := [("name", 2), ("_", 3)]) (N := NAreCounts) (sc := defScope sAreCounts) (by decide +kernel)) (fun _ _ _ _ _ => (pg_tup rfl (pgs_cons (pg_name (i := 2) scAreCounts.nd rfl (.inl rfl)) (pgs_cons (pg_name (i := 3) scAreCounts.nd rfl (.inl rfl)) pgs_nil)))) (fun _ _ _ _ _ => pts_nil) (fun _ _ _ _ _ => (pv 2))) (pe_meth0 (pv 0) T.ins.cl T.mN GLNames (hr.mono (by decide)) bLNames .nil pass0) (nomark _))))) (pss_one (ps_ret pe_bl)) pss_nil)
      (pss_one (ps_ret (pe_callB (cr_all rfl) (by rfl) B.all (by decide +kernel) (pa_cons (pe_lc (own := [("asker", 4), ("_", 3), ("count", 5)]) (g := (gTup K 2 (gCons (gName 4) (gCons (gTup K 2 (gCons (gName 3) (gCons (gName 5) gNil))) gNil)))) (tt := tYes) rfl scAreCounts.nd (pi_zip (by rfl) B3.zip (pa_cons (pe_meth0 (pv 0) T.ins.cl T.mA GLAskers (hr.mono (by decide)) bLAskers .nil pass0) (pa_cons (pv 1) pa_nil))) (blkOk_by (own := [("asker", 4), ("_", 3), ("count", 5)]) (N := NAreCounts) (sc := defScope sAreCounts) (by decide +kernel)) (fun _ _ _ _ _ => (pg_tup rfl (pgs_cons (pg_name (i := 4) scAreCounts.nd rfl (.inl rfl)) (pgs_cons (pg_tup rfl (pgs_cons (pg_name (i := 3) scAreCounts.nd rfl (.inl rfl)) (pgs_cons (pg_name (i := 5) scAreCounts.nd rfl (.inl rfl)) pgs_nil))) pgs_nil)))) (fun _ _ _ _ _ => pts_nil) (fun _ _ _ _ _ => (pe_cmpR op_le (pv 5) (pe_prop (pv 4) TA.ins.cl TA.pM GAMost (hr.mono (by decide)) bAMost .nil pass0 rfl) (nomark _)))) pa_nil))))), ?_⟩
    have lt : ts.length = ds.length := Paired.length hD.rows
    have ld := hT.len
    refine ⟨.ref p, rfl, p, ts, ds, rfl, hD, fun x hx => ⟨hT.wd hw x hx, hT.lo x hx⟩, by rw [hT.nm]; exact nd, by omega, fun H1 s1 => ⟨true, rfl, iteF ?_⟩⟩
    have hD1 := hD.same s1
    refine ⟨.ref p, rfl, p, rfl, ⟨_, SqL.of hD1.at_⟩, fun E2 hE2 => ?_⟩
    refine lc_foldY walk_refsE (fun i acc _ => acc = ((ds.take i).map (·.1)).map V.str) (by rw [sizeLine_eq]; omega) hE2 rfl (fun G s => SqL.of (s _ _ hD1.at_)) yat_same (fun _ _ _ _ _ _ _ p => p) ?_ ?_
    · rintro i x acc G1 G1' hi sG1 eD1 ⟨rfl, hx⟩ rfl N M hN hM
      obtain ⟨t, ht, rfl⟩ := map_ref_at hx
      obtain ⟨y, hy, ey⟩ := paired_getJ hD1.rows ht
      refine ⟨t, _, rfl, SqT.of (sG1 _ _ ey), rfl, .str y.1, [.int y.2], rfl, .int y.2, [], rfl, rfl, rfl, ?_⟩
      unfold tYes
      show (if true = true then _ else _)
      rw [if_pos rfl]
      refine ⟨.str y.1, rfl, hN _ _ (Same.refl _) ?_⟩
      rw [List.take_add_one, hy]
      simp
    rintro G1 acc sG1 eD1 rfl
    rw [lt, List.take_length] at eD1
    have s2 := s1.trans sG1
    obtain ⟨dx, tl, h1, h2, h3⟩ := id (hL.same s2)
    refine ⟨.ref a, rfl, a, dx, _, rfl, h1, rfl, a, as, ks, rfl, hL.same s2, by omega, fun H3 pn s3 npn epn => ?_⟩
    have hww : ∀ y ∈ ks.map Ask.nm, IsWord y := fun y hy => by
      obtain ⟨k, hk, rfl⟩ := List.mem_map.mp hy
      exact hw k hk
    refine ⟨.list (sts (ds.map (·.1))), .list (sts (ks.map Ask.nm)), dp_sts (SqL.of (s3 _ _ eD1)), dp_sts (SqL.of epn), by rw [hT.nm]; exact shaped_sts hww, shaped_sts hww, _, rfl, ?_⟩
    rw [hT.nm, eqv_same (shaped_sts hww)]
    refine iteF ?_
    have s4 := s2.trans s3
    obtain ⟨dx4, tl4, g1, g2, g3⟩ := id (hL.same s4)
    refine ⟨.ref a, rfl, a, dx4, _, rfl, g1, rfl, a, as, ks, rfl, hL.same s4, fun l nl => ?_⟩
    have s5 := s4.trans (Same.fresh (o := .lst (as.map V.ref)) nl)
    have el : (upd H3 l (.lst (as.map V.ref))) l = some (.lst (as.map V.ref)) := upd_same
    generalize upd H3 l (.lst (as.map V.ref)) = H5 at s5 el
    have hD5 := hD.same s5
    have hL5 := hL.same s5
    obtain ⟨dx5, tl5, k1, k2, k3⟩ := id hL5
    have la : as.length = ks.length := k3.len
    refine ⟨.ref p, rfl, l, p, _, _, rfl, SqL.of el, SqL.of hD5.at_, fun E3 hE3 => ?_⟩
    refine lc_foldY (walk_zip (xs := as.map V.ref) (ys := ts.map V.ref) (n := ks.length) (by rw [List.length_map, List.length_map]; omega)) (fun i acc _ => acc = (List.replicate i true).map V.bl) (by rw [sizeLine_eq]; omega) hE3 rfl (fun G s => ⟨SqL.of (s _ _ el), SqL.of (s _ _ hD5.at_)⟩) ypair_sameT (fun _ _ _ _ _ _ _ p => p) ?_ ?_
    · rintro i x acc G6 G6' hi s6 eD6 ⟨TT, x1, x2, rfl, nT, rfl, hx1, hx2⟩ rfl N M hN hM
      have hx1 : (as.map V.ref)[i]? = some x1 := hx1
      have hx2 : (ts.map V.ref)[i]? = some x2 := hx2
      obtain ⟨b, hb, rfl⟩ := map_ref_at hx1
      obtain ⟨t, ht, rfl⟩ := map_ref_at hx2
      obtain ⟨y, hy, ey⟩ := paired_getJ hD5.rows ht
      obtain ⟨b', hb', hAk⟩ := asks_nth k3 (askI_at hi)
      obtain rfl : b = b' := Option.some.inj (hb.symm.trans hb')
      have s7 := s6.trans (Same.fresh (o := .tup [V.ref b, V.ref t]) nT)
      have hAk7 := hAk.same s7
      obtain ⟨db, fb, Ib⟩ := hAk7.ins
      refine ⟨TT, _, rfl, SqT.of upd_same, rfl, .ref b, [.ref t], rfl, .ref t, [], rfl, t, _, rfl, SqT.of (s7 _ _ ey), rfl, .str y.1, [.int y.2], rfl, .int y.2, [], rfl, rfl, rfl, rfl, ?_⟩
      unfold tYes
      show (if true = true then _ else _)
      rw [if_pos rfl]
      refine ⟨.int y.2, rfl, .ref b, rfl, b, db, fb, rfl, Ib, b, askI ks i, rfl, hAk7, y.2, (askI ks i).m, rfl, rfl, hN _ _ (Same.refl _) ?_⟩
      show (List.replicate i true).map V.bl ++ [V.bl (decide (y.2 ≤ (askI ks i).m))] = _
      rw [decide_eq_true (hT.hi i y hy)]
      exact rep_snoc i
    · rintro G6 acc s6 eD6 rfl
      refine ⟨E3, _, rfl, SqL.of eD6, ?_⟩
      rw [all_rep]
      exact q G6 (s5.trans s6)
end
end Eld
end L2

set_option Elab.async false
set_option linter.all false
set_option maxRecDepth 100000
set_option maxHeartbeats 4000000
/-! ## lists by two clauses -/
namespace L2
namespace Eld
open PySem PySem.Spec PyProof.Rows PySem.EldX
section
variable {prog : Program} {w : World} {A : Around} {R : Result → Shared → Prop} {s : Shared} {elt t0 i0 t1 i1 : Expr} {scope : Scope} {pos : Pos} {it acc : Value} {env : Env}
abbrev lc2 (elt t0 i0 t1 i1 : Expr) (scope : Scope) (pos : Pos) : Expr := .ListComp elt [⟨t0, i0, [], 0⟩, ⟨t1, i1, [], 0⟩] scope pos
abbrev lbodyOut (elt t0 i0 t1 i1 : Expr) (scope : Scope) (pos : Pos) (acc : Value) (env : Env) : Sem Unit := do
  let x ← eval i1 env
  standAt i1.pos
  let x ← foldedSetIterable i1 env x
  let _ ← runOwn (.compStart (lc2 elt t0 i0 t1 i1 scope pos) 1 (← holding [x] (pyIter x)) acc env) env
abbrev lbodyIn (elt : Expr) (acc : Value) (env : Env) : Sem Unit := do
  let v ← eval elt env
  let _ ← call (.builtin "list.append") [acc, v]
theorem lturn_out : compTurn (lc2 elt t0 i0 t1 i1 scope pos) 0 it acc env = clTurn (lc2 elt t0 i0 t1 i1 scope pos) 0 t0 i0 it acc env (lbodyOut elt t0 i0 t1 i1 scope pos acc env) := by
  first
    | rfl
    | (unfold compTurn clTurn lbodyOut
       simp
       refine congrArg _ (funext fun _ => congrArg _ (funext fun r => ?_))
       cases r <;> simp)
theorem lturn_in : compTurn (lc2 elt t0 i0 t1 i1 scope pos) 1 it acc env = clTurn (lc2 elt t0 i0 t1 i1 scope pos) 1 t1 i1 it acc env (lbodyIn elt acc env) := by
  first
    | rfl
    | (unfold compTurn clTurn lbodyIn
       simp
       refine congrArg _ (funext fun _ => congrArg _ (funext fun r => ?_))
       cases r <;> simp)
theorem lc2_start (h1 : codeAny (model prog w) A (.compLoop (lc2 elt t0 i0 t1 i1 scope pos) 1 it acc env) R s)
    (h2 : wpAny (model prog w) A (pyIter it) (fun it' s' => codeAny (model prog w) A (.compLoop (lc2 elt t0 i0 t1 i1 scope pos) 1 it' acc env) R s') noE s) :
    codeAny (model prog w) A (.compStart (lc2 elt t0 i0 t1 i1 scope pos) 1 it acc env) R s := by
  refine codeAny_of_tree ?_
  show wpAny _ _ ((compStart (lc2 elt t0 i0 t1 i1 scope pos) 1 it acc env).onRaise (fun x => do noteFrame x env; standAt theWindowsPlace)) _ _ s
  refine wpAny_notedAt ?_
  unfold compStart
  show wpAny _ _ (ask >>= _) _ _ s
  refine wpAny_bind (wpAny_askSetting (wpAny_ite ?_))
  split
  · first
      | exact wpAny_pure (And.intro rfl h1)
      | exact wpAny_bind (wpAny_pure (wpAny_pure (And.intro rfl h1)))
  · refine wpAny_bind (wpAny_rule ?_)
    show wpAny _ _ (standAt i1.pos >>= _) _ _ s
    exact wpAny_bind (wpAny_standAt (wpAny_bind (thnF h2 fun it' s' h' => wpAny_pure (And.intro rfl h'))))
end
/-- [elt for tg in iter for tg1 in iter1]; vs the block's names, vs1 those of the second target -/
def tLc2 (wi : TI) (g : TG) (wi1 : TI) (g1 : TG) (te : TE) (vs vs1 : List Nat) : TE := fun σ H Q => wi σ H fun J H1 => ∀ D, H1 D = none →
  ∃ W : Nat → Nat → Hp → Prop, (∃ m, W 0 m (upd H1 D (.lst []))) ∧ ∀ i m G, W i m G → (J.stop i G ∧ Q (.ref D) G) ∨ (J.go i G ∧
    ∃ Nx : Hp → Prop, (∀ G', Nx G' → ∃ m', m' < m ∧ W (i + 1) m' G') ∧ ∀ x G', J.yld i G x G' → g x (wipe σ vs) G' fun σ2 H2 => wipe σ2 vs = wipe σ vs ∧ wi1 σ2 H2 fun J1 H4 =>
      ∃ W1 : Nat → Nat → Hp → Prop, (∃ m, W1 0 m H4) ∧ ∀ j k G, W1 j k G → (J1.stop j G ∧ Nx G) ∨ (J1.go j G ∧
        ∃ Nx1 : Hp → Prop, (∀ G', Nx1 G' → ∃ k', k' < k ∧ W1 (j + 1) k' G') ∧ ∀ x G', J1.yld j G x G' → g1 x (wipe σ2 vs1) G' fun σ3 H5 => wipe σ3 vs1 = wipe σ2 vs1 ∧ te σ3 H5 fun y H6 =>
          ∃ acc, H6 D = some (.lst acc) ∧ acc.length < sizeLine ∧ Nx1 (upd H6 D (.lst (acc ++ [y])))))
section
variable {X : Cx}
theorem lc2_core {pins : List (Addr × Obj)} {s : Shared} {σ : St} {H : Hp} {Q : VK} {elt tg iter tg1 iter1 : Expr} {scope : Scope} {own : List (Str × Nat)} {vs1 : List Nat} {pos pos' : Pos} {wi wi1 : TI} {g g1 : TG} {te : TE} {use : Option (Value → Sem Unit)} {Qf : Value → Shared → Prop}
    (hc : X.calm = true) (hN : X.N.Nodup) (I : Inv X pins σ H s) (hi : PI X tg iter wi) (ok : BlkOk X.N X.env.scope scope own) (hv : ∀ i ∈ vs1, i ∈ own.map (·.2))
    (hg : ∀ (s : Shared) (H : Hp) (C : Addr) (cl : List (Str × Addr)) (fp : List Addr), PG (X.blk s H scope (compEnvC scope cl C X.env) fp) tg g)
    (hi1 : ∀ (s : Shared) (H : Hp) (C : Addr) (cl : List (Str × Addr)) (fp : List Addr), PI (X.blk s H scope (compEnvC scope cl C X.env) fp) tg1 iter1 wi1)
    (hg1 : ∀ (s : Shared) (H : Hp) (C : Addr) (cl : List (Str × Addr)) (fp : List Addr), PG (X.blk s H scope (compEnvC scope cl C X.env) fp) tg1 g1)
    (he : ∀ (s : Shared) (H : Hp) (C : Addr) (cl : List (Str × Addr)) (fp : List Addr), PE (X.blk s H scope (compEnvC scope cl C X.env) fp) elt te)
    (hs : ∀ x, foldedSetIterable iter X.env x = pure x) (hs1 : ∀ env x, foldedSetIterable iter1 env x = pure x)
    (h : tLc2 wi g wi1 g1 te (own.map (·.2)) vs1 σ H Q)
    (hRR : ∀ D C s' m H', Inv X pins σ H' s' → Q (.ref D) H' → s'.heap.Ns C m → FpOk X pins H' C → compPost (model X.prog X.w) X.A X.xe use Qf (.ref D) C (.ok .next) s') :
    wpAny (model X.prog X.w) X.A (comprehension (lc2 elt tg iter tg1 iter1 scope pos) scope X.env pos' (newList []) false (eval iter X.env) use) Qf X.xe s := by
  have hfree : ∀ y ∈ scope.names, y.2 = .free → ∃ c, X.env.cells.lookup y.1 = some c := fun y hy e => by
    rcases ok.free y hy e with k | k
    · exact I.ok.has _ (.inl k)
    · exact I.ok.has _ (.inr k)
  refine wpAny_comprehension_free (use := use) rfl hs (closure_ok hfree) ok.kind (fun y hy e => by rw [ok.uniq y hy, e])
    (thn (hi.run pins s σ H _ I h) fun xv s1 hx => thn hx fun itv s2 h2 => ?_)
  obtain ⟨it, fp, tn, J, H2, e, I2, T, t2, f2, q⟩ := h2
  subst e
  refine wpAny_newObj_type (newEnv_comp ?_) (by show 0 ≤ sizeLine; decide)
  generalize hD : s2.heap.objs.size = D
  have hDn : H2 D = none := I2.hok.fresh (Nat.le_of_eq hD)
  obtain ⟨W, ⟨m0, w0⟩, step⟩ := q D hDn
  -- the new list
  generalize hs3 : ({ s2 with heap := s2.heap.push { cls := .type "list", data := .seq ([] : List Value).toArray } } : Shared) = s3
  have I3 : Inv X pins σ (upd H2 D (.lst [])) s3 := by
    rw [← hs3]
    refine I2.laid (t' := s2.toks) (fun b o e => Heap.get?_push_of_some _ e) (Nat.le_of_eq hD) ⟨Nat.zero_le _, [], 0, .nil, ?_⟩
    rw [← hD]
    exact Heap.get?_push_size _ rfl
  have h3 : s3.heap = s2.heap.push { cls := .type "list", data := .seq ([] : List Value).toArray } := by rw [← hs3]
  have sz : ∀ b ∈ fp, b < s2.heap.objs.size := fun b hb => by
    obtain ⟨o, e, _⟩ := T.obj _ _ t2 b hb
    exact Heap.lt_size e
  have fp3 : ∀ b ∈ fp, FpOk X pins (upd H2 D (.lst [])) b ∧ b < s3.heap.objs.size := fun b hb => by
    have hlt := sz b hb
    refine ⟨⟨?_, (f2 b hb).2⟩, by rw [h3, Heap.size_push]; exact Nat.lt_succ_of_lt hlt⟩
    rw [upd_ne (by rw [← hD]; exact Nat.ne_of_lt hlt)]
    exact (f2 b hb).1
  have t3 : tn 0 s3.heap := T.keep _ _ _ t2 fun b _ o e => by rw [h3]; exact Heap.get?_push_of_some _ e
  generalize hH3 : upd H2 D (.lst []) = H3 at w0 I3 fp3
  have I4 := block_start I3 ok hN fp3
  have pg := hg s3 H3 s3.heap.objs.size (cellsFrom (s3.heap.objs.size + 1) scope.names (cloFrom X.env.cells scope.names [])) fp
  have pe := he s3 H3 s3.heap.objs.size (cellsFrom (s3.heap.objs.size + 1) scope.names (cloFrom X.env.cells scope.names [])) fp
  have pi1 := hi1 s3 H3 s3.heap.objs.size (cellsFrom (s3.heap.objs.size + 1) scope.names (cloFrom X.env.cells scope.names [])) fp
  have pg1 := hg1 s3 H3 s3.heap.objs.size (cellsFrom (s3.heap.objs.size + 1) scope.names (cloFrom X.env.cells scope.names [])) fp
  show codeAny _ _ (.compStart (lc2 elt tg iter tg1 iter1 scope pos) 0 (.ref it) (.ref D) (compEnvC scope (cellsFrom (s3.heap.objs.size + 1) scope.names (cloFrom X.env.cells scope.names [])) s3.heap.objs.size X.env)) (compPost (model X.prog X.w) X.A X.xe use Qf (.ref D) s3.heap.objs.size) { s3 with heap := pushCells (s3.heap.push { cls := .type "dict", data := .dict #[] }) scope.names }
  generalize hce : compEnvC scope (cellsFrom (s3.heap.objs.size + 1) scope.names (cloFrom X.env.cells scope.names [])) s3.heap.objs.size X.env = ce at I4 pg pe pi1 pg1 ⊢
  have cL : ce.locals = s3.heap.objs.size := by rw [← hce]; rfl
  generalize hs4 : ({ s3 with heap := pushCells (s3.heap.push { cls := .type "dict", data := .dict #[] }) scope.names } : Shared) = s4 at I4 ⊢
  have t4 : tn 0 s4.heap := T.keep _ _ _ t3 fun b _ o e => by rw [← hs4]; exact pushCells_keeps _ _ _ _ (Heap.get?_push_of_some _ e)
  have inblk : ∀ (σ' : St) (G : Hp) (s' : Shared), Inv (X.blk s3 H3 scope ce fp) [] σ' G s' → (∀ b ∈ fp, G b = none) → ∀ b ∈ fp, FpOk (X.blk s3 H3 scope ce fp) [] G b := fun σ' G s' IG hn b hb =>
    ⟨hn b hb, (IG.ok.exf b hb).1, IG.ok.exfs b hb, .inl hb, fun x c e => (IG.ok.exf b hb).2 x c e, fun p hp => absurd (show p ∈ ([] : List (Addr × Obj)) ++ [] from hp) (by simp)⟩
  have loop : codeAny (model X.prog X.w) X.A (.compLoop (lc2 elt tg iter tg1 iter1 scope pos) 0 (.ref it) (.ref D) ce) (compPost (model X.prog X.w) X.A X.xe use Qf (.ref D) s3.heap.objs.size) s4 := by
    refine cl_run (X := X.blk s3 H3 scope ce fp) (W := W) (σ := wipe σ (own.map (·.2))) (Done := fun G => Q (.ref D) G) (fun _ _ z => z) rfl rfl rfl lturn_out hc T pg inblk (fun i m G wG => ?_) (fun G s' IG d => ?_) I4 t4 (fun b hb => (fp3 b hb).1.1) w0
    · rcases step i m G wG with ⟨stop, d⟩ | ⟨go, Nx, hNx, st⟩
      · exact .inl ⟨stop, d⟩
      · refine .inr ⟨go, Nx, hNx, fun x G' y => ?_⟩
        refine ⟨_, st x G' y, fun σ2 H5 ⟨hw, hw1⟩ => ?_⟩
        intro more s5 I5
        refine wpAny_bind (thnF (pi1.run _ s5 σ2 H5 _ I5 hw1) fun xv s6 h6 => ?_)
        refine wpAny_bind (wpAny_standAt (wpAny_bind (wpAny_of_eq (hs1 ce xv) (wpAny_bind (wpAny_holding (thnF h6 fun itv s7 h7 => ?_))))))
        obtain ⟨it1, fp1, tn1, J1, H7, rfl, I7, T1, t7, f7, W1, ⟨m1, w1⟩, step1⟩ := h7
        have kn : Knows (wipe σ (own.map (·.2))) (wipe σ2 vs1) := Knows.sub hw hv
        have inner : codeAny (model X.prog X.w) X.A (.compLoop (lc2 elt tg iter tg1 iter1 scope pos) 1 (.ref it1) (.ref D) ce) (fun r s' => ∃ f, r = .ok f ∧ ∃ σ3 G3, Inv (X.blk s3 H3 scope ce fp) ([] ++ more) σ3 G3 s' ∧ Knows (wipe σ (own.map (·.2))) σ3 ∧ Nx G3) s7 := by
          refine cl_run (X := X.blk s3 H3 scope ce fp) (W := W1) (σ := wipe σ2 vs1) (Done := Nx) (fun _ _ z => z) rfl rfl rfl lturn_in hc T1 pg1 (fun σ' G s' IG hn b hb => ⟨hn b hb, (f7 b hb).2⟩) (fun j k G wG => ?_) (fun G s' IG d => ⟨_, rfl, _, G, IG, kn, d⟩) (I7.weak (wipe_length _ _) fun j v e => (wipe_some e).1) t7 (fun b hb => (f7 b hb).1) w1
          rcases step1 j k G wG with ⟨stop, d⟩ | ⟨go, Nx1, hNx1, st1⟩
          · exact .inl ⟨stop, d⟩
          · refine .inr ⟨go, Nx1, hNx1, fun x G' y => ?_⟩
            refine ⟨_, st1 x G' y, fun σ3 H8 ⟨hw3, q3⟩ => ?_⟩
            intro more1 s8 I8
            refine wpAny_bind (thnF (pe.run _ s8 σ3 H8 _ I8 q3) fun v s9 ⟨yv, H9, I9, ry, acc, hS, room, nx⟩ => ?_)
            refine wpAny_bind (app_ok (X := X.blk s3 H3 scope ce fp) I9 hS room ry fun s10 I10 => ?_)
            exact wpAny_pure ⟨σ3, _, I10, Knows.back hw3, nx⟩
        refine wpAny_bind (wpAny_runOwn ?_)
        rw [Around.mark_none]
        refine codeAny_mono (lc2_start inner (T1.self X.A 0 _ _ _ t7 inner)) fun r s' hr => ?_
        obtain ⟨f, rfl, fin⟩ := hr
        first
          | exact wpAny_pure fin
          | exact wpAny_pure (wpAny_pure fin)
          | exact wpAny_bind (wpAny_pure (wpAny_pure fin))
    · -- the block ends: back to the def
      have back : Inv X pins σ G s' := I3.call' (ch := fp) IG.os IG.base IG.hok IG.bare fun b hb => ⟨(fp3 b hb).1.2.2.2.1, (fp3 b hb).1.2.1, (fp3 b hb).1.2.2.2.2.1, (fp3 b hb).1.2.2.2.2.2⟩
      have gone : G s3.heap.objs.size = none := by
        have z : G ce.locals = none := IG.free
        rwa [cL] at z
      obtain ⟨mm, ns, _⟩ := IG.loc
      have ns : s'.heap.Ns ce.locals mm := ns
      rw [cL] at ns
      exact hRR D s3.heap.objs.size s' mm G back d ns (I3.fpOk (Nat.le_refl _) gone)
  exact codeAny_compStart_list loop (T.self X.A 0 _ _ _ t4 loop)
theorem ps_setLc2 {i : Nat} {y : Str} {py : Pos} {elt tg iter tg1 iter1 : Expr} {scope : Scope} {own : List (Str × Nat)} {vs1 : List Nat} {pos spos : Pos} {wi wi1 : TI} {g g1 : TG} {te : TE} (hc : X.calm = true) (hN : X.N.Nodup) (hy : X.N[i]? = some y) (hyl : X.env.scope.names.lookup y = some .local)
    (hsw : swapsWith (lc2 elt tg iter tg1 iter1 scope pos) (some (.Name y py)) spos.line X.env = pure true) (hi : PI X tg iter wi) (ok : BlkOk X.N X.env.scope scope own) (hv : ∀ i ∈ vs1, i ∈ own.map (·.2))
    (hg : ∀ (s : Shared) (H : Hp) (C : Addr) (cl : List (Str × Addr)) (fp : List Addr), PG (X.blk s H scope (compEnvC scope cl C X.env) fp) tg g) 
    (hi1 : ∀ (s : Shared) (H : Hp) (C : Addr) (cl : List (Str × Addr)) (fp : List Addr), PI (X.blk s H scope (compEnvC scope cl C X.env) fp) tg1 iter1 wi1)
    (hg1 : ∀ (s : Shared) (H : Hp) (C : Addr) (cl : List (Str × Addr)) (fp : List Addr), PG (X.blk s H scope (compEnvC scope cl C X.env) fp) tg1 g1)
    (he : ∀ (s : Shared) (H : Hp) (C : Addr) (cl : List (Str × Addr)) (fp : List Addr), PE (X.blk s H scope (compEnvC scope cl C X.env) fp) elt te) (hs : ∀ x, foldedSetIterable iter X.env x = pure x := by intro _; rfl) (hs1 : ∀ env x, foldedSetIterable iter1 env x = pure x := by intro _ _; rfl) :
    _root_.L2.PS X (.Assign [.Name y py] (lc2 elt tg iter tg1 iter1 scope pos) spos) (tAsg (tLc2 wi g wi1 g1 te (own.map (·.2)) vs1) (gName i)) := by
  refine ⟨fun pins s σ H D I h => ?_⟩
  rw [exec_Assign_Name_used _ _ _ _ hsw]
  refine wpAny_bind (wpAny_standAt (wpAny_bind ?_))
  show wpAny _ X.A (do let _ ← comprehension (lc2 elt tg iter tg1 iter1 scope pos) scope X.env (firstIterPos [⟨tg, iter, [], 0⟩, ⟨tg1, iter1, [], 0⟩] pos) (newList []) false (eval iter X.env) (some (assign (.Name y py) X.env))) _ _ s
  have h : tLc2 wi g wi1 g1 te (own.map (·.2)) vs1 σ H (fun x H1 => gName i x σ H1 D.nx) := h
  refine wpAny_bind (thn (lc2_core (Qf := fun _ s' => SP X pins D .next s') hc hN I hi ok hv hg hi1 hg1 he hs hs1 h fun L C s' m H' I' q hn f => ?_) fun _ s' hq => wpAny_pure (wpAny_pure hq))
  show wpAny _ _ (assign (.Name y py) X.env (.ref L)) _ _ _
  refine wpAny_assign_Name (store_ok2 (v := V.ref L) I' hN hy (.inl hyl) rfl (fun s2 I2 ⟨a, sb, ha⟩ => ?_) (.inr hyl))
  obtain ⟨f0, f1, f2, f3, f4, f5⟩ := f
  have haC : C ≠ a := by
    rcases ha with z | z
    · rw [z]; exact f1
    · exact fun e => f4 y a z e.symm
  refine ⟨m, hn.sameBut sb haC, fun h3 sb3 => ?_⟩
  exact ⟨_, H', I2.turned (t' := s2.toks) (fun b o hb e => (sb3.2 b hb).trans e) f0 f1 f3 f4 f5, q⟩
end
end Eld
end L2

set_option Elab.async false
set_option linter.all false
set_option maxRecDepth 100000
set_option maxHeartbeats 4000000
/-! ## the greatest of rows of counts; sorted sets of one; sorted entries -/
namespace PySem.EldX3
open PySem PySem.W PySem.Spec PyProof.Rows
section
variable {prog : Program} {w : World} {A : Around} {E : Value → Shared → Prop} {s : Shared}
/-- max of a list of alike data: where it stands -/
theorem max_list_at {l : Addr} {vs : Array Value} {x : PyData} {xs : List PyData} {as : List Addr} {Q : Value → Shared → Prop} (hh : A.handled = none) (hl : s.heap.IsList l vs) (hr : ReadsAll s.heap vs.toList (x :: xs) as) (ha : AlikeAll (x :: xs)) (hu : A.units + 1 + PyData.depthAll (x :: xs) < cLine)
    (h : ∀ (i : Nat) v h' tk, vs[i]? = some v → (x :: xs).getD i .none = maxD x xs → (∀ b o, s.heap.get? b = some o → h'.get? b = some o) → Q v { s with heap := h', toks := tk }) :
    wpAny (model prog w) A (call (.builtin "max") [.ref l]) Q E s := by
  have hn : vs.size = xs.length + 1 := readsAll_len hr
  refine call_max_walkH (iter_listW (A := A.in1) hh hl fun s₂ e W st hfp hw hk => ?_)
  refine ⟨_, _, _, _, _, _, _, s.heap, _, rfl, W, st, hfp, by omega, hw, hk, cmpIn_gt (A := A.in1) hr ha (by show A.units + 1 + _ < _; exact hu), fun v s' hP m => ?_⟩
  obtain ⟨h', tk, rfl, hk'⟩ := moved_old e rfl m
  have e1 : vs.size - 1 = xs.length := by omega
  have e2 := (argBest_fold (fun a b => dataLt b a) PyData.none x xs xs.length (Nat.le_refl _)).2
  rw [List.take_length] at e2
  exact h _ v h' tk hP (by rw [e1]; unfold maxD; exact e2) hk'
/-- list.sort of one item or none -/
theorem sort_one {a : Addr} {vs : List Value} {n : Nat} {Q : Value → Shared → Prop} (ho : s.heap.get? a = some (seqObj "list" vs.toArray n)) (h1 : vs.length ≤ 1)
    (h : ∀ out : Array Value, out.toList.Perm vs → Q .none { s with heap := sortedHeap s.heap a vs out }) :
    wpAny (model prog w) A (call (.builtin "list.sort") [.ref a]) Q E s :=
  wpAny_call_entry slot_list_sort ⟨_, ho, rfl⟩ entry_list_sort (SK.plain_sort (r := fun _ => 0) ho (by omega) (fun h2 => absurd h2 (by omega)) fun ps out a1 a2 a3 => ⟨_, rfl, h out (TS.out_rank (r := fun _ => 0) a1 a2 a3).1⟩) (args_list_sort _)
end
end PySem.EldX3
namespace L2
open PySem PySem.Spec PyProof.Rows
section
variable {P : Program} {w : World} {A : Around} {E : Value → Shared → Prop} {s : Shared}
theorem sorted_set1 {a : Addr} {L : List (Addr × List Int)} {es : Array (Int × Value)} {ep : Nat} {t : SetTable} {Q : Value → Shared → Prop} (R : SetTR P w s.heap a L es ep t) (hh : A.handled = none) (h1 : L.length ≤ 1)
    (hQ : ∀ s' p (out : Array Value) (c : Nat), (∀ b o, s.heap.get? b = some o → s'.heap.get? b = some o) → s'.gens = s.gens → s'.os = s.os → s.heap.objs.size ≤ p →
      s'.heap.get? p = some (seqObj "list" out c) → out.toList = L.map (fun q => Value.ref q.1) → Q (.ref p) s') :
    wpAny (model P w) A (call (.builtin "sorted") [.ref a]) Q E s := by
  obtain ⟨o, ho, hex, hd⟩ := R.ob
  have hsz := R.size
  have hfew := R.few
  refine Calls.call_function_entry kind_sorted plain_sorted entry_sorted (args_sorted1 _) ?_
  unfold Builtin.«sorted»
  refine wpAny_bind (m := checkCount "sorted" 1 1 _) (wpAny_pure ?_)
  refine wpAny_bind (collect_set (A := A.in1) hh ⟨o, ho, hex.1, hd⟩ R.fits (by unfold scanBound; omega) R.tab.ris R.led fun s1 vs k1 hz g1 o1 pm => ?_)
  have hes : es.toList.map (·.2) = L.map fun q => Value.ref q.1 := by
    rw [R.rows]
    unfold rowsOf
    rw [List.map_map] <;> rfl
  rw [hes] at pm
  have hvl : vs.length ≤ 1 := by rw [pm.length_eq, List.length_map]; exact h1
  refine wpAny_bind (wpAny_newList ?_ (by rw [sizeLine_eq]; omega))
  have hoL : (s1.heap.push (seqObj "list" vs.toArray 0)).get? s1.heap.objs.size = some (seqObj "list" vs.toArray 0) := Heap.get?_push_size _ rfl
  refine wpAny_bind (wpAny_holding (PySem.EldX3.sort_one (s := { s1 with heap := s1.heap.push (seqObj "list" vs.toArray 0) }) hoL hvl fun out a1 => ?_))
  obtain ⟨c, hc⟩ := sortedHeap_at (vs := vs) (out := out) hoL
  have e : out.toList = L.map fun q => Value.ref q.1 := by
    have p := a1.trans pm
    match L, h1, p with
    | [], _, p => exact p.eq_nil
    | [q], _, p => exact List.perm_singleton.mp p
  refine wpAny_pure ⟨_, rfl, hQ _ s1.heap.objs.size out c (fun b u e => ?_) g1 o1 hz hc e⟩
  have q := k1 b u e
  have hlt := Heap.lt_size q
  show (sortedHeap (s1.heap.push (seqObj "list" vs.toArray 0)) s1.heap.objs.size vs out).get? b = some u
  rw [sortedHeap_old (Nat.ne_of_lt hlt) (by rw [size_push']; exact Nat.lt_succ_of_lt hlt)]
  exact Heap.get?_push_of_some _ q
end
section
variable {X : Cx}
def rSorted1 (K : PySem.W.Frag) (P : Program) (w : World) : List V → Hp → VK → Prop := fun vs H Q => ∃ (a : Addr) (L : List (Addr × List Int)), vs = [V.ref a] ∧ H a = some (SetTO P w a L) ∧ (∀ p ∈ L, SqT K H p.1 (p.2.map V.int)) ∧ (∀ p ∈ L, p.2 = []) ∧
  ∀ (p : Addr), (L.map (·.2)).Nodup → L.length < 64 → H p = none → Q (.ref p) (upd H p (.lst (L.map fun q => V.ref q.1)))
theorem cr_sorted1 (hc : X.calm = true) : CallR X (.builtin "sorted") (rSorted1 X.K X.prog X.w) := by
  intro pins s σ H vs us Q I r h
  obtain ⟨a, L, rfl, ha, hk, h0, q⟩ := h
  have R0 : SetT0 X.prog X.w s.heap a L := (I.hok a _ ha).1
  obtain ⟨es, ep, t, R⟩ := R0.full fun p hp => I.isT (hk p hp)
  rw [Vals.ref1 r]
  have h1 : L.length ≤ 1 := by
    have nd := R.nd
    match L, h0, nd with
    | [], _, _ => exact Nat.zero_le _
    | [_], _, _ => exact Nat.le_refl _
    | p :: p' :: L, h0, nd =>
      have e1 := h0 p List.mem_cons_self
      have e2 := h0 p' (List.mem_cons_of_mem _ List.mem_cons_self)
      rw [List.map_cons, List.map_cons, e1, e2, List.nodup_cons] at nd
      exact absurd List.mem_cons_self nd.1
  refine sorted_set1 R (I.ok.hd hc) h1 fun s' p out c k g o hp hg hout => ?_
  have hlen : (L.map fun q => V.ref q.1).length ≤ sizeLine := by rw [List.length_map, sizeLine_eq]; omega
  have hn : H p = none := I.hok.fresh hp
  have hv : Vals (L.map fun q => V.ref q.1) out.toList := by rw [hout]; exact vals_of_refs L
  have J : Inv X pins σ (upd H p (.lst (L.map fun q => V.ref q.1))) { s with heap := s'.heap, gens := s'.gens, drawn := s'.drawn, toks := s'.toks } :=
    I.call (ch := []) (Un.laid k hp hn) (I.hok.laid k hp ⟨hlen, out.toList, c, hv, hg⟩) (by rw [g]; exact I.bare) (fun _ z => nomatch z)
  have e : s' = { s with heap := s'.heap, gens := s'.gens, drawn := s'.drawn, toks := s'.toks } := by
    cases s'
    cases s
    cases o
    rfl
  rw [e]
  exact ⟨.ref p, _, J, rfl, q p R.nd R.few hn⟩
/-- sorted of a set of tuples of ints, all as long as one another -/
def rSortedB (K : PySem.W.Frag) (P : Program) (w : World) : List V → Hp → VK → Prop := fun vs H Q => ∃ (a : Addr) (L : List (Addr × List Int)), vs = [V.ref a] ∧ H a = some (SetTO P w a L) ∧ (∀ p ∈ L, SqT K H p.1 (p.2.map V.int)) ∧ ((∀ p ∈ L, p.2 = []) ∨ ∃ (d : Nat) (B : Int), 1 ≤ d ∧ ∀ p ∈ L, p.2.length = d ∧ TS.Bd B p.2) ∧
  ∀ (L' : List (Addr × List Int)) (p : Addr), L'.Perm L → (L'.map (·.2)).Nodup → L'.length < 64 → H p = none → Q (.ref p) (upd H p (.lst (L'.map fun q => V.ref q.1)))
theorem cr_sortedB (hc : X.calm = true) : CallR X (.builtin "sorted") (rSortedB X.K X.prog X.w) := by
  intro pins s σ H vs us Q I r h
  obtain ⟨a, L, rfl, ha, hk, h0 | ⟨d, B, hd, hB⟩, q⟩ := h
  · exact cr_sorted1 hc pins s σ H _ us Q I r ⟨a, L, rfl, ha, hk, h0, fun p h1 h2 h3 => q L p (List.Perm.refl _) h1 h2 h3⟩
  · exact cr_sortedT hc pins s σ H _ us Q I r ⟨a, L, d, B, rfl, ha, hk, hd, hB, fun L' p h1 h2 h3 _ h4 => q L' p h1 h2 h3 h4⟩
end
end L2
namespace L2
namespace Eld
open PySem PySem.Spec PySem.W PyProof.Rows PySem.EldX
/-! ### sorted entries -/
def enc3 (b : Str × Str × Int) : PyData := .tuple [.str b.1, .str b.2.1, .int b.2.2]
section
variable {X : Cx}
theorem each3 {pins : List (Addr × Obj)} {σ : St} {H : Hp} {s : Shared} (I : Inv X pins σ H s) : ∀ {xs : List V} {us : List Value}, Vals xs us → (∀ x ∈ xs, ∃ (t : Addr) (b : Str × Str × Int), x = .ref t ∧ H t = some (.tup [.str b.1, .str b.2.1, .int b.2.2])) →
    ∃ bs : List (Str × Str × Int), bs.length = xs.length ∧ EachIs (fun v _ => ∃ a, v = Value.ref a) us bs ∧ EachIs (fun v b => ∃ as, Reads s.heap v (enc3 b) as) us bs
  | [], _, .nil, _ => ⟨[], rfl, .nil, .nil⟩
  | x :: xs, _, .cons r t, h => by
    obtain ⟨ta, b, rfl, hb⟩ := h x List.mem_cons_self
    obtain ⟨bs, l, e1, e2⟩ := each3 I t fun y hy => h y (List.mem_cons_of_mem _ hy)
    have rd := Dp.reads I (enc3 b) _ _ (.tup (SqT.of hb) (.cons (.str _) (.cons (.str _) (.cons (.int _) .nil)))) r
    cases r
    exact ⟨b :: bs, by simp [l], .cons ⟨_, rfl⟩ e1, .cons rd e2⟩
theorem alike3 (b b' : Str × Str × Int) : PySem.W.alike (enc3 b) (enc3 b') = true := rfl
theorem each_refs : ∀ {out : List Value} {bs : List (Str × Str × Int)}, EachIs (fun v _ => ∃ a, v = Value.ref a) out bs → ∀ u ∈ out, ∃ a, u = Value.ref a
  | _, _, .nil, u, hu => by cases hu
  | _, _, .cons h t, u, hu => by
    rcases List.mem_cons.mp hu with rfl | hu
    · exact h
    · exact each_refs t u hu
def rSorted3 (K : PySem.W.Frag) : List V → Hp → VK → Prop := fun vs H Q => ∃ (a : Addr) (xs : List V), vs = [V.ref a] ∧ SqL K H a xs ∧ (∀ x ∈ xs, ∃ (t : Addr) (b : Str × Str × Int), x = .ref t ∧ H t = some (.tup [.str b.1, .str b.2.1, .int b.2.2])) ∧ ∀ (p : Addr) (ys : List V), H p = none → Q (.ref p) (upd H p (.lst ys))
theorem cr_sorted3 (hu : X.A.units + 64 < cLine) : CallR X (.builtin "sorted") (rSorted3 X.K) := by
  intro pins s σ H vs us Q I r h
  obtain ⟨a, xs, rfl, hs, hx, q⟩ := h
  obtain ⟨its, rv, hl, hz⟩ := I.list hs
  rw [Vals.ref1 r]
  obtain ⟨bs, lb, e1, e2⟩ := each3 I rv hx
  refine sorted_data (enc := enc3) hl.isList e1 e2 (AllAlike.of alike3) (Sortable.tuples fun b => ⟨_, _, rfl⟩) (by rw [lb]; exact hz) (fun b _ => ?_) fun out h1 h2 => ?_
  · have : (enc3 b).depth ≤ 4 := by simp [enc3, PyData.depth, PyData.depthAll]
    omega
  · obtain ⟨ep, he'⟩ := PyProof.Rows.sortedAll_at s.heap its out.toArray
    have h3 := each_refs h2
    have hlen : (out.map bkV).length ≤ sizeLine := by
      rw [List.length_map, h1, lb]
      exact hz
    refine ⟨.ref _, upd H (s.heap.objs.size + 1) (.lst (out.map bkV)), I.laid (t' := s.toks) (fun _ _ => PyProof.Rows.sortedAll_old) (Nat.le_succ _) ⟨hlen, out, ep, bkV_vals h3, ?_⟩, rfl, q _ _ (I.hok.fresh (Nat.le_succ _))⟩
    simpa using he'
/-! ### the greatest of rows of counts -/
def encL (c : List Int) : PyData := .list (c.map .int)
theorem encL_lt (a b : List Int) : dataLt (encL a) (encL b) = decide (a < b) := by
  unfold encL
  rw [dataLt_list]
  exact dataLt_ints a b
theorem encL_inj {a b : List Int} (h : encL a = encL b) : a = b := by
  have h : a.map PyData.int = b.map PyData.int := by
    unfold encL at h
    exact PyData.list.inj h
  induction a generalizing b with
  | nil =>
    cases b with
    | nil => rfl
    | cons y b => cases h
  | cons x a ih =>
    cases b with
    | nil => cases h
    | cons y b =>
      have h1 := List.cons.inj h
      rw [PyData.int.inj h1.1, ih (by unfold encL; rw [h1.2]) h1.2]
theorem maxL_spec : ∀ (cs : List (List Int)) (c : List Int), ∃ M, maxD (encL c) (cs.map encL) = encL M ∧ (M = c ∨ M ∈ cs) ∧ ¬ M < c ∧ ∀ y ∈ cs, ¬ M < y
  | [], c => ⟨c, rfl, .inl rfl, List.lt_irrefl c, fun y hy => nomatch hy⟩
  | y :: cs, c => by
    have e : maxD (encL c) ((y :: cs).map encL) = maxD (if c < y then encL y else encL c) (cs.map encL) := by
      unfold maxD
      rw [List.map_cons, List.foldl_cons, encL_lt]
      by_cases q : c < y
      · simp [q]
      · simp [q]
    by_cases q : c < y
    · rw [if_pos q] at e
      obtain ⟨M, h1, h2, h3, h4⟩ := maxL_spec cs y
      refine ⟨M, e.trans h1, .inr (h2.elim (fun z => z ▸ List.mem_cons_self) fun z => List.mem_cons_of_mem _ z), fun z => h3 (List.lt_trans z q), fun u hu => ?_⟩
      rcases List.mem_cons.mp hu with rfl | hu
      · exact h3
      · exact h4 u hu
    · rw [if_neg q] at e
      obtain ⟨M, h1, h2, h3, h4⟩ := maxL_spec cs c
      refine ⟨M, e.trans h1, h2.elim .inl fun z => .inr (List.mem_cons_of_mem _ z), h3, fun u hu => ?_⟩
      rcases List.mem_cons.mp hu with rfl | hu
      · exact fun z => (List.le_trans (List.not_lt.mp q) (List.not_lt.mp h3)) z
      · exact h4 u hu
theorem dp_intsQ {K : PySem.W.Frag} {H : Hp} : ∀ c : List Int, DpAll K H (c.map V.int) (c.map .int)
  | [] => .nil
  | x :: c => .cons (.int _) (dp_intsQ c)
theorem alikeL (a b : List Int) : PySem.W.alike (encL a) (encL b) = true := alike_ints a b
theorem depthL : ∀ cs : List (List Int), PyData.depthAll (cs.map encL) ≤ 4
  | [] => by simp [PyData.depthAll]
  | c :: cs => by
    have := depthL cs
    have e : (encL c).depth ≤ 4 := by
      have := depth_ints c
      unfold encL
      simp only [PyData.depth]
      omega
    simp only [List.map_cons, PyData.depthAll]
    omega
theorem dp_rowsL {K : PySem.W.Frag} {H : Hp} {rs : List Addr} {cs : List (List Int)} (h : Paired (fun (r : Addr) (c : List Int) => H r = some (.lst (c.map V.int))) rs cs) : DpAll K H (rs.map V.ref) (cs.map encL) := by
  induction h with
  | nil => exact .nil
  | cons q _ ih => exact .cons (.lst (SqL.of q) (dp_intsQ _)) ih
def rMaxL (K : PySem.W.Frag) : List V → Hp → VK → Prop := fun vs H Q => ∃ (a : Addr) (rs : List Addr) (cs : List (List Int)), vs = [V.ref a] ∧ SqL K H a (rs.map V.ref) ∧ Paired (fun (r : Addr) (c : List Int) => H r = some (.lst (c.map V.int))) rs cs ∧ 0 < cs.length ∧
  ∀ (i : Nat) r c, rs[i]? = some r → cs[i]? = some c → (∀ y ∈ cs, ¬ c < y) → Q (.ref r) H
theorem cr_maxL (hc : X.calm = true) (hu : X.A.units + 64 < cLine) : CallR X (.builtin "max") (rMaxL X.K) := by
  intro pins s σ H vs us Q I r h
  obtain ⟨a, rs, cs, rfl, hs, hP, hne, q⟩ := h
  obtain ⟨its, rv, hl, _⟩ := I.list hs
  rw [Vals.ref1 r]
  obtain ⟨as, rd⟩ := Dp.readsAll I (cs.map encL) (rs.map V.ref) its (dp_rowsL hP) rv
  have lr : rs.length = cs.length := Paired.length hP
  cases cs with
  | nil => cases hne
  | cons c0 cs =>
    have hz := depthL (c0 :: cs)
    refine PySem.EldX3.max_list_at (x := encL c0) (xs := cs.map encL) (I.ok.hd hc) hl.isList rd ⟨fun x hx y hy => ?_, fun x hx => ?_⟩ (by rw [List.map_cons] at hz; omega) fun i v h' tk hv hm k => ?_
    · rw [← List.map_cons] at hx hy
      obtain ⟨b, _, rfl⟩ := List.mem_map.mp hx
      obtain ⟨b', _, rfl⟩ := List.mem_map.mp hy
      exact alikeL b b'
    · rw [← List.map_cons] at hx
      obtain ⟨b, _, rfl⟩ := List.mem_map.mp hx
      exact fun z => by cases z
    · have hv : its[i]? = some v := by simpa using hv
      have li := (List.getElem?_eq_some_iff.mp hv).1
      have lv := rv.length
      rw [List.length_map] at lv
      have hri : rs[i]? = some (rs[i]'(by omega)) := List.getElem?_eq_getElem _
      generalize rs[i]'(by omega) = ri at hri
      obtain ⟨ci, hci, _⟩ := paired_getJ hP hri
      obtain ⟨M, h1, h2, h3, h4⟩ := maxL_spec cs c0
      have ei : ((encL c0) :: cs.map encL).getD i .none = encL ci := by
        rw [← List.map_cons, List.getD_eq_getElem?_getD, List.getElem?_map, hci]
        rfl
      have eM : ci = M := encL_inj (ei.symm.trans (hm.trans h1))
      have ev : RelV (.ref ri) v := by
        obtain ⟨u, hu, ru⟩ := rv.get (i := i) (x := .ref ri) (by rw [List.getElem?_map, hri]; rfl)
        rw [hv] at hu
        cases hu
        exact ru
      refine ⟨.ref ri, H, I.kept k, ev, q i ri ci hri hci fun y hy => ?_⟩
      rw [eM]
      rcases List.mem_cons.mp hy with rfl | hy
      · exact h3
      · exact h4 y hy
end
end Eld
end L2

set_option Elab.async false
set_option linter.all false
set_option maxRecDepth 100000
set_option maxHeartbeats 4000000
/-! ## counts spread over the kinds -/
namespace L2
namespace Eld
open PySem PySem.Spec PyProof.Rows PySem.EldX
theorem sm_le_eq {α : Type} {f g : α → Int} : ∀ {l : List α}, (∀ a ∈ l, f a ≤ g a) → sm l f = sm l g → ∀ a ∈ l, f a = g a
  | [], _, _, a, ha => by cases ha
  | x :: l, h, e, a, ha => by
    have h1 := h x List.mem_cons_self
    have h2 : sm l f ≤ sm l g := sm_le fun a ha => h a (List.mem_cons_of_mem _ ha)
    have e : f x + sm l f = g x + sm l g := e
    rcases List.mem_cons.mp ha with rfl | ha
    · omega
    · exact sm_le_eq (fun a ha => h a (List.mem_cons_of_mem _ ha)) (by omega) a ha
theorem least_top {P : List Tk} {x : Tk} {st : Str → Int} {v v' : Int} (nd : ((P ++ [x]).map (·.nm)).Nodup) (a : Least P st v) (b : Least (P ++ [x]) st v') : v' ≤ v + x.most := by
  obtain ⟨⟨L, e⟩, _⟩ := a
  have h := b.2 fun y => L y && !decide (y = x.nm)
  have ne : ∀ t ∈ P, t.nm ≠ x.nm := fun t ht q => by
    rw [List.map_append] at nd
    exact (List.nodup_append.mp nd).2.2 _ (List.mem_map.mpr ⟨t, ht, rfl⟩) _ (List.mem_map.mpr ⟨x, List.mem_singleton.mpr rfl, rfl⟩) q
  have e1 : cost (P ++ [x]) st (fun y => L y && !decide (y = x.nm)) = cost P st L + x.most := by
    unfold cost
    have a1 : sm P (fun t => if (L t.nm && !decide (t.nm = x.nm)) = true then 0 else t.most) = sm P fun t => if L t.nm = true then 0 else t.most := sm_congr fun t ht => by
      show (if (L t.nm && !decide (t.nm = x.nm)) = true then 0 else t.most) = if L t.nm = true then 0 else t.most
      rw [decide_eq_false (ne t ht)]
      simp
    have a2 : sm (hits (P ++ [x]) fun y => L y && !decide (y = x.nm)) st = sm (hits P L) st := by
      refine sm_same (nodup_hits _ _) (nodup_hits _ _) (fun k => ?_) st
      rw [mem_hits, mem_hits]
      constructor
      · rintro ⟨t, ht, hL, hk⟩
        simp only [Bool.and_eq_true] at hL
        rcases List.mem_append.mp ht with ht | ht
        · exact ⟨t, ht, hL.1, hk⟩
        · rw [List.mem_singleton.mp ht] at hL
          simp at hL
      · rintro ⟨t, ht, hL, hk⟩
        exact ⟨t, List.mem_append_left _ ht, by rw [hL, decide_eq_false (ne t ht)]; rfl, hk⟩
    rw [sm_app, a1, a2]
    show _ + ((if (L x.nm && !decide (x.nm = x.nm)) = true then 0 else x.most) + 0) + _ = _
    rw [decide_eq_true rfl]
    simp
    omega
  rw [e1, ← e] at h
  exact h
theorem spread_fit {T : List Tk} {st : Str → Int} {f : Tk → Int} (nd : (T.map (·.nm)).Nodup) (ls : ∀ j, j ≤ T.length → Least (T.take j) st (sm (T.take j) f)) : FitT T st ↔ ∀ t ∈ T, ¬ f t < t.most := by
  have up : ∀ t ∈ T, f t ≤ t.most := fun t ht => by
    obtain ⟨j, hj⟩ := List.mem_iff_getElem?.mp ht
    have lj := (List.getElem?_eq_some_iff.mp hj).1
    have et : T.take (j + 1) = T.take j ++ [t] := by rw [List.take_add_one, hj]; rfl
    have b := ls (j + 1) lj
    rw [et, sm_app] at b
    have h := least_top (by rw [← et]; exact nd.sublist ((List.take_sublist _ _).map _)) (ls j (Nat.le_of_lt lj)) b
    have e : sm [t] f = f t := by
      show f t + 0 = f t
      omega
    omega
  have l := ls T.length (Nat.le_refl _)
  rw [List.take_length] at l
  rw [fit_least l]
  constructor
  · intro e t ht
    have := sm_le_eq up e t ht
    omega
  · intro h
    exact sm_congr fun t ht => by
      have := h t ht
      have := up t ht
      omega
/-- a list by two clauses, told by what stands at each turn -/
theorem lc2_fold {J : It} {n : Nat} {G : Hp → Prop} {Y : Nat → Hp → V → Hp → Prop} (w : Walk J n G Y) {g : TG} {wi1 : TI} {g1 : TG} {te : TE} {vs vs1 : List Nat} {σ : St} {H1 : Hp} {D : Addr} {Qd : Hp → Prop} (I : Nat → Hp → Prop) (h0 : I 0 (upd H1 D (.lst []))) (hG : ∀ i H, i ≤ n → I i H → G H)
    (hs : ∀ i x H H', i < n → I i H → Y i H x H' → ∀ (N : St → It → Hp → Prop),
      (∀ σ2 J1 H4, (∃ (n1 : Nat) (G1 : Hp → Prop) (Y1 : Nat → Hp → V → Hp → Prop) (I1 : Nat → Hp → Prop), Walk J1 n1 G1 Y1 ∧ I1 0 H4 ∧ (∀ j H, j ≤ n1 → I1 j H → G1 H) ∧ (∀ H, I1 n1 H → I (i + 1) H) ∧
        ∀ j x H H', j < n1 → I1 j H → Y1 j H x H' → ∀ (N1 : VK), (∀ y H6, (∃ acc, H6 D = some (.lst acc) ∧ acc.length < sizeLine ∧ I1 (j + 1) (upd H6 D (.lst (acc ++ [y])))) → N1 y H6) →
          g1 x (wipe σ2 vs1) H' fun σ3 H5 => wipe σ3 vs1 = wipe σ2 vs1 ∧ te σ3 H5 N1) → N σ2 J1 H4) →
      g x (wipe σ vs) H' fun σ2 H2 => wipe σ2 vs = wipe σ vs ∧ wi1 σ2 H2 (N σ2))
    (hd : ∀ H, I n H → Qd H) :
    ∃ W : Nat → Nat → Hp → Prop, (∃ m, W 0 m (upd H1 D (.lst []))) ∧ ∀ i m G, W i m G → (J.stop i G ∧ Qd G) ∨ (J.go i G ∧
      ∃ Nx : Hp → Prop, (∀ G', Nx G' → ∃ m', m' < m ∧ W (i + 1) m' G') ∧ ∀ x G', J.yld i G x G' → g x (wipe σ vs) G' fun σ2 H2 => wipe σ2 vs = wipe σ vs ∧ wi1 σ2 H2 fun J1 H4 =>
        ∃ W1 : Nat → Nat → Hp → Prop, (∃ m, W1 0 m H4) ∧ ∀ j k G, W1 j k G → (J1.stop j G ∧ Nx G) ∨ (J1.go j G ∧
          ∃ Nx1 : Hp → Prop, (∀ G', Nx1 G' → ∃ k', k' < k ∧ W1 (j + 1) k' G') ∧ ∀ x G', J1.yld j G x G' → g1 x (wipe σ2 vs1) G' fun σ3 H5 => wipe σ3 vs1 = wipe σ2 vs1 ∧ te σ3 H5 fun y H6 =>
            ∃ acc, H6 D = some (.lst acc) ∧ acc.length < sizeLine ∧ Nx1 (upd H6 D (.lst (acc ++ [y]))))) := by
  refine ⟨fun i m H => i + m = n ∧ I i H, ⟨n, by omega, h0⟩, fun i m H ⟨e, p⟩ => ?_⟩
  rcases Nat.lt_or_ge i n with hi | hi
  · refine .inr ⟨w.goes i H hi (hG i H (by omega) p), I (i + 1), fun H' p' => ⟨m - 1, by omega, by omega, p'⟩, fun x H' hy => ?_⟩
    refine hs i x H H' hi p (w.yields i H x H' hi (hG i H (by omega) p) hy) _ fun σ2 J1 H4 ⟨n1, G1, Y1, I1, w1, i0, iG, iE, st⟩ => ?_
    refine ⟨fun j k H => j + k = n1 ∧ I1 j H, ⟨n1, by omega, i0⟩, fun j k H ⟨e1, p1⟩ => ?_⟩
    rcases Nat.lt_or_ge j n1 with hj | hj
    · refine .inr ⟨w1.goes j H hj (iG j H (by omega) p1), I1 (j + 1), fun H' p' => ⟨k - 1, by omega, by omega, p'⟩, fun x H' hy => ?_⟩
      exact st j x H H' hj p1 (w1.yields j H x H' hj (iG j H (by omega) p1) hy) _ fun y H6 h => h
    · obtain rfl : j = n1 := by omega
      exact .inl ⟨w1.stops H (iG j H (by omega) p1), iE H p1⟩
  · obtain rfl : i = n := by omega
    exact .inl ⟨w.stops H (hG i H (by omega) p), hd H p⟩
section
variable {P : Program} {w : World} {K : PySem.W.Frag} {mg : Str → Option Value} {base : Heap} {CA fI pN gN pF gF pM gM fE CL fLI fLE fLL fLA fLN fLK fLR fLP : Addr} {f1 f2 f3 f4 fC fS fN fL fM : Addr} {d1 d2 d3 d4 dC dS dN dL dM : FuncData}
/-! ### need_counts -/
def spNeedCounts (CL CA : Addr) : Sp := fun vs H Q _ => ∃ (a sp p : Addr) (as : List Addr) (ks : List Ask) (kvs : List (Key × V)) (ts : List Addr) (ds : List (Str × Int)), vs = [.ref a, .ref sp, .ref p] ∧ LineAt CL CA H a as ks ∧ StockAt H sp kvs ∧ DealAt H p ts ds ∧ Told ks ds ∧ (∀ k ∈ ks, IsWord k.nm) ∧ (ks.map Ask.nm).Nodup ∧ ks.length ≤ 60 ∧ ∀ H', Same H H' → Q .non H'
theorem ok_needCounts {f fP fA fAC : Addr} {fd dP dA dAC dLN dLA dAN dAM : FuncData} (F : Fun K "need_counts" "need_counts" sNeedCounts f fd) (FAreCounts : Fun K "are_counts" "are_counts" sAreCounts fAC dAC) (gAreCounts : mg "are_counts" = some (.ref fAC)) (FArePairs : Fun K "are_pairs" "are_pairs" sArePairs fA dA) (gArePairs : mg "are_pairs" = some (.ref fA)) (FIsPair : Fun K "_is_pair" "_is_pair" sIsPair fP dP) (gIsPair : mg "_is_pair" = some (.ref fP)) (D : ChkD K mg f1 f2 f3 f4 fC fS fN fL fM d1 d2 d3 d4 dC dS dN dL dM) (B : Blt mg) (B2 : Blt2 mg) (B3 : Blt3 mg)
    (TA : ACls K CA fI pN gN pF gF pM gM fE) (FAN : Fun K "name" "Asker.name" sAName gN dAN) (FAM : Fun K "most" "Asker.most" sAMost gM dAM) (T : LCls K CL fLI fLE fLL fLA fLN fLK fLR fLP) (gL : mg "Line" = some (.ref CL)) (FLA : Fun K "askers" "Line.askers" sLAskers fLA dLA) (FLN : Fun K "names" "Line.names" sLNames fLN dLN) : FnOk P w K mg base CX0 7 f fd ["line", "stock", "value"] (spNeedCounts CL CA) := by
  have GAreCounts : FnOk P w K mg base CX0 6 fAC dAC ["line", "value"] (spAreCounts CL CA) := ok_areCounts FAreCounts FArePairs gArePairs FIsPair gIsPair D B B3 TA FAN FAM T FLA FLN
  have bAreCounts : Binds K dAC ["line", "value"] [] := FAreCounts.binds fun _ _ _ _ _ _ us hl => match us, hl with | [_, _], _ => rfl
  have GNeedLine : FnOk P w K mg base CX0 1 fL dL ["value"] (spNeedLine CL CA) := ok_needLine D.NeedLine B T gL
  have bNeedLine : Binds K dL ["value"] [] := D.NeedLine.binds fun _ _ _ _ _ _ us hl => match us, hl with | [_], _ => rfl
  have GNeedStock : FnOk P w K mg base CX0 5 fN dN ["value"] spNeedStock := ok_needStock D B B2
  have bNeedStock : Binds K dN ["value"] [] := D.NeedStock.binds fun _ _ _ _ _ _ us hl => match us, hl with | [_], _ => rfl
  refine F.ok scNeedCounts (fun vs H Q E h => ?_) (fun cdv A outer s H vs Q E hr h => ?_)
  · obtain ⟨a, sp, p, as, ks, kvs, ts, ds, rfl, _⟩ := h
    rfl
  · obtain ⟨a, sp, p, as, ks, kvs, ts, ds, rfl, hL, hst, hD, hT, hw, nd, l60, q⟩ := h
    refine ⟨_, (pss_cons (ps_expr (pe_call GNeedLine (hr.mono (by decide)) (by rfl) D.gNeedLine D.NeedLine.kp bNeedLine .nil pass0 (pa_cons (pv 0) pa_nil)))
      (pss_cons (ps_expr (pe_call GNeedStock (hr.mono (by decide)) (by rfl) D.gNeedStock D.NeedStock.kp bNeedStock .nil pass0 (pa_cons (pv 1) pa_nil)))
      (pss_one (ps_if (pt_not (pt_val (pe_call GAreCounts (hr.mono (by decide)) (by rfl) gAreCounts FAreCounts.kp bAreCounts .nil pass0 (pa_cons (pv 0) (pa_cons (pv 2) pa_nil))))) (pss_one (ps_dead _)) pss_nil)))), ?_⟩
    exact ⟨.ref a, rfl, a, as, ks, rfl, hL, .ref sp, rfl, sp, kvs, rfl, hst, fun H1 s1 => ⟨.ref a, rfl, .ref p, rfl, a, p, as, ks, ts, ds, rfl, hL.same s1, hD.same s1, hT, hw, nd, l60, fun H2 s2 => ⟨true, rfl, iteF (q H2 (s1.trans s2))⟩⟩⟩
/-! ### spread -/
def spSpread (CL CA : Addr) : Sp := fun vs H Q _ => ∃ (a sp p : Addr) (as : List Addr) (ks : List Ask) (kvs : List (Key × V)) (U : List Str) (ts : List Addr) (ds : List (Str × Int)), vs = [.ref a, .ref sp, .ref p] ∧ LineAt CL CA H a as ks ∧ StockAt H sp kvs ∧ DealAt H p ts ds ∧ Told ks ds ∧ (∀ k ∈ ks, IsWord k.nm) ∧ ks.length ≤ 60 ∧ Fair ks (stN kvs) U ∧
  ∀ H', Same H H' → (FitT (tsC (ks.map tkA) (ds.map (·.2))) (stN kvs) → ∀ r, Q (.ref r) H') ∧ (¬ FitT (tsC (ks.map tkA) (ds.map (·.2))) (stN kvs) → Q .non H')
theorem ok_spread {f fP fA fAC fNC fW fPu fS' fM' fR fO fCo fT : Addr} {fd dP dA dAC dNC dW dPu dS' dM' dR dO dCo dT dLN dLA dAN dAF dAM : FuncData} {u v : Value} (F : Fun K "spread" "spread" sSpread f fd) (FNeedCounts : Fun K "need_counts" "need_counts" sNeedCounts fNC dNC) (gNeedCounts : mg "need_counts" = some (.ref fNC)) (FAreCounts : Fun K "are_counts" "are_counts" sAreCounts fAC dAC) (gAreCounts : mg "are_counts" = some (.ref fAC)) (FArePairs : Fun K "are_pairs" "are_pairs" sArePairs fA dA) (gArePairs : mg "are_pairs" = some (.ref fA)) (FIsPair : Fun K "_is_pair" "_is_pair" sIsPair fP dP) (gIsPair : mg "_is_pair" = some (.ref fP)) (D : ChkD K mg f1 f2 f3 f4 fC fS fN fL fM d1 d2 d3 d4 dC dS dN dL dM) (B : Blt mg) (B2 : Blt2 mg) (B3 : Blt3 mg)
    (O : Pour K mg fW fPu fS' fM' fR fO fCo fT dW dPu dS' dM' dR dO dCo dT u v)
    (TA : ACls K CA fI pN gN pF gF pM gM fE) (FAN : Fun K "name" "Asker.name" sAName gN dAN) (FAF : Fun K "fits" "Asker.fits" sAFits gF dAF) (FAM : Fun K "most" "Asker.most" sAMost gM dAM) (T : LCls K CL fLI fLE fLL fLA fLN fLK fLR fLP) (gL : mg "Line" = some (.ref CL)) (FLA : Fun K "askers" "Line.askers" sLAskers fLA dLA) (FLN : Fun K "names" "Line.names" sLNames fLN dLN) : FnOk P w K mg base CX0 8 f fd ["line", "stock", "value"] (spSpread CL CA) := by
  have GNeedCounts : FnOk P w K mg base CX0 7 fNC dNC ["line", "stock", "value"] (spNeedCounts CL CA) := ok_needCounts FNeedCounts FAreCounts gAreCounts FArePairs gArePairs FIsPair gIsPair D B B2 B3 TA FAN FAM T gL FLA FLN
  have bNeedCounts : Binds K dNC ["line", "stock", "value"] [] := FNeedCounts.binds fun _ _ _ _ _ _ us hl => match us, hl with | [_, _, _], _ => rfl
  have GPoured : FnOk P w K mg base CX0 4 fO dO ["takers", "stores"] (spPoured w K) := ok_poured O.O O.W O.gW O.P O.gP O.R O.gR O.M O.gM O.S O.gS B O.start O.rs O.end_ O.re
  have bPoured : Binds K dO ["takers", "stores"] [] := O.O.binds fun _ _ _ _ _ _ us hl => match us, hl with | [_, _], _ => rfl
  have GCountOf : FnOk P w K mg base CX0 1 fCo dCo ["room", "name"] (spCountOf w) := ok_countOf O.C O.start O.rs
  have bCountOf : Binds K dCo ["room", "name"] [] := O.C.binds fun _ _ _ _ _ _ us hl => match us, hl with | [_, _], _ => rfl
  have GLAskers : FnOk P w K mg base CX0 1 fLA dLA ["self"] (spLAskers CL CA) := ok_laskers FLA B T
  have bLAskers : Binds K dLA ["self"] [] := FLA.binds fun _ _ _ _ _ _ us hl => match us, hl with | [_], _ => rfl
  have GAName : FnOk P w K mg base CX0 1 gN dAN ["self"] (spAName CA) := ok_aname FAN TA
  have bAName : Binds K dAN ["self"] [] := FAN.binds fun _ _ _ _ _ _ us hl => match us, hl with | [_], _ => rfl
  have GAFits : FnOk P w K mg base CX0 1 gF dAF ["self"] (spAFits CA) := ok_afits FAF B TA
  have bAFits : Binds K dAF ["self"] [] := FAF.binds fun _ _ _ _ _ _ us hl => match us, hl with | [_], _ => rfl
  refine F.ok scSpread (fun vs H Q E h => ?_) (fun cdv A outer s H vs Q E hr h => ?_)
  · obtain ⟨a, sp, p, as, ks, kvs, U, ts, ds, rfl, _⟩ := h
    rfl
  · obtain ⟨a, sp, p, as, ks, kvs, U, ts, ds, rfl, hL, hst, hD, hT, hw, l60, hF, q⟩ := h
    refine ⟨_, (pss_cons (ps_expr (pe_call GNeedCounts (hr.mono (by decide)) (by rfl) gNeedCounts FNeedCounts.kp bNeedCounts .nil pass0 (pa_cons (pv 0) (pa_cons (pv 1) (pa_cons (pv 2) pa_nil)))))
      (pss_cons (ps_setLc (i := 3) (own := [("asker", 6), ("_", 7), ("count", 8)]) (g := (gTup K 2 (gCons (gName 6) (gCons (gTup K 2 (gCons (gName 7) (gCons (gName 8) gNil))) gNil)))) (tt := tYes) (te := tTup (tCons (tProp CA (spAName CA) [] E0 (tVar 6)) (tCons (tProp CA (spAFits CA) [] E0 (tVar 6)) (tCons (tVar 8) tNil)))) rfl scSpread.nd rfl rfl (sw_true rfl rfl rfl (by decide +kernel)) (pi_zip (by rfl) B3.zip (pa_cons (pe_meth0 (pv 0) T.ins.cl T.mA GLAskers (hr.mono (by decide)) bLAskers .nil pass0) (pa_cons (pv 2) pa_nil))) (blkOk_by (own := [("asker", 6), ("_", 7), ("count", 8)]) (N := NSpread) (sc := defScope sSpread) (by decide +kernel)) (fun _ _ _ _ _ => (pg_tup rfl (pgs_cons (pg_name (i := 6) scSpread.nd rfl (.inl rfl)) (pgs_cons (pg_tup rfl (pgs_cons (pg_name (i := 7) scSpread.nd rfl (.inl rfl)) (pgs_cons (pg_name (i := 8) scSpread.nd rfl (.inl rfl)) pgs_nil))) pgs_nil)))) (fun _ _ _ _ _ => pts_nil) (fun _ _ _ _ _ => (pe_tup (pa_cons (pe_prop (pv 6) TA.ins.cl TA.pN GAName (hr.mono (by decide)) bAName .nil pass0 rfl) (pa_cons (pe_prop (pv 6) TA.ins.cl TA.pF GAFits (hr.mono (by decide)) bAFits .nil pass0 rfl) (pa_cons (pv 8) pa_nil))))))
      (pss_cons (ps_set (i := 4) scSpread.nd rfl (.inr rfl) (pe_call GPoured (hr.mono (by decide)) (by rfl) O.gO O.O.kp bPoured .nil pass0 (pa_cons (pv 3) (pa_cons (pv 1) pa_nil))))
      (pss_cons (ps_if (pt_val (pe_callB (cr_any rfl) (by rfl) B2.any (by decide +kernel) (pa_cons (pe_lc (own := [("name", 9), ("count", 8)]) (g := (gTup K 2 (gCons (gName 9) (gCons (gName 8) gNil)))) (tt := tYes) (te := tOp (rI0 fun i j => .bl (decide (i < j))) (tCall (spCountOf w) [] E0 (tCons (tVar 4) (tCons (tVar 9) tNil))) (tVar 8)) rfl scSpread.nd (pi_list (pv 2)) (blkOk_by (own := [("name", 9), ("count", 8)]) (N := NSpread) (sc := defScope sSpread) (by decide +kernel)) (fun _ _ _ _ _ => (pg_tup rfl (pgs_cons (pg_name (i := 9) scSpread.nd rfl (.inl rfl)) (pgs_cons (pg_name (i := 8) scSpread.nd rfl (.inl rfl)) pgs_nil)))) (fun _ _ _ _ _ => pts_nil) (fun _ _ _ _ _ => (pe_cmpR op_lt (pe_call GCountOf (hr.mono (by decide)) (by rfl) O.gC O.C.kp bCountOf .nil pass0 (pa_cons (pv 4) (pa_cons (pv 9) pa_nil))) (pv 8) (nomark _)))) pa_nil))) (pss_one (ps_ret pe_non)) pss_nil)
      (pss_cons (ps_setLc2 (i := 5) (own := [("name", 9), ("fits", 10), ("_", 7), ("kind", 11)]) (vs1 := [11]) (g := (gTup K 3 (gCons (gName 9) (gCons (gName 10) (gCons (gName 7) gNil))))) (g1 := gName 11) (wi1 := iList K (tVar 10)) (te := tTup (tCons (tVar 9) (tCons (tVar 11) (tCons (tMGet w (tMGet w (tVar 4) (tTup (tCons (tC (.str "store")) (tCons (tVar 11) tNil)))) (tTup (tCons (tC (.str "taker")) (tCons (tVar 9) tNil)))) tNil)))) rfl scSpread.nd rfl rfl (sw_true rfl rfl rfl (by decide +kernel)) (pi_list (pv 3)) (blkOk_by (own := [("name", 9), ("fits", 10), ("_", 7), ("kind", 11)]) (N := NSpread) (sc := defScope sSpread) (by decide +kernel)) (by decide) (fun _ _ _ _ _ => (pg_tup rfl (pgs_cons (pg_name (i := 9) scSpread.nd rfl (.inl rfl)) (pgs_cons (pg_name (i := 10) scSpread.nd rfl (.inl rfl)) (pgs_cons (pg_name (i := 7) scSpread.nd rfl (.inl rfl)) pgs_nil))))) (fun _ _ _ _ _ => pi_list (pv 10)) (fun _ _ _ _ _ => pg_name (i := 11) scSpread.nd rfl (.inl rfl))
        (fun _ _ _ _ _ => (pe_tup (pa_cons (pv 9) (pa_cons (pv 11) (pa_cons (pe_mget (hu9 hr) (pe_mget (hu9 hr) (pv 4) (pe_tup (pa_cons pe_str (pa_cons (pv 11) pa_nil))) (fun _ _ => rfl)) (pe_tup (pa_cons pe_str (pa_cons (pv 9) pa_nil))) (fun _ _ => rfl)) pa_nil))))))
      (pss_one (ps_ret (pe_callB (cr_sorted3 hr.units) (by rfl) B.sorted (by decide +kernel) (pa_cons (pe_lc (own := [("entry", 12)]) (g := gName 12) (tt := tTest (tOp (rI0 fun i j => .bl (decide (j < i))) (tOp (rIxT K) (tVar 12) (tC (.int 2))) (tC (.int 0)))) (te := tVar 12) rfl scSpread.nd (pi_list (pv 5)) (blkOk_by (own := [("entry", 12)]) (N := NSpread) (sc := defScope sSpread) (by decide +kernel)) (fun _ _ _ _ _ => pg_name (i := 12) scSpread.nd rfl (.inl rfl)) (fun _ _ _ _ _ => pts_one (pt_cmpR op_gt (pe_ix ix_tup (pv 12) pe_int (fun _ _ => rfl)) pe_int (nomark _))) (fun _ _ _ _ _ => (pv 12))) pa_nil))))))))), ?_⟩
    have nd := hF.nd
    have lt : ts.length = ds.length := Paired.length hD.rows
    have ld := hT.len
    have lc : (ds.map (·.2)).length = (ks.map tkA).length := by rw [List.length_map, List.length_map]; exact ld
    refine ⟨.ref a, rfl, .ref sp, rfl, .ref p, rfl, a, sp, p, as, ks, kvs, ts, ds, rfl, hL, hst, hD, hT, hw, nd, l60, fun H1 s1 => ?_⟩
    obtain ⟨dx4, tl4, g1, g2, g3⟩ := id (hL.same s1)
    refine ⟨.ref a, rfl, a, dx4, _, rfl, g1, rfl, a, as, ks, rfl, hL.same s1, fun l nl => ?_⟩
    have s5 := s1.trans (Same.fresh (o := .lst (as.map V.ref)) nl)
    have el : (upd H1 l (.lst (as.map V.ref))) l = some (.lst (as.map V.ref)) := upd_same
    generalize upd H1 l (.lst (as.map V.ref)) = H5 at s5 el
    have hD5 := hD.same s5
    obtain ⟨dx5, tl5, k1, k2, k3⟩ := id (hL.same s5)
    have la : as.length = ks.length := k3.len
    refine ⟨.ref p, rfl, l, p, _, _, rfl, SqL.of el, SqL.of hD5.at_, fun E3 hE3 => ?_⟩
    refine lc_foldY (walk_zip (xs := as.map V.ref) (ys := ts.map V.ref) (n := ks.length) (by rw [List.length_map, List.length_map]; omega)) (fun i acc G => ∃ tas : List Addr, acc = tas.map V.ref ∧ Paired (fun (a : Addr) (t : Tk) => ∃ fp, fp ≠ E3 ∧ a ≠ E3 ∧ G a = some (.tup [.str t.nm, .ref fp, .int t.most]) ∧ G fp = some (.lst (t.fits.map V.str))) tas ((tsC (ks.map tkA) (ds.map (·.2))).take i)) (by rw [sizeLine_eq]; omega) hE3 ⟨[], rfl, by rw [List.take_zero]; exact .nil⟩
      (fun G s => ⟨SqL.of (s _ _ el), SqL.of (s _ _ hD5.at_)⟩) ypair_sameT (fun i acc l' G G' eD kk ⟨tas, e1, e2⟩ => ⟨tas, e1, paired_mono e2 fun a t ⟨fp, h1, h2, h3, h4⟩ => ⟨fp, h1, h2, kk _ _ h2 h3, kk _ _ h1 h4⟩⟩) ?_ ?_
    · rintro i x acc G6 G6' hi s6 eD6 ⟨TT, x1, x2, rfl, nT, rfl, hx1, hx2⟩ ⟨tas, rfl, hp⟩ N M hN hM
      have hx1 : (as.map V.ref)[i]? = some x1 := hx1
      have hx2 : (ts.map V.ref)[i]? = some x2 := hx2
      obtain ⟨b, hb, rfl⟩ := map_ref_at hx1
      obtain ⟨t, ht, rfl⟩ := map_ref_at hx2
      obtain ⟨y, hy, ey⟩ := paired_getJ hD5.rows ht
      obtain ⟨b', hb', hAk⟩ := asks_nth k3 (askI_at hi)
      obtain rfl : b = b' := Option.some.inj (hb.symm.trans hb')
      have s7 := s6.trans (Same.fresh (o := .tup [V.ref b, V.ref t]) nT)
      have sT : Same G6 (upd G6 TT (.tup [V.ref b, V.ref t])) := Same.fresh nT
      have hAk7 := hAk.same s7
      obtain ⟨db, fb, Ib⟩ := hAk7.ins
      refine ⟨TT, _, rfl, SqT.of upd_same, rfl, .ref b, [.ref t], rfl, .ref t, [], rfl, t, _, rfl, SqT.of (s7 _ _ ey), rfl, .str y.1, [.int y.2], rfl, .int y.2, [], rfl, rfl, rfl, rfl, ?_⟩
      unfold tYes
      show (if true = true then _ else _)
      rw [if_pos rfl]
      refine ⟨.ref b, rfl, b, db, fb, rfl, Ib, b, askI ks i, rfl, hAk7, .ref b, rfl, b, db, fb, rfl, Ib, b, askI ks i, rfl, hAk7, fun fp nfp => ?_⟩
      have eE : (upd G6 TT (.tup [V.ref b, V.ref t])) E3 = some (.lst (tas.map V.ref)) := sT _ _ eD6
      have s8 : Same (upd G6 TT (.tup [V.ref b, V.ref t])) (upd (upd G6 TT (.tup [V.ref b, V.ref t])) fp (.lst ((askI ks i).ks.map V.str))) := Same.fresh nfp
      refine ⟨.int y.2, rfl, (by show 3 ≤ sizeLine; decide), fun ta nta => ?_⟩
      have s9 : Same (upd (upd G6 TT (.tup [V.ref b, V.ref t])) fp (.lst ((askI ks i).ks.map V.str))) (upd (upd (upd G6 TT (.tup [V.ref b, V.ref t])) fp (.lst ((askI ks i).ks.map V.str))) ta (.tup [.str (askI ks i).nm, .ref fp, .int y.2])) := Same.fresh nta
      have nfD : fp ≠ E3 := fun e => by rw [e, eE] at nfp; cases nfp
      have ntD : ta ≠ E3 := fun e => by
        have := s8 _ _ eE
        rw [e, this] at nta
        cases nta
      refine hN _ _ (s8.trans s9) ⟨tas ++ [ta], by simp, ?_⟩
      have hk : (ks.map tkA)[i]? = some (tkA (askI ks i)) := by rw [List.getElem?_map, askI_at hi]; rfl
      have hc : (ds.map (·.2))[i]? = some y.2 := by rw [List.getElem?_map, hy]; rfl
      rw [List.take_add_one, tsC_at hk hc]
      exact Paired.snoc (paired_mono hp fun a t ⟨fp, h1, h2, h3, h4⟩ => ⟨fp, h1, h2, s9 _ _ (s8 _ _ (sT _ _ h3)), s9 _ _ (s8 _ _ (sT _ _ h4))⟩) ⟨fp, nfD, ntD, upd_same, s9 _ _ upd_same⟩
    rintro G6 acc s6 eD6 ⟨tas, rfl, hp⟩
    have eTk : (tsC (ks.map tkA) (ds.map (·.2))).length = ks.length := by rw [tsC_len lc, List.length_map]
    rw [← eTk, List.take_length] at hp
    have cb : CB (ks.map tkA) (ds.map (·.2)) := ⟨lc, fun i t x h1 h2 => by
      rw [List.getElem?_map] at h1 h2
      obtain ⟨k, hk, rfl⟩ := Option.map_eq_some_iff.mp h1
      obtain ⟨y, hy, rfl⟩ := Option.map_eq_some_iff.mp h2
      refine ⟨hT.lo y (List.mem_of_getElem? hy), ?_⟩
      have := hT.hi i y hy
      have e : askI ks i = k := Option.some.inj ((askI_at (List.getElem?_eq_some_iff.mp hk).1).symm.trans hk)
      rw [e] at this
      exact this⟩
    have tnm : (tsC (ks.map tkA) (ds.map (·.2))).map (·.nm) = ks.map Ask.nm := by rw [tsC_nm lc, List.map_map]; rfl
    have tds : ds.map (·.1) = (tsC (ks.map tkA) (ds.map (·.2))).map (·.nm) := by rw [tnm]; exact hT.nm
    have tnd : ((tsC (ks.map tkA) (ds.map (·.2))).map (·.nm)).Nodup := by rw [tnm]; exact nd
    have tms : ∀ (i : Nat) (x : Str × Int), ds[i]? = some x → ∃ t : Tk, (tsC (ks.map tkA) (ds.map (·.2)))[i]? = some t ∧ t.nm = x.1 ∧ t.most = x.2 := fun i x hx => by
      obtain ⟨t, ht, e⟩ := deal_nth tds hx
      obtain ⟨t', y, a1, a2, rfl⟩ := tsC_get ht
      rw [List.getElem?_map, hx] at a2
      exact ⟨_, ht, e.symm, (Option.some.inj a2).symm⟩
    have tok : ∀ t ∈ tsC (ks.map tkA) (ds.map (·.2)), 0 ≤ t.most ∧ t.fits.Nodup ∧ ∀ x ∈ t.fits, x ∈ U := fun t ht => by
      refine ⟨cb.nn t ht, ?_⟩
      obtain ⟨j, hj⟩ := List.mem_iff_getElem?.mp ht
      obtain ⟨t', y, a1, a2, rfl⟩ := tsC_get hj
      rw [List.getElem?_map] at a1
      obtain ⟨k, hk, rfl⟩ := Option.map_eq_some_iff.mp a1
      exact (hF.ok k (List.mem_of_getElem? hk)).2
    have s16 := s5.trans s6
    generalize tsC (ks.map tkA) (ds.map (·.2)) = T0 at hp eTk tnd tms tok q
    refine ⟨.ref E3, rfl, .ref sp, rfl, E3, sp, tas, T0, kvs, stN kvs, U, rfl, ⟨eD6, paired_mono hp fun a t ⟨fp, _, _, h3, h4⟩ => ⟨fp, h3, SqL.of h4⟩⟩, (hst.same s16).stk.1, tnd, tok, hF.st, hF.u, by omega, fun H2 A0 N ad g zs s2 na R hzs good S sh1 sh2 => ?_⟩
    have s26 := s16.trans s2
    have hfit := spread_fit tnd S.ls
    refine ⟨.ref p, rfl, p, rfl, ⟨_, SqL.of (hD.same s26).at_⟩, fun E4 hE4 => ?_⟩
    refine lc_foldY walk_refsE (fun i acc _ => acc = ((T0.take i).map fun t => decide (gD g (nT t.nm) nS < t.most)).map V.bl) (by rw [sizeLine_eq]; omega) hE4 rfl (fun G s => SqL.of (s _ _ (hD.same s26).at_)) yat_same (fun _ _ _ _ _ _ _ p => p) ?_ ?_
    · rintro i x acc G1 G1' hi sG1 eD1 ⟨rfl, hx⟩ rfl N5 M hN hM
      obtain ⟨t, ht, rfl⟩ := map_ref_at hx
      obtain ⟨y, hy, ey⟩ := paired_getJ (hD.same s26).rows ht
      obtain ⟨t0, ht0, en, em⟩ := tms i y hy
      have hg := gD_eq (sh1 t0 (List.mem_of_getElem? ht0))
      refine ⟨t, _, rfl, SqT.of (sG1 _ _ ey), rfl, .str y.1, [.int y.2], rfl, .int y.2, [], rfl, rfl, rfl, ?_⟩
      unfold tYes
      show (if true = true then _ else _)
      rw [if_pos rfl]
      rw [en] at hg
      refine ⟨.ref A0, rfl, .str y.1, rfl, A0, N, ad, g, y.1, _, rfl, R.same sG1, hg, fun G2 sG2 => ⟨.int y.2, rfl, _, _, rfl, rfl, hN _ _ sG2 ?_⟩⟩
      rw [List.take_add_one, ht0]
      show _ = ((T0.take i ++ [t0]).map _).map V.bl
      rw [List.map_append, List.map_append]
      show _ ++ [V.bl (decide (gD g (nT y.1) nS < y.2))] = _ ++ [V.bl (decide (gD g (nT t0.nm) nS < t0.most))]
      rw [en, em]
    rintro G1 acc sG1 eD1 rfl
    have eT2 : ts.length = T0.length := by omega
    rw [eT2, List.take_length] at eD1
    refine ⟨E4, _, rfl, SqL.of eD1, _, rfl, ?_⟩
    have s28 := s26.trans sG1
    have hq := q G1 s28
    by_cases hf : FitT T0 (stN kvs)
    · have ea : ((T0.map fun t => decide (gD g (nT t.nm) nS < t.most)).any id) = false := by
        rw [List.any_eq_false]
        intro b hb
        obtain ⟨t, ht, rfl⟩ := List.mem_map.mp hb
        simpa using hfit.mp hf t ht
      rw [ea]
      refine iteF ?_
      have e3 : G1 E3 = some (.lst (tas.map V.ref)) := sG1 _ _ (s2 _ _ eD6)
      have R3 := R.same sG1
      have lT : tas.length = T0.length := Paired.length hp
      refine ⟨.ref E3, rfl, E3, rfl, ⟨_, SqL.of e3⟩, fun D5 hD5 => ?_⟩
      refine lc2_fold (walk_refsE (K := K)) (fun i G => ∃ acc, Same G1 G ∧ G D5 = some (.lst acc) ∧ acc.length ≤ 64 * i ∧ ∀ x ∈ acc, ∃ (t : Addr) (b : Str × Str × Int), x = .ref t ∧ t ≠ D5 ∧ G t = some (.tup [.str b.1, .str b.2.1, .int b.2.2]))
        ⟨[], Same.fresh hD5, upd_same, Nat.zero_le _, fun x hx => nomatch hx⟩ (fun i G _ ⟨acc, sG, _⟩ => SqL.of (sG _ _ e3)) ?_ ?_
      · rintro i x G G' hi ⟨acc, sG, eD, la5, ha⟩ ⟨rfl, hx⟩ N5 hN5
        obtain ⟨ta, hta, rfl⟩ := map_ref_at hx
        obtain ⟨t, ht, fp, _, _, et, ef⟩ := paired_getJ hp hta
        have tm := List.mem_of_getElem? ht
        have s6G : Same G6 G' := (s2.trans sG1).trans sG
        have lf := nodup_leG t.fits U (tok t tm).2.1 (tok t tm).2.2
        have lU := hF.u
        refine ⟨ta, _, rfl, SqT.of (s6G _ _ et), rfl, _, _, rfl, _, _, rfl, _, [], rfl, rfl, rfl, .ref fp, rfl, fp, rfl, ⟨_, SqL.of (s6G _ _ ef)⟩, ?_⟩
        refine hN5 _ _ _ ⟨t.fits.length, _, _, fun j G => ∃ acc, Same G1 G ∧ G D5 = some (.lst acc) ∧ acc.length ≤ 64 * i + j ∧ ∀ x ∈ acc, ∃ (t : Addr) (b : Str × Str × Int), x = .ref t ∧ t ≠ D5 ∧ G t = some (.tup [.str b.1, .str b.2.1, .int b.2.2]), walk_strs (K := K), ⟨acc, sG, eD, la5, ha⟩, fun j G _ ⟨acc, sG, _⟩ => SqL.of (sG _ _ (sG1 _ _ (s2 _ _ ef))), fun G ⟨acc, sG, eD, l2, ha⟩ => ⟨acc, sG, eD, by omega, ha⟩, ?_⟩
        rintro j x Ga Ga' hj ⟨acc, sGa, eDa, laa, haa⟩ ⟨rfl, hx⟩ N6 hN6
        obtain ⟨kd, hkd, rfl⟩ := str_at hx
        refine ⟨rfl, .str t.nm, rfl, .str kd, rfl, .ref A0, rfl, .str kd, rfl, (by show 2 ≤ sizeLine; decide), fun p1 np1 => ?_⟩
        have z1 : Same Ga' (upd Ga' p1 (.tup [.str "store", .str kd])) := Same.fresh np1
        have Ra := (R3.same sGa).same z1
        obtain ⟨b, hb⟩ := room_ad Ra (u := nK kd) (v := nT t.nm) (sh2 t tm kd (List.mem_of_getElem? hkd))
        obtain ⟨es, e1, e2, e3', e4, e5⟩ := Ra.out
        have hc := gD_eq (sh2 t tm kd (List.mem_of_getElem? hkd))
        refine ⟨A0, es, nK kd, .ref b, rfl, ⟨.inl e1, e2⟩, .inr ⟨p1, ["store", kd], rfl, rfl, upd_same⟩, by rw [e5, hb]; rfl, .str t.nm, rfl, (by show 2 ≤ sizeLine; decide), fun p2 np2 => ?_⟩
        have z2 : Same (upd Ga' p1 (.tup [.str "store", .str kd])) (upd (upd Ga' p1 (.tup [.str "store", .str kd])) p2 (.tup [.str "taker", .str t.nm])) := Same.fresh np2
        obtain ⟨es2, r⟩ := (Ra.same z2).row _ _ hb
        refine ⟨b, es2, nT t.nm, .int _, rfl, MxO_at r, .inr ⟨p2, ["taker", t.nm], rfl, rfl, upd_same⟩, by rw [r.val, hc]; rfl, (by show 3 ≤ sizeLine; decide), fun p3 np3 => ?_⟩
        have z3 : Same (upd (upd Ga' p1 (.tup [.str "store", .str kd])) p2 (.tup [.str "taker", .str t.nm])) (upd (upd (upd Ga' p1 (.tup [.str "store", .str kd])) p2 (.tup [.str "taker", .str t.nm])) p3 (.tup [.str t.nm, .str kd, .int (gD g (nK kd) (nT t.nm))])) := Same.fresh np3
        have zz := (z1.trans z2).trans z3
        have n3 : p3 ≠ D5 := fun e => by
          have := (z1.trans z2) _ _ eDa
          rw [← e, np3] at this
          cases this
        refine hN6 _ _ ⟨acc, zz _ _ eDa, by rw [sizeLine_eq]; omega, acc ++ [.ref p3], (sGa.trans zz).put hD5, upd_same, by rw [List.length_append, List.length_singleton]; omega, fun x hx => ?_⟩
        rcases List.mem_append.mp hx with hx | hx
        · obtain ⟨t', b', rfl, n, e⟩ := haa x hx
          exact ⟨t', b', rfl, n, by rw [upd_ne n]; exact zz _ _ e⟩
        · obtain rfl := List.mem_singleton.mp hx
          exact ⟨p3, (t.nm, kd, gD g (nK kd) (nT t.nm)), rfl, n3, by rw [upd_ne n3, upd_same]⟩
      · rintro G ⟨acc, sG, eD, la5, ha⟩
        refine ⟨.ref D5, rfl, D5, rfl, ⟨_, SqL.of eD⟩, fun D6 hD6 => ?_⟩
        refine lc_foldY (walk_list (K := K) (a := D5) (xs := acc)) (fun i acc' _ => ∀ x ∈ acc', x ∈ acc) (by rw [sizeLine_eq]; omega) hD6 (fun x hx => nomatch hx) (fun G s => SqL.of (s _ _ eD)) yat_same (fun _ _ _ _ _ _ _ p => p) ?_ ?_
        · rintro i x acc' Ga Ga' hi sGa eDa ⟨rfl, hx⟩ hin N5 M hN hM
          have hm := List.mem_of_getElem? hx
          obtain ⟨t, b, rfl, _, e⟩ := ha x hm
          refine ⟨rfl, .ref t, rfl, t, _, 2, .int b.2.2, rfl, rfl, SqT.of (sGa _ _ e), rfl, b.2.2, 0, rfl, rfl, _, rfl, ?_⟩
          generalize decide ((0 : Int) < b.2.2) = bb
          cases bb
          · exact iteF (hM _ (Same.refl _) hin)
          · refine iteT ⟨.ref t, rfl, hN _ _ (Same.refl _) fun x hx => ?_⟩
            rcases List.mem_append.mp hx with hx | hx
            · exact hin x hx
            · obtain rfl := List.mem_singleton.mp hx
              exact hm
        · rintro Ga acc' sGa eDa hin
          refine ⟨D6, acc', rfl, SqL.of eDa, fun x hx => ?_, fun pr ys npr => (q _ (((s28.trans sG).trans sGa).trans (Same.fresh npr))).1 hf _⟩
          obtain ⟨t, b, rfl, _, e⟩ := ha x (hin x hx)
          exact ⟨t, b, rfl, sGa _ _ e⟩
    · have ea : ((T0.map fun t => decide (gD g (nT t.nm) nS < t.most)).any id) = true := by
        rw [hfit] at hf
        obtain ⟨t, ht⟩ := Classical.not_forall.mp hf
        obtain ⟨ht, hn⟩ := Classical.not_imp.mp ht
        rw [List.any_eq_true]
        exact ⟨_, List.mem_map.mpr ⟨t, ht, rfl⟩, by simpa using Classical.not_not.mp hn⟩
      rw [ea]
      exact iteT (hq.2 hf)
end
end Eld
end L2

set_option Elab.async false
set_option linter.all false
set_option maxRecDepth 100000
set_option maxHeartbeats 4000000
/-! ## the law's rows, and rows of counts -/
namespace L2
namespace Eld
open PySem PySem.Spec PyProof.Rows PySem.EldX
section
variable {P : Program} {w : World} {K : PySem.W.Frag} {mg : Str → Option Value} {base : Heap} {CA fI pN gN pF gF pM gM fE CL fLI fLE fLL fLA fLN fLK fLR fLP fM fD fO fS fW : Addr} {dM dD dO dS dW : FuncData}
/-! ### _law_small_rows -/
def spSmallRows (K : PySem.W.Frag) : Sp := fun vs H Q _ => ∃ (p l : Addr) (zs : List Str) (n : Nat), vs = [.ref p, .ref l, .int 3] ∧ PurseAt H p n ∧ n ≤ 60000000000 ∧ SqL K H l (zs.map V.str) ∧ l ≠ p ∧ (∀ z ∈ zs, IsWord z) ∧ zs.Nodup ∧ 1 ≤ zs.length ∧ zs.length ≤ 9 ∧
  ∀ (H' : Hp) (r : Addr) (tas : List Addr) (ts : List Tk), Kp p H H' → PurseAt H' p (n + 10000) → H r = none → RowsN p H' r tas ts → TsOk zs ts → (∀ t ∈ ts, t.most ≤ 2) → Q (.ref r) H'
theorem ok_smallRows {f fR fMo fNa : Addr} {fd dR dMo dNa : FuncData} (F : Fun K "_law_small_rows" "_law_small_rows" sSmallRows f fd) (FLRows : Fun K "_law_rows" "_law_rows" sLRows fR dR) (gLRows : mg "_law_rows" = some (.ref fR)) (FMost : Fun K "_law_most" "_law_most" sMost fMo dMo) (gMost : mg "_law_most" = some (.ref fMo)) (FNames : Fun K "_law_names" "_law_names" sNames fNa dNa) (gNames : mg "_law_names" = some (.ref fNa)) (L : Drw K mg fM fD fO fS fW dM dD dO dS dW) (B : Blt mg) : FnOk P w K mg base CX0 6 f fd ["_law_purse_here", "_law_kinds_here", "_law_few"] (spSmallRows K) := by
  have GDraw : FnOk P w K mg base CX0 2 fD dD ["_law_purse_here", "_law_many"] spDraw := L.okDraw B
  have GLRows : FnOk P w K mg base CX0 5 fR dR ["_law_purse_here", "_law_kinds_here", "_law_few"] (spLRows K) := ok_lrows FLRows FMost gMost FNames gNames L B
  have bLRows : Binds K dR ["_law_purse_here", "_law_kinds_here", "_law_few"] [] := FLRows.binds fun _ _ _ _ _ _ us hl => match us, hl with | [_, _, _], _ => rfl
  refine F.ok scSmallRows (fun vs H Q E h => ?_) (fun cdv A outer s H vs Q E hr h => ?_)
  · obtain ⟨p, l, zs, n, rfl, _⟩ := h
    rfl
  · obtain ⟨p, l, zs, n, rfl, hp, hn, hS, ne, hw, hnd, hz1, hz9, q⟩ := h
    refine ⟨_, (pss_one (ps_ret (pe_lc (own := [("_law_row", 3)]) (g := gName 3) (tt := tYes) (te := tTup (tCons (tOp (rIxT K) (tVar 3) (tC (.int 0))) (tCons (tOp (rIxT K) (tVar 3) (tC (.int 1))) (tCons (tOp (rI0 fun i j => .int (i + j)) (tC (.int 1)) (tCall spDraw [] E0 (tCons (tVar 0) (tCons (tC (.int 2)) tNil)))) tNil)))) rfl scSmallRows.nd (pi_list (pe_call GLRows (hr.mono (by decide)) (by rfl) gLRows FLRows.kp bLRows .nil pass0 (pa_cons (pv 0) (pa_cons (pv 1) (pa_cons (pv 2) pa_nil))))) (blkOk_by (own := [("_law_row", 3)]) (N := NSmallRows) (sc := defScope sSmallRows) (by decide +kernel)) (fun _ _ _ _ _ => pg_name (i := 3) scSmallRows.nd rfl (.inl rfl)) (fun _ _ _ _ _ => pts_nil)
      (fun _ _ _ _ _ => (pe_tup (pa_cons (pe_ix ix_tup (pv 3) pe_int (fun _ _ => rfl)) (pa_cons (pe_ix ix_tup (pv 3) pe_int (fun _ _ => rfl)) (pa_cons (pe_op op_add pe_int (pe_call GDraw (hr.mono (by decide)) (by rfl) L.gDraw L.Draw.kp L.bDraw .nil pass0 (pa_cons (pv 0) (pa_cons pe_int pa_nil)))) pa_nil)))))))), ?_⟩
    refine ⟨.ref p, rfl, .ref l, rfl, .int 3, rfl, p, l, zs, n, rfl, hp, by omega, hS, ne, hw, hnd, hz1, hz9, fun H1 r0 tas0 ts0 k1 p1 nr0 hR hok => ⟨r0, rfl, ⟨_, SqL.of hR.at_⟩, fun D hD => ?_⟩⟩
    have nDp : D ≠ p := Kp.ne p1 hD
    have l0 : tas0.length = ts0.length := Paired.length hR.rows
    have l3 := hok.le
    refine lc_foldP p (walk_refsE (K := K)) (fun i acc G => ∃ (tas : List Addr) (ts : List Tk), acc = tas.map V.ref ∧ PurseAt G p (n + 9000 + 40 * i) ∧ Paired (fun (a : Addr) (t : Tk) => ∃ fp, fp ≠ D ∧ a ≠ D ∧ fp ≠ p ∧ G a = some (.tup [.str t.nm, .ref fp, .int t.most]) ∧ G fp = some (.lst (t.fits.map V.str))) tas ts ∧ ts.length = i ∧ ∀ (j : Nat) (t : Tk), ts[j]? = some t → ∃ t0 : Tk, ts0[j]? = some t0 ∧ t.nm = t0.nm ∧ t.fits = t0.fits ∧ 1 ≤ t.most ∧ t.most ≤ 2) (by rw [sizeLine_eq]; omega) hD nDp
      ⟨[], [], rfl, p1.fresh hD, .nil, rfl, fun j t h => by simp at h⟩ (fun G k => SqL.of (k _ _ hR.ne hR.at_)) yat_same (fun i acc l' G G' eD kk ⟨tas, ts, e1, pp, hP, lt, ht⟩ => ⟨tas, ts, e1, pp.of_eq (by
        obtain ⟨_, _, _, _, e, _⟩ := pp
        rw [e]
        exact kk p _ (Ne.symm nDp) e), paired_mono hP fun a t ⟨fp, h1, h2, h5, h3, h4⟩ => ⟨fp, h1, h2, h5, kk _ _ h2 h3, kk _ _ h1 h4⟩, lt, ht⟩) ?_ ?_
    · rintro i x acc G G' hi sG eD ⟨rfl, hx⟩ ⟨tas, ts, rfl, hp', hP, lt, ht⟩ N M hN hM
      obtain ⟨ta, hta, rfl⟩ := map_ref_at hx
      obtain ⟨t0, ht0, fp, nfp, e1, e2⟩ := paired_getJ hR.rows hta
      have nta : ta ≠ p := fun z => by
        obtain ⟨_, _, _, _, e, _⟩ := p1
        rw [z, e] at e1
        cases e1
      have e1' := sG _ _ nta e1
      have e2' := sG _ _ nfp e2
      refine ⟨rfl, ?_⟩
      unfold tYes
      show (if true = true then _ else _)
      rw [if_pos rfl]
      refine ⟨.ref ta, rfl, ta, _, 0, .str t0.nm, rfl, rfl, SqT.of e1', rfl, .ref ta, rfl, ta, _, 1, .ref fp, rfl, rfl, SqT.of e1', rfl, .ref p, rfl, p, 2, _, rfl, hp', by omega, by decide, by decide +kernel, fun H3 r1 b3 p3 l1 u1 => ⟨1, r1, rfl, rfl, (by show 3 ≤ sizeLine; decide), fun nt nnt => ?_⟩⟩
      have s3 : Same H3 (upd H3 nt (.tup [.str t0.nm, .ref fp, .int (1 + r1)])) := Same.fresh nnt
      have kG : Kept (· = p) G' (upd H3 nt (.tup [.str t0.nm, .ref fp, .int (1 + r1)])) := fun b o hb e => s3 _ _ ((b3 b hb).trans e)
      have nfD : fp ≠ D := fun z => by rw [z, hD] at e2; cases e2
      have ntD : nt ≠ D := fun z => by
        have := (b3 D nDp).trans eD
        rw [← z, nnt] at this
        cases this
      refine hN _ _ kG ⟨tas ++ [nt], ts ++ [⟨t0.nm, t0.fits, 1 + r1⟩], by simp, (p3.mono (by omega)).same s3, ?_, by rw [List.length_append, lt]; rfl, fun j t hj => ?_⟩
      · refine Paired.snoc (paired_mono hP fun a t ⟨fp', h1, h2, h5, h3, h4⟩ => ⟨fp', h1, h2, h5, kG _ _ (fun z => ?_) h3, kG _ _ h5 h4⟩) ⟨fp, nfD, ntD, nfp, upd_same, kG _ _ nfp e2'⟩
        obtain ⟨_, _, _, _, e, _⟩ := hp'
        have z : a = p := z
        rw [z, e] at h3
        cases h3
      · rcases Nat.lt_or_ge j ts.length with lj | lj
        · rw [List.getElem?_append_left lj] at hj
          exact ht j t hj
        · have ej : j = ts.length := by
            have := (List.getElem?_eq_some_iff.mp hj).1
            rw [List.length_append, List.length_singleton] at this
            omega
          subst ej
          rw [List.getElem?_append_right (Nat.le_refl _), Nat.sub_self] at hj
          obtain rfl := Option.some.inj hj
          exact ⟨t0, by rw [lt]; exact ht0, rfl, rfl, by show 1 ≤ 1 + r1; omega, by show 1 + r1 ≤ 2; omega⟩
    · rintro G acc sG eD ⟨tas, ts, rfl, hp', hP, lt, ht⟩
      have kH : Kp p H G := k1.trans sG
      have enm : ts.map (·.nm) = ts0.map (·.nm) := by
        refine List.ext_getElem? fun j => ?_
        rw [List.getElem?_map, List.getElem?_map]
        rcases Nat.lt_or_ge j ts.length with lj | lj
        · have hj : ts[j]? = some (ts[j]'lj) := List.getElem?_eq_getElem _
          obtain ⟨t0, h1, h2, _⟩ := ht j _ hj
          rw [hj, h1]
          exact congrArg some h2
        · rw [List.getElem?_eq_none lj, List.getElem?_eq_none (by omega)]
      refine q G D tas ts kH (hp'.mono (by omega)) (Kp.free k1 nDp hD) ⟨nDp, eD, paired_mono hP fun a t ⟨fp, h1, h2, h5, h3, h4⟩ => ⟨fp, h5, h3, h4⟩⟩ ⟨by rw [enm]; exact hok.nd, fun t hm => ?_, by omega, hok.u⟩ fun t hm => ?_
      · obtain ⟨j, hj⟩ := List.mem_iff_getElem?.mp hm
        obtain ⟨t0, h1, h2, h3, h4, h5⟩ := ht j t hj
        have o := hok.ok t0 (List.mem_of_getElem? h1)
        have b30 : (2 : Int) < 10 ^ 30 := by decide +kernel
        exact ⟨by rw [h2]; exact o.nm, by rw [h3]; exact o.fits, h4, by omega⟩
      · obtain ⟨j, hj⟩ := List.mem_iff_getElem?.mp hm
        obtain ⟨t0, h1, h2, h3, h4, h5⟩ := ht j t hj
        exact h5
/-! ### _law_rows_of_counts -/
def spRowsCounts (K : PySem.W.Frag) : Sp := fun vs H Q _ => ∃ (r : Addr) (tas : List Addr) (ts : List Tk), vs = [.ref r] ∧ RowsL H r tas ts ∧ ts.length ≤ 3 ∧ (∀ t ∈ ts, 1 ≤ t.most ∧ t.most ≤ 2) ∧
  ∀ (H' : Hp) (q : Addr) (rs : List Addr) (cs : List (List Int)), Same H H' → H q = none → H' q = some (.lst (rs.map V.ref)) → Paired (fun (r : Addr) (c : List Int) => H' r = some (.lst (c.map V.int))) rs cs → (∀ c ∈ cs, CB ts c) → cs.length ≤ 27 → Q (.ref q) H'
theorem CB.snoc {ts : List Tk} {t : Tk} {c : List Int} {x : Int} (h : CB ts c) (h0 : 0 ≤ x) (h1 : x ≤ t.most) : CB (ts ++ [t]) (c ++ [x]) := ⟨by rw [List.length_append, List.length_append, h.len]; rfl, fun i u y a b => by
  rcases Nat.lt_or_ge i ts.length with li | li
  · rw [List.getElem?_append_left li] at a
    rw [List.getElem?_append_left (by rw [h.len]; exact li)] at b
    exact h.bd i u y a b
  · have ei : i = ts.length := by
      have := (List.getElem?_eq_some_iff.mp a).1
      rw [List.length_append, List.length_singleton] at this
      omega
    subst ei
    rw [List.getElem?_append_right (Nat.le_refl _), Nat.sub_self] at a
    rw [List.getElem?_append_right (by rw [h.len]; exact Nat.le_refl _), h.len, Nat.sub_self] at b
    obtain rfl := Option.some.inj a
    obtain rfl := Option.some.inj b
    exact ⟨h0, h1⟩⟩
theorem ok_rowsCounts {f : Addr} {fd : FuncData} {k : Nat} (F : Fun K "_law_rows_of_counts" "_law_rows_of_counts" sRowsCounts f fd) (B : Blt mg) : FnOk P w K mg base CX0 (k + 1) f fd ["_law_rows_here"] (spRowsCounts K) := by
  refine F.ok scRowsCounts (fun vs H Q E h => ?_) (fun cdv A outer s H vs Q E hr h => ?_)
  · obtain ⟨r, tas, ts, rfl, _⟩ := h
    rfl
  · obtain ⟨r, tas, ts, rfl, hR, l3, hm, q⟩ := h
    refine ⟨_, (pss_cons (ps_set (i := 1) scRowsCounts.nd rfl (.inl rfl) (pe_lst (pa_cons (pe_lst pa_nil) pa_nil)))
      (pss_cons (ps_for PassesOwn.never rfl (pi_list (pv 0)) (pg_name (i := 2) scRowsCounts.nd rfl (.inl rfl))
        (pss_cons (ps_set (i := 3) scRowsCounts.nd rfl (.inl rfl) (pe_lst pa_nil))
      (pss_cons (ps_for PassesOwn.never rfl (pi_list (pv 1)) (pg_name (i := 4) scRowsCounts.nd rfl (.inl rfl))
        (pss_one (ps_for PassesOwn.never rfl (pi_range1 rfl B.range (pa_cons (pe_op op_add (pe_ix ix_tup (pv 2) pe_int (fun _ _ => rfl)) pe_int) pa_nil)) (pg_name (i := 5) scRowsCounts.nd rfl (.inl rfl))
        (pss_one (ps_expr (pe_bm PySem.F.plainAttrs_list PySem.F.slot_list_append PySem.F.type_list_append mt_append (pv 3) (pa_cons (pe_op op_cat (pv 4) (pe_lst (pa_cons (pv 5) pa_nil))) pa_nil)))))))
      (pss_one (ps_set (i := 1) scRowsCounts.nd rfl (.inl rfl) (pv 3))))))
      (pss_one (ps_ret (pv 1))))), ?_⟩
    have lt : tas.length = ts.length := Paired.length hR.rows
    refine ⟨(by show 0 ≤ sizeLine; decide), fun e0 ne0 => ⟨(by show 1 ≤ sizeLine; decide), fun f0 nf0 => ?_⟩⟩
    have s0 : Same H (upd (upd H e0 (.lst [])) f0 (.lst [.ref e0])) := (Same.fresh ne0).trans (Same.fresh nf0)
    have nf0H := none_of_same (Same.fresh ne0) nf0
    refine ⟨.ref r, rfl, r, rfl, ⟨_, SqL.of (s0 _ _ hR.at_)⟩, ?_⟩
    refine for_it (walk_refsE (K := K)) (fun i σ G => ∃ (v2 v3 v4 v5 : Option V) (fa : Addr) (rs : List Addr) (cs : List (List Int)), σ = [some (.ref r), some (.ref fa), v2, v3, v4, v5] ∧ Same H G ∧ H fa = none ∧ G fa = some (.lst (rs.map V.ref)) ∧ Paired (fun (r : Addr) (c : List Int) => G r = some (.lst (c.map V.int))) rs cs ∧ (∀ c ∈ cs, CB (ts.take i) c) ∧ cs.length ≤ 3 ^ i)
      ⟨_, _, _, _, f0, [e0], [[]], rfl, s0, nf0H, upd_same, .cons ((Same.fresh nf0) _ _ upd_same) .nil, fun c hc => by
        rw [List.mem_singleton.mp hc, List.take_zero]
        exact ⟨rfl, fun i t x h => by simp at h⟩, Nat.le_refl _⟩ (fun i σ G _ ⟨_, _, _, _, _, _, _, _, s, _⟩ => SqL.of (s _ _ hR.at_)) ?_ ?_
    · rintro i x σ G G' hi ⟨v2, v3, v4, v5, fa, rs, cs, rfl, sG, nfa, efa, hP, hcb, lcs⟩ ⟨rfl, hx⟩
      obtain ⟨ta, hta, rfl⟩ := map_ref_at hx
      obtain ⟨t, ht, fp, e1, e2⟩ := paired_getJ hR.rows hta
      have tm := hm t (List.mem_of_getElem? ht)
      refine ⟨(by show 0 ≤ sizeLine; decide), fun ga nga => ?_⟩
      have sg : Same G' (upd G' ga (.lst [])) := Same.fresh nga
      have lr : rs.length = cs.length := Paired.length hP
      have p27 : 3 ^ i ≤ 9 := Nat.le_trans (Nat.pow_le_pow_right (by decide) (by omega : i ≤ 2)) (by decide)
      have et : ts.take (i + 1) = ts.take i ++ [t] := by rw [List.take_add_one, ht]; rfl
      refine ⟨.ref fa, rfl, fa, rfl, ⟨_, SqL.of (sg _ _ efa)⟩, ?_⟩
      refine for_it (walk_refsE (K := K)) (fun a σ G1 => ∃ (v4 v5 : Option V) (gs : List Addr) (gcs : List (List Int)), σ = [some (.ref r), some (.ref fa), some (.ref ta), some (.ref ga), v4, v5] ∧ Same G' G1 ∧ G1 ga = some (.lst (gs.map V.ref)) ∧ Paired (fun (r : Addr) (c : List Int) => r ≠ ga ∧ G1 r = some (.lst (c.map V.int))) gs gcs ∧ (∀ c ∈ gcs, CB (ts.take (i + 1)) c) ∧ gcs.length ≤ 3 * a)
        ⟨_, _, [], [], rfl, sg, upd_same, .nil, (fun c hc => nomatch hc), Nat.zero_le _⟩ (fun a σ G1 _ ⟨_, _, _, _, _, s, _⟩ => SqL.of (s _ _ efa)) ?_ ?_
      · rintro a x σ G1 G1' ha ⟨v4, v5, gs, gcs, rfl, sG1, ega, hP1, hcb1, lg1⟩ ⟨rfl, hx⟩
        obtain ⟨ra, hra, rfl⟩ := map_ref_at hx
        obtain ⟨c, hc, ec⟩ := paired_getJ hP hra
        have cb := hcb c (List.mem_of_getElem? hc)
        have e1' := (sG.trans sG1) _ _ e1
        refine ⟨.ref ta, rfl, ta, _, 2, .int t.most, rfl, rfl, SqT.of e1', rfl, t.most, 1, rfl, rfl, _, rfl, by omega, by omega, ?_⟩
        refine for_range (lo := 0) (n := (t.most + 1).toNat) (fun b σ G2 => ∃ (v5 : Option V) (gs : List Addr) (gcs : List (List Int)), σ = [some (.ref r), some (.ref fa), some (.ref ta), some (.ref ga), some (.ref ra), v5] ∧ Same G' G2 ∧ G2 ga = some (.lst (gs.map V.ref)) ∧ Paired (fun (r : Addr) (c : List Int) => r ≠ ga ∧ G2 r = some (.lst (c.map V.int))) gs gcs ∧ (∀ c ∈ gcs, CB (ts.take (i + 1)) c) ∧ gcs.length ≤ 3 * a + b)
          ⟨_, gs, gcs, rfl, sG1, ega, hP1, hcb1, lg1⟩ ?_ ?_
        · rintro b σ G2 hb ⟨v5, gs, gcs, rfl, sG2, ega2, hP2, hcb2, lg2⟩
          have lgg : gs.length = gcs.length := Paired.length hP2
          refine ⟨.ref ga, rfl, .inl ⟨rfl, _, SqL.of ega2⟩, .ref ra, rfl, .int (0 + (b : Int)), rfl, (by show 1 ≤ sizeLine; decide), fun o no => ?_⟩
          have so : Same G2 (upd G2 o (.lst [.int (0 + (b : Int))])) := Same.fresh no
          have lc : c.length ≤ 3 := by
            have := cb.len
            rw [List.length_take] at this
            omega
          refine ⟨ra, o, _, _, rfl, rfl, so _ _ (sG2 _ _ ec), upd_same, by rw [List.length_map, sizeLine_eq]; show c.length + 1 ≤ _; omega, fun d nd => ?_⟩
          have sd : Same (upd G2 o (.lst [.int (0 + (b : Int))])) (upd (upd G2 o (.lst [.int (0 + (b : Int))])) d (.lst (c.map V.int ++ [.int (0 + (b : Int))]))) := Same.fresh nd
          have so2 := so.trans sd
          have ndg : d ≠ ga := fun z => by
            have := so _ _ ega2
            rw [← z, nd] at this
            cases this
          refine ⟨ga, _, _, rfl, rfl, so2 _ _ ega2, by rw [List.length_map, sizeLine_eq]; omega, ?_⟩
          refine ⟨_, gs ++ [d], gcs ++ [c ++ [0 + (b : Int)]], rfl, (sG2.trans so2).put nga, by rw [upd_same]; simp, ?_, fun c' hc' => ?_, by rw [List.length_append, List.length_singleton]; omega⟩
          · refine Paired.snoc (paired_mono hP2 fun r c ⟨n, e⟩ => ⟨n, by rw [upd_ne n]; exact so2 _ _ e⟩) ⟨ndg, by rw [upd_ne ndg, upd_same, List.map_append]; rfl⟩
          · rcases List.mem_append.mp hc' with h | h
            · exact hcb2 c' h
            · rw [List.mem_singleton.mp h, et]
              exact cb.snoc (by omega) (by omega)
        · rintro σ G2 ⟨v5, gs, gcs, rfl, sG2, ega2, hP2, hcb2, lg2⟩
          exact ⟨_, _, gs, gcs, rfl, sG2, ega2, hP2, hcb2, by omega⟩
      · rintro σ G1 ⟨v4, v5, gs, gcs, rfl, sG1, ega, hP1, hcb1, lg1⟩
        refine ⟨.ref ga, rfl, _, _, _, _, ga, gs, gcs, rfl, sG.trans sG1, none_of_same sG nga, ega, paired_mono hP1 fun r c ⟨_, e⟩ => e, hcb1, ?_⟩
        rw [Nat.pow_succ]
        omega
    · rintro σ G ⟨v2, v3, v4, v5, fa, rs, cs, rfl, sG, nfa, efa, hP, hcb, lcs⟩
      have e3 : tas.length = ts.length := lt
      rw [e3, List.take_length] at hcb
      rw [e3] at lcs
      exact ⟨.ref fa, rfl, q G fa rs cs sG nfa efa hP hcb (Nat.le_trans lcs (Nat.le_trans (Nat.pow_le_pow_right (by decide) l3) (by decide)))⟩
end
end Eld
end L2

set_option Elab.async false
set_option linter.all false
set_option maxRecDepth 100000
set_option maxHeartbeats 4000000
/-! ## what the law's counts are -/
namespace L2
namespace Eld
open PySem PySem.Spec PyProof.Rows PySem.EldX
/-- so many bags of a kind -/
def stB (bags : List Str) (k : Str) : Int := (bags.count k : Nat)
theorem stB_nn (bags : List Str) (k : Str) : 0 ≤ stB bags k := by
  unfold stB
  omega
theorem stB_snoc (bags : List Str) (z k : Str) : stB (bags ++ [z]) k = stB bags k + if k = z then 1 else 0 := by
  unfold stB
  rw [List.count_append, List.count_singleton]
  by_cases h : k = z
  · rw [if_pos h, h]
    simp
  · rw [if_neg h]
    have : (z == k) = false := by simpa using fun e => h e.symm
    rw [this]
    simp
/-- one row's step at a place: a count more, if the kind fits and there is room -/
def step1 (ts : List Tk) (z : Str) (c : List Int) (j : Nat) : List (List Int) := match ts[j]?, c[j]? with
  | some t, some x => if z ∈ t.fits ∧ x < t.most then [c.set j (x + 1)] else []
  | _, _ => []
def steps (ts : List Tk) (z : Str) (c : List Int) (n : Nat) : List (List Int) := (List.range n).flatMap (step1 ts z c)
theorem steps_succ (ts : List Tk) (z : Str) (c : List Int) (n : Nat) : steps ts z c (n + 1) = steps ts z c n ++ step1 ts z c n := by
  unfold steps
  rw [List.range_succ, List.flatMap_append]
  simp
/-- the list with a bag more, before it is sorted -/
def moreL (ts : List Tk) (z : Str) (cs : List (List Int)) (a : Nat) : List (List Int) := (cs.take a).flatMap fun c => steps ts z c ts.length
theorem moreL_succ {ts : List Tk} {z : Str} {cs : List (List Int)} {a : Nat} {c : List Int} (h : cs[a]? = some c) : moreL ts z cs (a + 1) = moreL ts z cs a ++ steps ts z c ts.length := by
  unfold moreL
  rw [List.take_add_one, h, List.flatMap_append]
  simp
theorem mem_step1 {ts : List Tk} {z : Str} {c d : List Int} {j : Nat} : d ∈ step1 ts z c j ↔ ∃ t x, ts[j]? = some t ∧ c[j]? = some x ∧ z ∈ t.fits ∧ x < t.most ∧ d = c.set j (x + 1) := by
  unfold step1
  cases e : ts[j]? with
  | none => exact ⟨fun h => (by cases h), fun ⟨_, _, h, _⟩ => (by cases h)⟩
  | some t =>
    cases e2 : c[j]? with
    | none => exact ⟨fun h => (by cases h), fun ⟨_, _, _, h, _⟩ => (by cases h)⟩
    | some x =>
      show d ∈ (if z ∈ t.fits ∧ x < t.most then [c.set j (x + 1)] else []) ↔ _
      constructor
      · intro h
        split at h
        · rename_i q
          exact ⟨t, x, rfl, rfl, q.1, q.2, List.mem_singleton.mp h⟩
        · cases h
      · rintro ⟨t', x', h1, h2, h3, h4, rfl⟩
        cases h1
        cases h2
        rw [if_pos ⟨h3, h4⟩]
        exact List.mem_singleton.mpr rfl
theorem mem_moreL {ts : List Tk} {z : Str} {cs : List (List Int)} {d : List Int} : d ∈ moreL ts z cs cs.length ↔ ∃ c ∈ cs, ∃ j t x, ts[j]? = some t ∧ c[j]? = some x ∧ z ∈ t.fits ∧ x < t.most ∧ d = c.set j (x + 1) := by
  unfold moreL steps
  rw [List.take_length, List.mem_flatMap]
  constructor
  · rintro ⟨c, hc, h⟩
    obtain ⟨j, _, h⟩ := List.mem_flatMap.mp h
    obtain ⟨t, x, q⟩ := mem_step1.mp h
    exact ⟨c, hc, j, t, x, q⟩
  · rintro ⟨c, hc, j, t, x, q⟩
    refine ⟨c, hc, List.mem_flatMap.mpr ⟨j, List.mem_range.mpr (List.getElem?_eq_some_iff.mp q.1).1, mem_step1.mpr ⟨t, x, q⟩⟩⟩
/-- the rows of counts that can be had of the bags: each once -/
structure CsOk (ts : List Tk) (bags : List Str) (cs : List (List Int)) : Prop where
  cb : ∀ c ∈ cs, CB ts c
  fit : ∀ c ∈ cs, FitT (tsC ts c) (stB bags)
  all : ∀ c, CB ts c → FitT (tsC ts c) (stB bags) → c ∈ cs
  nd : cs.Nodup
  sum : ∀ c ∈ cs, sm c id ≤ bags.length
  ne : 0 < cs.length
theorem sm_set : ∀ {c : List Int} {j : Nat} {x y : Int}, c[j]? = some x → sm (c.set j y) id = sm c id - x + y
  | a :: c, 0, x, y, h => by
    obtain rfl : a = x := by simpa using h
    show y + sm c id = a + sm c id - a + y
    omega
  | a :: c, j + 1, x, y, h => by
    show a + sm (c.set j y) id = a + sm c id - x + y
    rw [sm_set (by simpa using h)]
    omega
  | [], j, x, y, h => by simp at h
theorem CB.set {ts : List Tk} {c : List Int} (h : CB ts c) {j : Nat} {t : Tk} {y : Int} (ht : ts[j]? = some t) (h0 : 0 ≤ y) (h1 : y ≤ t.most) : CB ts (c.set j y) := ⟨by rw [List.length_set]; exact h.len, fun i u x a b => by
  rw [List.getElem?_set] at b
  by_cases e : j = i
  · subst e
    rw [ht] at a
    obtain rfl := Option.some.inj a
    split at b
    · split at b
      · obtain rfl := Option.some.inj b
        exact ⟨h0, h1⟩
      · cases b
    · rename_i n; exact absurd rfl n
  · rw [if_neg e] at b
    exact h.bd i u x a b⟩
theorem set_back {c : List Int} {j : Nat} {x y : Int} (h : c[j]? = some x) : (c.set j y).set j x = c := by
  rw [List.set_set]
  refine List.ext_getElem? fun i => ?_
  rw [List.getElem?_set]
  by_cases e : j = i
  · subst e
    rw [if_pos rfl, if_pos (List.getElem?_eq_some_iff.mp h).1, h]
  · rw [if_neg e]
theorem get_set {c : List Int} {j : Nat} {x y : Int} (h : c[j]? = some x) : (c.set j y)[j]? = some y := by
  rw [List.getElem?_set, if_pos rfl, if_pos (List.getElem?_eq_some_iff.mp h).1]
theorem CsOk.nil {ts : List Tk} (nd : (ts.map (·.nm)).Nodup) (hm : ∀ t ∈ ts, 0 ≤ t.most) : CsOk ts [] [List.replicate ts.length 0] := by
  have z : CB ts (List.replicate ts.length 0) := ⟨by simp, fun i t x a b => by
    have := List.eq_of_mem_replicate (List.mem_of_getElem? b)
    subst this
    exact ⟨Int.le_refl _, hm t (List.mem_of_getElem? a)⟩⟩
  have sz : sm (List.replicate ts.length (0 : Int)) id = 0 := sm_zero fun a ha => List.eq_of_mem_replicate ha
  refine ⟨fun c hc => List.mem_singleton.mp hc ▸ z, fun c hc => ?_, fun c hc hf => ?_, by simp, fun c hc => ?_, Nat.one_pos⟩
  · rw [List.mem_singleton.mp hc]
    intro L
    rw [tsC_sm z.len, sz]
    unfold cost
    have e1 : 0 ≤ sm (tsC ts (List.replicate ts.length 0)) (fun t => if L t.nm = true then 0 else t.most) := sm_nn fun t ht => by
      have := z.nn t ht
      split <;> omega
    have e2 : 0 ≤ sm (hits (tsC ts (List.replicate ts.length 0)) L) (stB []) := sm_nn fun k _ => stB_nn _ k
    omega
  · have h := hf fun _ => true
    rw [tsC_sm hc.len] at h
    unfold cost at h
    have e1 : sm (tsC ts c) (fun t => if (fun _ : Str => true) t.nm = true then 0 else t.most) = 0 := sm_zero fun t _ => rfl
    have e2 : sm (hits (tsC ts c) fun _ => true) (stB []) = 0 := sm_zero fun k _ => rfl
    rw [e1, e2] at h
    have nn : ∀ x ∈ c, 0 ≤ x := fun x hx => by
      obtain ⟨i, hi⟩ := List.mem_iff_getElem?.mp hx
      have li := (List.getElem?_eq_some_iff.mp hi).1
      have ht : ts[i]? = some (ts[i]'(by have := hc.len; omega)) := List.getElem?_eq_getElem _
      exact (hc.bd i _ x ht hi).1
    refine List.mem_singleton.mpr (List.eq_replicate_iff.mpr ⟨hc.len, fun x hx => ?_⟩)
    have := sm_mem (f := id) nn hx
    have := nn x hx
    show x = 0
    have q : id x ≤ sm c id := sm_mem nn hx
    have q2 : id x = x := rfl
    omega
  · rw [List.mem_singleton.mp hc, sz]
    exact Int.le_refl _
theorem CsOk.snoc {ts : List Tk} {bags : List Str} {cs cs' : List (List Int)} (h : CsOk ts bags cs) (nd : (ts.map (·.nm)).Nodup) {z : Str} (hs : ∀ d, d ∈ cs' ↔ d ∈ cs ∨ d ∈ moreL ts z cs cs.length) (nd' : cs'.Nodup) : CsOk ts (bags ++ [z]) cs' := by
  have st := fun c (hc : CB ts c) => fitC_step nd hc (stB_nn bags) (z := z) (stB_snoc bags z)
  have out : ∀ d ∈ cs', CB ts d ∧ FitT (tsC ts d) (stB (bags ++ [z])) ∧ sm d id ≤ (bags ++ [z]).length := fun d hd => by
    rcases (hs d).mp hd with q | q
    · refine ⟨h.cb d q, (st d (h.cb d q)).mpr (.inl (h.fit d q)), ?_⟩
      have := h.sum d q
      rw [List.length_append, List.length_singleton]
      omega
    · obtain ⟨c, hc, j, t, x, h1, h2, h3, h4, rfl⟩ := mem_moreL.mp q
      have b := (h.cb c hc).bd j t x h1 h2
      have cb := (h.cb c hc).set h1 (y := x + 1) (by omega) (by omega)
      refine ⟨cb, (st _ cb).mpr (.inr ⟨j, t, x + 1, h1, get_set h2, h3, by omega, ?_⟩), ?_⟩
      · rw [show x + 1 - 1 = x by omega, set_back h2]
        exact h.fit c hc
      · have := h.sum c hc
        rw [sm_set h2, List.length_append, List.length_singleton]
        omega
  refine ⟨fun d hd => (out d hd).1, fun d hd => (out d hd).2.1, fun d hd hf => ?_, nd', fun d hd => (out d hd).2.2, ?_⟩
  · rcases (st d hd).mp hf with q | ⟨j, t, x, h1, h2, h3, h4, f⟩
    · exact (hs d).mpr (.inl (h.all d hd q))
    · have b := hd.bd j t x h1 h2
      have cb := hd.set h1 (y := x - 1) (by omega) (by omega)
      refine (hs d).mpr (.inr (mem_moreL.mpr ⟨d.set j (x - 1), h.all _ cb f, j, t, x - 1, h1, get_set h2, h3, by omega, ?_⟩))
      rw [show x - 1 + 1 = x by omega, set_back h2]
  · have hn := h.ne
    obtain ⟨c, hc⟩ : ∃ c, c ∈ cs := ⟨_, List.getElem_mem hn⟩
    exact List.length_pos_of_mem ((hs c).mpr (.inl hc))
/-! ### few of them -/
def allV : Nat → List (List Int)
  | 0 => [[]]
  | d + 1 => (allV d).flatMap fun c => [0 :: c, 1 :: c, 2 :: c]
theorem mem_allV : ∀ {c : List Int}, (∀ x ∈ c, 0 ≤ x ∧ x ≤ 2) → c ∈ allV c.length
  | [], _ => List.mem_singleton.mpr rfl
  | x :: c, h => by
    have h1 := mem_allV (c := c) fun y hy => h y (List.mem_cons_of_mem _ hy)
    have h2 := h x List.mem_cons_self
    refine List.mem_flatMap.mpr ⟨c, h1, ?_⟩
    have : x = 0 ∨ x = 1 ∨ x = 2 := by omega
    rcases this with rfl | rfl | rfl <;> simp
def fewV (d : Nat) : List (List Int) := (allV d).filter fun c => decide (c.sum ≤ 3)
/-- how many a row of counts can bring: itself and a step at each place with room -/
def wgt (c : List Int) : Int := 1 + ((c.filter fun x => decide (x < 2)).length : Nat)
theorem fewV_ok : ∀ d, d ≤ 3 → (fewV d).Nodup ∧ sm (fewV d) wgt < 64
  | 0, _ => by decide
  | 1, _ => by decide
  | 2, _ => by decide
  | 3, _ => by decide
  | d + 4, h => by omega
theorem sm_subG {α : Type} [DecidableEq α] {A U : List α} (hA : A.Nodup) (hU : U.Nodup) (h : ∀ a ∈ A, a ∈ U) {f : α → Int} (h0 : ∀ a, 0 ≤ f a) : sm A f ≤ sm U f := by
  have e : sm A f = sm (U.filter fun k => decide (k ∈ A)) f := sm_same hA (hU.filter _) (fun k => by
    rw [List.mem_filter, decide_eq_true_iff]
    exact ⟨fun q => ⟨h k q, q⟩, fun q => q.2⟩) f
  rw [e, sm_filter]
  refine sm_le fun k _ => ?_
  have := h0 k
  split <;> omega
theorem steps_len {ts : List Tk} {z : Str} (hm : ∀ t ∈ ts, t.most ≤ 2) {c : List Int} (hc : c.length = ts.length) : ∀ n, n ≤ ts.length → (steps ts z c n).length ≤ ((c.take n).filter fun x => decide (x < 2)).length
  | 0, _ => Nat.zero_le _
  | n + 1, h => by
    have ih := steps_len (z := z) hm hc n (by omega)
    have hx : c[n]? = some (c[n]'(by omega)) := List.getElem?_eq_getElem _
    have ht : ts[n]? = some (ts[n]'h) := List.getElem?_eq_getElem _
    generalize c[n]'(by omega) = x at hx
    generalize ts[n]'h = t at ht
    rw [steps_succ, List.length_append, List.take_add_one, hx, List.filter_append, List.length_append]
    have e : (step1 ts z c n).length ≤ (((some x).toList).filter fun x => decide (x < 2)).length := by
      unfold step1
      rw [ht, hx]
      show (if z ∈ t.fits ∧ x < t.most then [c.set n (x + 1)] else []).length ≤ _
      split
      · rename_i q
        have := hm t (List.mem_of_getElem? ht)
        have : x < 2 := by omega
        simp [this]
      · exact Nat.zero_le _
    omega
theorem more_len {ts : List Tk} {z : Str} (hm : ∀ t ∈ ts, t.most ≤ 2) : ∀ {cs : List (List Int)}, (∀ c ∈ cs, c.length = ts.length) → ((cs.length + (cs.flatMap fun c => steps ts z c ts.length).length : Nat) : Int) ≤ sm cs wgt
  | [], _ => Int.le_refl _
  | c :: cs, h => by
    have ih := more_len (z := z) hm (cs := cs) fun d hd => h d (List.mem_cons_of_mem _ hd)
    have hc := h c List.mem_cons_self
    have h1 := steps_len (z := z) hm hc ts.length (Nat.le_refl _)
    rw [← hc, List.take_length, hc] at h1
    rw [List.flatMap_cons, List.length_append, List.length_cons]
    show _ ≤ wgt c + sm cs wgt
    unfold wgt at ih ⊢
    omega
theorem CsOk.few {ts : List Tk} {bags : List Str} {cs : List (List Int)} (h : CsOk ts bags cs) (l3 : ts.length ≤ 3) (hm : ∀ t ∈ ts, t.most ≤ 2) (lb : bags.length ≤ 3) (z : Str) : cs.length + (moreL ts z cs cs.length).length < 64 := by
  have a := more_len (z := z) hm fun c hc => (h.cb c hc).len
  have o := fewV_ok ts.length l3
  have b : sm cs wgt ≤ sm (fewV ts.length) wgt := sm_subG h.nd o.1 (fun c hc => by
    have cb := h.cb c hc
    refine List.mem_filter.mpr ⟨?_, decide_eq_true ?_⟩
    · rw [← cb.len]
      refine mem_allV fun x hx => ?_
      obtain ⟨i, hi⟩ := List.mem_iff_getElem?.mp hx
      have li := (List.getElem?_eq_some_iff.mp hi).1
      have ht : ts[i]? = some (ts[i]'(by have := cb.len; omega)) := List.getElem?_eq_getElem _
      have b := cb.bd i _ x ht hi
      have := hm _ (List.mem_of_getElem? ht)
      omega
    · have := h.sum c hc
      rw [sm_sum]
      omega) fun c => by
    unfold wgt
    omega
  unfold moreL
  rw [List.take_length]
  omega
end Eld
end L2

set_option Elab.async false
set_option linter.all false
set_option maxRecDepth 100000
set_option maxHeartbeats 4000000
/-! ## _law_counts -/
namespace L2
namespace Eld
open PySem PySem.Spec PyProof.Rows PySem.EldX
def rTupOf (K : PySem.W.Frag) : List V → Hp → VK → Prop := fun xs H Q => ∃ p ys, xs = [.ref p] ∧ ((SqL K H p ys ∧ ∀ l, H l = none → Q (.ref l) (upd H l (.tup ys))) ∨ (SqT K H p ys ∧ Q (.ref p) H))
theorem call_tupleK {X : Cx} : CallR X (.type "tuple") (rTupOf X.K) := call_tuple_of
theorem paired_nodup {α β : Type} : ∀ {L : List (α × β)}, Paired (fun (a : α) (b : β) => True) (L.map (·.1)) (L.map (·.2))
  | [] => .nil
  | _ :: L => .cons trivial paired_nodup
theorem upd_upd2 {H : Hp} {a : Addr} {x y : HO} : upd (upd H a x) a y = upd H a y := by
  funext b
  unfold upd
  split <;> rfl
theorem steps_mono {ts : List Tk} {z : Str} {c : List Int} {n : Nat} : ∀ {m : Nat}, n ≤ m → (steps ts z c n).length ≤ (steps ts z c m).length
  | 0, h => by
    obtain rfl : n = 0 := by omega
    exact Nat.le_refl _
  | m + 1, h => by
    by_cases e : n = m + 1
    · rw [e]
      exact Nat.le_refl _
    · have := steps_mono (ts := ts) (z := z) (c := c) (n := n) (m := m) (by omega)
      rw [steps_succ, List.length_append]
      omega
section
variable {P : Program} {w : World} {K : PySem.W.Frag} {mg : Str → Option Value} {base : Heap}
def spLCounts (K : PySem.W.Frag) : Sp := fun vs H Q _ => ∃ (r l : Addr) (tas : List Addr) (ts : List Tk) (bags : List Str), vs = [.ref r, .ref l] ∧ RowsL H r tas ts ∧ (ts.map (·.nm)).Nodup ∧ ts.length ≤ 3 ∧ (∀ t ∈ ts, 1 ≤ t.most ∧ t.most ≤ 2) ∧ H l = some (.lst (bags.map V.str)) ∧ bags.length ≤ 4 ∧
  ∀ (H' : Hp) (q : Addr) (rs : List Addr) (cs : List (List Int)), Same H H' → H q = none → H' q = some (.lst (rs.map V.ref)) → Paired (fun (r : Addr) (c : List Int) => H' r = some (.lst (c.map V.int))) rs cs → CsOk ts bags cs → cs.length < 64 → Q (.ref q) H'
theorem ok_lawCounts {f : Addr} {fd : FuncData} {k : Nat} (F : Fun K "_law_counts" "_law_counts" sLCounts f fd) (B : Blt mg) (B3 : Blt3 mg) : FnOk P w K mg base CX0 (k + 1) f fd ["_law_rows_here", "_law_bags"] (spLCounts K) := by
  refine F.ok scLCounts (fun vs H Q E h => ?_) (fun cdv A outer s H vs Q E hr h => ?_)
  · obtain ⟨r, l, tas, ts, bags, rfl, _⟩ := h
    rfl
  · obtain ⟨r, l, tas, ts, bags, rfl, hR, nd, l3, hm, hl, lb, q⟩ := h
    refine ⟨_, (pss_cons (ps_set (i := 2) scLCounts.nd rfl (.inl rfl) (pe_lst (pa_cons (pe_lc (own := [("_law_row", 7)]) (g := gName 7) (tt := tYes) (te := tC (.int 0)) rfl scLCounts.nd (pi_list (pv 0)) (blkOk_by (own := [("_law_row", 7)]) (N := NLCounts) (sc := defScope sLCounts) (by decide +kernel)) (fun _ _ _ _ _ => pg_name (i := 7) scLCounts.nd rfl (.inl rfl)) (fun _ _ _ _ _ => pts_nil) (fun _ _ _ _ _ => pe_int)) pa_nil)))
      (pss_cons (ps_for PassesOwn.never rfl (pi_list (pv 1)) (pg_name (i := 3) scLCounts.nd rfl (.inl rfl))
        (pss_cons (ps_set (i := 4) scLCounts.nd rfl (.inl rfl) (pe_callTy call_listK (by rfl) B.list (by decide +kernel) (pa_cons (pv 2) pa_nil)))
      (pss_cons (ps_for PassesOwn.never rfl (pi_list (pv 2)) (pg_name (i := 5) scLCounts.nd rfl (.inl rfl))
        (pss_one (ps_for PassesOwn.never rfl (pi_enum (by rfl) B3.enumerate (pa_cons (pv 0) pa_nil)) (pg_tup rfl (pgs_cons (pg_name (i := 6) scLCounts.nd rfl (.inl rfl)) (pgs_cons (pg_name (i := 7) scLCounts.nd rfl (.inl rfl)) pgs_nil)))
        (pss_one (ps_if (PW.pt (pw_and (pt_cmpR op_in_seq (pv 3) (pe_ix ix_tup (pv 7) pe_int (fun _ _ => rfl)) (by rfl)) (pw_and1 (pt_cmpR op_lt (pe_ix ix_list (pv 5) (pv 6) (fun _ _ => rfl)) (pe_ix ix_tup (pv 7) pe_int (fun _ _ => rfl)) (nomark _))))) (pss_cons (ps_set (i := 8) scLCounts.nd rfl (.inl rfl) (pe_callTy call_listK (by rfl) B.list (by decide +kernel) (pa_cons (pv 5) pa_nil)))
      (pss_cons (ps_asg (pe_op op_add (pe_ix ix_list (pv 8) (pv 6) (fun _ _ => rfl)) pe_int) (pg_sub (pv 8) (pv 6) set_list))
      (pss_one (ps_expr (pe_bm PySem.F.plainAttrs_list PySem.F.slot_list_append PySem.F.type_list_append mt_append (pv 4) (pa_cons (pv 8) pa_nil)))))) pss_nil)))))
      (pss_one (ps_setLc (i := 2) (own := [("_law_row", 7)]) (g := gName 7) (tt := tYes) (te := tCB (rListOf K) (tCons (tVar 7) tNil)) rfl scLCounts.nd rfl rfl (sw_true rfl rfl rfl (by decide +kernel)) (pi_list (pe_callB (cr_sortedB rfl) (by rfl) B.sorted (by decide +kernel) (pa_cons (pe_callTy (cr_setOfT rfl hr.units) (by rfl) B.set (by decide +kernel) (pa_cons (pe_lc (own := [("_law_one", 8)]) (g := gName 8) (tt := tYes) (te := tCB (rTupOf K) (tCons (tVar 8) tNil)) rfl scLCounts.nd (pi_list (pv 4)) (blkOk_by (own := [("_law_one", 8)]) (N := NLCounts) (sc := defScope sLCounts) (by decide +kernel)) (fun _ _ _ _ _ => pg_name (i := 8) scLCounts.nd rfl (.inl rfl)) (fun _ _ _ _ _ => pts_nil) (fun _ _ _ _ _ => (pe_callTy call_tupleK (by rfl) B.tuple (by decide +kernel) (pa_cons (pv 8) pa_nil)))) pa_nil)) pa_nil))) (blkOk_by (own := [("_law_row", 7)]) (N := NLCounts) (sc := defScope sLCounts) (by decide +kernel)) (fun _ _ _ _ _ => pg_name (i := 7) scLCounts.nd rfl (.inl rfl)) (fun _ _ _ _ _ => pts_nil) (fun _ _ _ _ _ => (pe_callTy call_listK (by rfl) B.list (by decide +kernel) (pa_cons (pv 7) pa_nil))))))))
      (pss_one (ps_ret (pv 2))))), ?_⟩
    have lt : tas.length = ts.length := Paired.length hR.rows
    have hm0 : ∀ t ∈ ts, 0 ≤ t.most := fun t ht => by have := (hm t ht).1; omega
    have hm2 : ∀ t ∈ ts, t.most ≤ 2 := fun t ht => (hm t ht).2
    refine ⟨.ref r, rfl, r, rfl, ⟨_, SqL.of hR.at_⟩, fun D0 hD0 => ?_⟩
    refine lc_foldY (walk_refsE (K := K)) (fun i acc _ => acc = (List.replicate i (0 : Int)).map V.int) (by rw [sizeLine_eq]; omega) hD0 rfl (fun G s => SqL.of (s _ _ hR.at_)) yat_same (fun _ _ _ _ _ _ _ p => p) ?_ ?_
    · rintro i x acc G G' hi sG eD ⟨rfl, hx⟩ rfl N M hN hM
      refine ⟨rfl, ?_⟩
      unfold tYes
      show (if true = true then _ else _)
      rw [if_pos rfl]
      refine hN _ _ (Same.refl _) ?_
      rw [List.replicate_succ', List.map_append]
      rfl
    rintro G0 acc0 s0 e0 rfl
    refine ⟨(by show 1 ≤ sizeLine; decide), fun f0 nf0 => ?_⟩
    have s1 := s0.trans (Same.fresh (o := .lst [V.ref D0]) nf0)
    have e1 : (upd G0 f0 (.lst [V.ref D0])) D0 = some (.lst ((List.replicate tas.length (0 : Int)).map V.int)) := (Same.fresh nf0) _ _ e0
    have ef1 : (upd G0 f0 (.lst [V.ref D0])) f0 = some (.lst [V.ref D0]) := upd_same
    have nf0H := none_of_same s0 nf0
    generalize upd G0 f0 (.lst [V.ref D0]) = G1 at s1 e1 ef1
    refine ⟨.ref l, rfl, l, rfl, ⟨_, SqL.of (s1 _ _ hl)⟩, ?_⟩
    refine for_it (walk_strs (K := K)) (fun i σ G => ∃ (v3 v4 v5 v6 v7 v8 : Option V) (fa : Addr) (rs : List Addr) (cs : List (List Int)), σ = [some (.ref r), some (.ref l), some (.ref fa), v3, v4, v5, v6, v7, v8] ∧ Same H G ∧ H fa = none ∧ G fa = some (.lst (rs.map V.ref)) ∧ Paired (fun (r : Addr) (c : List Int) => G r = some (.lst (c.map V.int))) rs cs ∧ CsOk ts (bags.take i) cs ∧ cs.length < 64)
      ⟨_, _, _, _, _, _, f0, [D0], [List.replicate ts.length 0], rfl, s1, nf0H, ef1, .cons (by rw [← lt]; exact e1) .nil, by rw [List.take_zero]; exact CsOk.nil nd hm0, by show 1 < 64; decide⟩ (fun i σ G _ ⟨_, _, _, _, _, _, _, _, _, _, s, _⟩ => SqL.of (s _ _ hl)) ?_ ?_
    · rintro i x σ G G' hi ⟨v3, v4, v5, v6, v7, v8, fa, rs, cs, rfl, sG, nfa, efa, hP, hok, l64⟩ ⟨rfl, hx⟩
      obtain ⟨z, hz, rfl⟩ := str_at hx
      have lr : rs.length = cs.length := Paired.length hP
      have lbi : (bags.take i).length ≤ 3 := by
        have := (List.getElem?_eq_some_iff.mp hz).1
        rw [List.length_take]
        omega
      have few := hok.few l3 hm2 lbi z
      refine ⟨.ref fa, rfl, fa, _, rfl, .inl (SqL.of efa), fun ma nma => ?_⟩
      have sm1 : Same G' (upd G' ma (.lst (rs.map V.ref))) := Same.fresh nma
      have ne_ma : ∀ (b : Addr) {o : HO}, G' b = some o → b ≠ ma := fun b o e z => by rw [z, nma] at e; cases e
      refine ⟨.ref fa, rfl, fa, rfl, ⟨_, SqL.of (sm1 _ _ efa)⟩, ?_⟩
      have mono : ∀ a, a ≤ cs.length → (moreL ts z cs a).length ≤ (moreL ts z cs cs.length).length := fun a _ => by
        unfold moreL
        rw [List.take_length]
        have e := congrArg (fun l => (l.flatMap fun c => steps ts z c ts.length).length) (List.take_append_drop a cs)
        rw [List.flatMap_append, List.length_append] at e
        omega
      refine for_it (walk_refsE (K := K)) (fun a σ G1 => ∃ (v5 v6 v7 v8 : Option V) (mrs : List Addr), σ = [some (.ref r), some (.ref l), some (.ref fa), some (.str z), some (.ref ma), v5, v6, v7, v8] ∧ Same G' G1 ∧ G1 ma = some (.lst (mrs.map V.ref)) ∧ Paired (fun (r : Addr) (c : List Int) => r ≠ ma ∧ G1 r = some (.lst (c.map V.int))) mrs (cs ++ moreL ts z cs a))
        ⟨_, _, _, _, rs, rfl, sm1, upd_same, by
          unfold moreL
          rw [List.take_zero]
          show Paired _ rs (cs ++ [])
          rw [List.append_nil]
          exact paired_mono hP fun r c e => ⟨ne_ma r e, sm1 _ _ e⟩⟩ (fun a σ G1 _ ⟨_, _, _, _, _, _, s, _⟩ => SqL.of (s _ _ efa)) ?_ ?_
      · rintro a x σ G1 G1' ha ⟨v5, v6, v7, v8, mrs, rfl, sG1, ema, hP1⟩ ⟨rfl, hx⟩
        obtain ⟨ca, hca, rfl⟩ := map_ref_at hx
        obtain ⟨c, hc, ec⟩ := paired_getJ hP hca
        have cb := hok.cb c (List.mem_of_getElem? hc)
        have lac := (List.getElem?_eq_some_iff.mp hc).1
        have mono2 : ∀ b, b ≤ ts.length → (steps ts z c b).length ≤ (steps ts z c ts.length).length := fun b hb => by
          exact steps_mono hb
        have m1 := mono (a + 1) lac
        rw [moreL_succ hc, List.length_append] at m1
        refine ⟨.ref r, rfl, r, _, rfl, SqL.of ((sG.trans sG1) _ _ hR.at_), ?_⟩
        refine for_it (walk_enum (K := K) (a := r) (xs := tas.map V.ref)) (fun b σ G2 => ∃ (v6 v7 v8 : Option V) (mrs : List Addr), σ = [some (.ref r), some (.ref l), some (.ref fa), some (.str z), some (.ref ma), some (.ref ca), v6, v7, v8] ∧ Same G' G2 ∧ G2 ma = some (.lst (mrs.map V.ref)) ∧ Paired (fun (r : Addr) (c : List Int) => r ≠ ma ∧ G2 r = some (.lst (c.map V.int))) mrs (cs ++ moreL ts z cs a ++ steps ts z c b))
          ⟨_, _, _, mrs, rfl, sG1, ema, by
            show Paired _ mrs (cs ++ moreL ts z cs a ++ [])
            rw [List.append_nil]
            exact hP1⟩ (fun b σ G2 _ ⟨_, _, _, _, _, s, _⟩ => SqL.of ((sG.trans s) _ _ hR.at_)) ?_ ?_
        · rintro b x σ G2 G2' hb ⟨v6, v7, v8, mrs, rfl, sG2, ema2, hP2⟩ ⟨T, u1, u2, rfl, nT, rfl, hu1, hu2⟩
          obtain rfl := Option.some.inj hu1
          have hu2 : (tas.map V.ref)[b]? = some u2 := hu2
          obtain ⟨ta, hta, rfl⟩ := map_ref_at hu2
          obtain ⟨t, ht, fp, et, ef⟩ := paired_getJ hR.rows hta
          have lbt := (List.getElem?_eq_some_iff.mp ht).1
          have hxb : c[b]? = some (c[b]'(by have := cb.len; omega)) := List.getElem?_eq_getElem _
          generalize c[b]'(by have := cb.len; omega) = xb at hxb
          have sT : Same G2 (upd G2 T (.tup [.int (b : Nat), .ref ta])) := Same.fresh nT
          have s3 := sG2.trans sT
          have s3H := sG.trans s3
          have e5 := s3 _ _ ec
          have ema3 := sT _ _ ema2
          have hP3 : Paired (fun (r : Addr) (c : List Int) => r ≠ ma ∧ (upd G2 T (.tup [.int (b : Nat), .ref ta])) r = some (.lst (c.map V.int))) mrs (cs ++ moreL ts z cs a ++ steps ts z c b) := paired_mono hP2 fun r c ⟨n, e⟩ => ⟨n, sT _ _ e⟩
          have eT3 : (upd G2 T (.tup [.int (b : Nat), .ref ta])) T = some (.tup [.int (b : Nat), .ref ta]) := upd_same
          refine ⟨T, _, rfl, SqT.of upd_same, rfl, .int (b : Nat), [.ref ta], rfl, .ref ta, [], rfl, rfl, ?_⟩
          refine ⟨.str z, rfl, .ref ta, rfl, ta, _, 1, .ref fp, rfl, rfl, SqT.of (s3H _ _ et), rfl, fp, _, rfl, .inl (SqL.of (s3H _ _ ef)), rfl, strs_flat _, _, rfl, ?_⟩
          rw [inV_strs]
          have lmr : mrs.length = (cs ++ moreL ts z cs a ++ steps ts z c b).length := Paired.length hP2
          have m2 := mono2 b (by omega)
          rw [List.length_append, List.length_append] at lmr
          have stay : step1 ts z c b = [] → ∃ (w6 w7 w8 : Option V) (mrs' : List Addr), [some (.ref r), some (.ref l), some (.ref fa), some (.str z), some (.ref ma), some (.ref ca), some (.int (b : Nat)), some (.ref ta), v8] = [some (.ref r), some (.ref l), some (.ref fa), some (.str z), some (.ref ma), some (.ref ca), w6, w7, w8] ∧ Same G' (upd G2 T (.tup [.int (b : Nat), .ref ta])) ∧ (upd G2 T (.tup [.int (b : Nat), .ref ta])) ma = some (.lst (mrs'.map V.ref)) ∧ Paired (fun (r : Addr) (c : List Int) => r ≠ ma ∧ (upd G2 T (.tup [.int (b : Nat), .ref ta])) r = some (.lst (c.map V.int))) mrs' (cs ++ moreL ts z cs a ++ steps ts z c (b + 1)) := fun e => by
            refine ⟨_, _, _, mrs, rfl, s3, ema3, ?_⟩
            rw [steps_succ, e, List.append_nil]
            exact hP3
          have es1 : step1 ts z c b = if z ∈ t.fits ∧ xb < t.most then [c.set b (xb + 1)] else [] := by
            unfold step1
            rw [ht, hxb]
          by_cases g1 : z ∈ t.fits
          · rw [decide_eq_true g1]
            refine iteT ⟨.ref ca, rfl, .int (b : Nat), rfl, ca, _, _, .int xb, rfl, rfl, SqL.of e5, atI_nat (by rw [List.getElem?_map, hxb]; rfl), .ref ta, rfl, ta, _, 2, .int t.most, rfl, rfl, SqT.of (s3H _ _ et), rfl, xb, t.most, rfl, rfl, _, rfl, ?_⟩
            by_cases g2 : xb < t.most
            · rw [decide_eq_true g2]
              refine iteT (B := False) (iteT (B := False) ?_)
              refine ⟨.ref ca, rfl, ca, _, rfl, .inl (SqL.of e5), fun o no => ?_⟩
              have noT : o ≠ ma := fun z => by rw [z, ema3] at no; cases no
              refine ⟨.ref o, rfl, .int (b : Nat), rfl, o, _, _, .int xb, rfl, rfl, SqL.of upd_same, atI_nat (by rw [List.getElem?_map, hxb]; rfl), xb, 1, rfl, rfl, .ref o, rfl, .int (b : Nat), rfl, o, _, (b : Nat), b, rfl, rfl, upd_same, ?_, ?_⟩
              · have h2 : ((b : Nat) : Int) < ((c.map V.int).length : Nat) := by
                  rw [List.length_map, cb.len]
                  omega
                simp only [ixN, if_pos (Int.natCast_nonneg b), if_pos h2, Int.toNat_natCast]
              rw [upd_upd2, ← List.map_set]
              have so : Same (upd G2 T (.tup [.int (b : Nat), .ref ta])) (upd (upd G2 T (.tup [.int (b : Nat), .ref ta])) o (.lst ((c.set b (xb + 1)).map V.int))) := Same.fresh no
              refine ⟨.ref ma, rfl, .inl ⟨rfl, _, SqL.of (so _ _ ema3)⟩, .ref o, rfl, ma, _, _, rfl, rfl, so _ _ ema3, by rw [List.length_map, sizeLine_eq]; omega, ?_⟩
              refine ⟨_, _, _, mrs ++ [o], rfl, (s3.trans so).put nma, by rw [upd_same]; simp, ?_⟩
              rw [steps_succ, es1, if_pos ⟨g1, g2⟩, ← List.append_assoc]
              exact Paired.snoc (paired_mono hP3 fun r c ⟨n, e⟩ => ⟨n, by rw [upd_ne n]; exact so _ _ e⟩) ⟨noT, by rw [upd_ne noT, upd_same]⟩
            · rw [decide_eq_false g2]
              refine iteF (A := False) (iteF (A := False) ?_)
              exact stay (by rw [es1, if_neg fun q => g2 q.2])
          · rw [decide_eq_false g1]
            refine iteF (A := False) (iteF (A := False) ?_)
            exact stay (by rw [es1, if_neg fun q => g1 q.1])
        · rintro σ G2 ⟨v6, v7, v8, mrs, rfl, sG2, ema2, hP2⟩
          rw [List.length_map, lt] at hP2
          exact ⟨_, _, _, _, mrs, rfl, sG2, ema2, by rw [moreL_succ hc, ← List.append_assoc]; exact hP2⟩
      · rintro σ G1 ⟨v5, v6, v7, v8, mrs, rfl, sG1, ema, hP1⟩
        rw [lr] at hP1
        have lmr : mrs.length = (cs ++ moreL ts z cs cs.length).length := Paired.length hP1
        rw [List.length_append] at lmr
        refine ⟨.ref ma, rfl, ma, rfl, ⟨_, SqL.of ema⟩, fun D5 hD5 => ?_⟩
        have nD5 : ∀ (b : Addr) {o : HO}, G1 b = some o → b ≠ D5 := fun b o e z => by rw [z, hD5] at e; cases e
        refine lc_foldY (walk_refsE (K := K)) (fun i acc G => ∃ L : List (Addr × List Int), acc = L.map (fun q => V.ref q.1) ∧ L.map (·.2) = (cs ++ moreL ts z cs cs.length).take i ∧ ∀ q ∈ L, q.1 ≠ D5 ∧ G q.1 = some (.tup (q.2.map V.int))) (by rw [sizeLine_eq]; omega) hD5 ⟨[], rfl, by rw [List.take_zero]; rfl, fun q hq => nomatch hq⟩ (fun G s => SqL.of (s _ _ ema)) yat_same (fun i acc l' G G' eD kk ⟨L, e1, e2, e3⟩ => ⟨L, e1, e2, fun q hq => ⟨(e3 q hq).1, kk _ _ (e3 q hq).1 (e3 q hq).2⟩⟩) ?_ ?_
        · rintro i x acc G2 G2' hi sG2 eD ⟨rfl, hx⟩ ⟨L, rfl, eL, hL⟩ N M hN hM
          obtain ⟨ra, hra, rfl⟩ := map_ref_at hx
          obtain ⟨c, hc, _, ec⟩ := paired_getJ hP1 hra
          refine ⟨rfl, ?_⟩
          unfold tYes
          show (if true = true then _ else _)
          rw [if_pos rfl]
          refine ⟨.ref ra, rfl, ra, _, rfl, .inl ⟨SqL.of (sG2 _ _ ec), fun t nt => ?_⟩⟩
          have st : Same G2' (upd G2' t (.tup (c.map V.int))) := Same.fresh nt
          have ntD : t ≠ D5 := fun z => by rw [z, eD] at nt; cases nt
          refine hN _ _ st ⟨L ++ [(t, c)], by simp, by rw [List.map_append, eL, List.take_add_one, hc]; rfl, fun q hq => ?_⟩
          rcases List.mem_append.mp hq with hq | hq
          · exact ⟨(hL q hq).1, st _ _ (hL q hq).2⟩
          · rw [List.mem_singleton.mp hq]
            exact ⟨ntD, upd_same⟩
        rintro G2 acc sG2 eD ⟨L, rfl, eL, hL⟩
        rw [lmr, ← List.length_append, List.take_length] at eL
        have lL : L.length < 64 := by
          have := congrArg List.length eL
          rw [List.length_map, List.length_append] at this
          omega
        refine ⟨D5, L, rfl, SqL.of eD, fun q hq => SqT.of (hL q hq).2, lL, fun sa S nsa hS1 hS2 => ?_⟩
        have ss : Same G2 (upd G2 sa (SetTO P w sa S)) := Same.fresh nsa
        have esa : (upd G2 sa (SetTO P w sa S)) sa = some (SetTO P w sa S) := upd_same
        have hcc : ∀ d ∈ cs ++ moreL ts z cs cs.length, CB ts d := fun d hd => by
          rcases List.mem_append.mp hd with h | h
          · exact hok.cb d h
          · obtain ⟨c, hc, j, t, x, h1, h2, h3, h4, rfl⟩ := mem_moreL.mp h
            have b := (hok.cb c hc).bd j t x h1 h2
            exact (hok.cb c hc).set h1 (by omega) (by omega)
        have hin : ∀ d, d ∈ S.map (·.2) ↔ d ∈ cs ++ moreL ts z cs cs.length := fun d => by
          constructor
          · intro h
            obtain ⟨q, hq, rfl⟩ := List.mem_map.mp h
            rw [← eL]
            exact List.mem_map.mpr ⟨q, hS1 q hq, rfl⟩
          · intro h
            rw [← eL] at h
            obtain ⟨q, hq, rfl⟩ := List.mem_map.mp h
            exact hS2 q hq
        have sG13 : Same G' (upd G2 sa (SetTO P w sa S)) := (sG1.trans sG2).trans ss
        have hT3 : ∀ q ∈ S, (upd G2 sa (SetTO P w sa S)) q.1 = some (.tup (q.2.map V.int)) := fun q hq => ss _ _ (hL q (hS1 q hq)).2
        refine ⟨sa, S, rfl, esa, fun q hq => SqT.of (hT3 q hq), ?_, fun S' pa pm nd' l64' npa => ?_⟩
        · rcases Nat.eq_zero_or_pos ts.length with e0 | e0
          · refine .inl fun q hq => ?_
            have := (hcc q.2 ((hin q.2).mp (List.mem_map.mpr ⟨q, hq, rfl⟩))).len
            rw [e0] at this
            exact List.eq_nil_of_length_eq_zero this
          · refine .inr ⟨ts.length, 3, e0, fun q hq => ?_⟩
            have cb := hcc q.2 ((hin q.2).mp (List.mem_map.mpr ⟨q, hq, rfl⟩))
            refine ⟨cb.len, fun x hx => ?_⟩
            obtain ⟨j, hj⟩ := List.mem_iff_getElem?.mp hx
            have lj := (List.getElem?_eq_some_iff.mp hj).1
            have ht : ts[j]? = some (ts[j]'(by have := cb.len; omega)) := List.getElem?_eq_getElem _
            have b := cb.bd j _ x ht hj
            have := hm2 _ (List.mem_of_getElem? ht)
            omega
        have sp : Same (upd G2 sa (SetTO P w sa S)) (upd (upd G2 sa (SetTO P w sa S)) pa (.lst (S'.map fun q => V.ref q.1))) := Same.fresh npa
        have epa : (upd (upd G2 sa (SetTO P w sa S)) pa (.lst (S'.map fun q => V.ref q.1))) pa = some (.lst ((S'.map (·.1)).map V.ref)) := by rw [upd_same, List.map_map]; rfl
        refine ⟨pa, rfl, ⟨_, SqL.of epa⟩, fun D6 hD6 => ?_⟩
        have hT4 : ∀ q ∈ S', (upd (upd G2 sa (SetTO P w sa S)) pa (.lst (S'.map fun q => V.ref q.1))) q.1 = some (.tup (q.2.map V.int)) := fun q hq => sp _ _ (hT3 q (pm.mem_iff.mp hq))
        refine lc_foldY (walk_refsE (K := K)) (fun i acc G => ∃ rs' : List Addr, acc = rs'.map V.ref ∧ Paired (fun (r : Addr) (c : List Int) => r ≠ D6 ∧ G r = some (.lst (c.map V.int))) rs' ((S'.map (·.2)).take i)) (by rw [sizeLine_eq, List.length_map]; omega) hD6 ⟨[], rfl, by rw [List.take_zero]; exact .nil⟩ (fun G s => SqL.of (s _ _ epa)) yat_same (fun i acc l' G G' eD kk ⟨rs', e1, e2⟩ => ⟨rs', e1, paired_mono e2 fun r c ⟨n, e⟩ => ⟨n, kk _ _ n e⟩⟩) ?_ ?_
        · rintro i x acc G5 G5' hi sG5 eD5 ⟨rfl, hx⟩ ⟨rs', rfl, hP5⟩ N M hN hM
          obtain ⟨ra, hra, rfl⟩ := map_ref_at hx
          rw [List.getElem?_map] at hra
          obtain ⟨qq, hqq, rfl⟩ := Option.map_eq_some_iff.mp hra
          refine ⟨rfl, ?_⟩
          unfold tYes
          show (if true = true then _ else _)
          rw [if_pos rfl]
          refine ⟨.ref qq.1, rfl, qq.1, _, rfl, .inr (SqT.of (sG5 _ _ (hT4 qq (List.mem_of_getElem? hqq)))), fun o no => ?_⟩
          have so : Same G5' (upd G5' o (.lst (qq.2.map V.int))) := Same.fresh no
          have noD : o ≠ D6 := fun z => by rw [z, eD5] at no; cases no
          refine hN _ _ so ⟨rs' ++ [o], by simp, ?_⟩
          rw [List.take_add_one, List.getElem?_map, hqq]
          exact Paired.snoc (paired_mono hP5 fun r c ⟨n, e⟩ => ⟨n, so _ _ e⟩) ⟨noD, upd_same⟩
        · rintro G5 acc sG5 eD5 ⟨rs', rfl, hP5⟩
          have l5 : (S'.map (·.1)).length = (S'.map (·.2)).length := by rw [List.length_map, List.length_map]
          rw [l5, List.take_length] at hP5
          have s45 : Same G' G5 := (sG13.trans sp).trans sG5
          refine ⟨_, _, _, _, _, _, D6, rs', S'.map (·.2), rfl, sG.trans s45, none_of_same (sG.trans (sG13.trans sp)) hD6, eD5, paired_mono hP5 fun r c ⟨_, e⟩ => e, ?_, by rw [List.length_map]; exact l64'⟩
          rw [List.take_add_one, hz]
          refine hok.snoc nd (fun d => ?_) nd'
          rw [← List.mem_append, ← hin d]
          exact (pm.map (·.2)).mem_iff
    · rintro σ G ⟨v3, v4, v5, v6, v7, v8, fa, rs, cs, rfl, sG, nfa, efa, hP, hok, l64⟩
      rw [List.take_length] at hok
      exact ⟨.ref fa, rfl, q G fa rs cs sG nfa efa hP hok l64⟩
end
end Eld
end L2

set_option Elab.async false
set_option linter.all false
set_option maxRecDepth 100000
set_option maxHeartbeats 4000000
/-! ## the deal and the counts -/
namespace L2
namespace Eld
open PySem PySem.Spec PyProof.Rows PySem.EldX
theorem tsC_zip {L : Str → Bool} : ∀ {ts : List Tk} {c : List Int}, c.length = ts.length → sm (tsC ts c) (fun t => if L t.nm = true then 0 else t.most) = sm ((ts.map (·.nm)).zip c) fun p => if L p.1 = true then 0 else p.2
  | [], [], _ => rfl
  | t :: ts, x :: c, h => by
    show (if L t.nm = true then 0 else x) + sm (tsC ts c) _ = (if L t.nm = true then 0 else x) + sm ((ts.map (·.nm)).zip c) _
    rw [tsC_zip (by simpa using h)]
  | [], _ :: _, h => by simp at h
  | _ :: _, [], h => by simp at h
theorem hits_asks {ks : List Ask} {ts : List Tk} (h : Paired AskTk ks ts) (st : Str → Int) (L : Str → Bool) : sm (hits (ks.map tkA) L) st = sm (hits ts L) st := by
  have e := cost_asks h st L
  unfold cost at e
  have e1 : sm (ks.map tkA) (fun t => if L t.nm = true then 0 else t.most) = sm ts fun t => if L t.nm = true then 0 else t.most := by
    clear e
    induction h with
    | nil => rfl
    | cons h _ ih =>
      rw [List.map_cons, sm, sm, ih]
      show (if L (_ : Ask).nm = true then 0 else (_ : Ask).m) + _ = _
      rw [h.nm, h.m]
  omega
theorem nm_asks {ks : List Ask} {ts : List Tk} (h : Paired AskTk ks ts) : (ks.map tkA).map (·.nm) = ts.map (·.nm) := by
  rw [List.map_map, ← asks_nm h]
  rfl
theorem fit_asks {ks : List Ask} {ts : List Tk} (h : Paired AskTk ks ts) {c : List Int} (hc : c.length = ts.length) {st : Str → Int} : FitT (tsC (ks.map tkA) c) st ↔ FitT (tsC ts c) st := by
  have hk : c.length = (ks.map tkA).length := by
    rw [List.length_map, hc]
    exact (Paired.length h).symm
  have e : ∀ L, cost (tsC (ks.map tkA) c) st L = cost (tsC ts c) st L := fun L => by
    unfold cost
    rw [tsC_zip hk, tsC_zip hc, nm_asks h, tsC_hits hk, tsC_hits hc, hits_asks h]
  unfold FitT
  rw [tsC_sm hk, tsC_sm hc]
  exact ⟨fun q L => by rw [← e]; exact q L, fun q L => by rw [e]; exact q L⟩
theorem deal_tk {ks : List Ask} {ts : List Tk} (h : Paired AskTk ks ts) {st : Str → Int} {ds : List (Str × Int)} (d : IsDeal ks st ds) : IsDealT ts st ds := ⟨d.nm.trans (asks_nm h), fun j hj => by
  have := d.ls j (by rw [Paired.length h]; exact hj)
  rw [← List.map_take] at this
  exact (least_asks (paired_take h j)).mp this⟩
theorem deal_cb {ts : List Tk} (nd : (ts.map (·.nm)).Nodup) (hm : ∀ t ∈ ts, 0 ≤ t.most) {st : Str → Int} (h0 : ∀ k, 0 ≤ st k) {ds : List (Str × Int)} (d : IsDealT ts st ds) : CB ts (ds.map (·.2)) := by
  have ld : ds.length = ts.length := by
    have := congrArg List.length d.nm
    simpa using this
  refine ⟨by rw [List.length_map]; exact ld, fun i t x a b => ?_⟩
  rw [List.getElem?_map] at b
  obtain ⟨y, hy, rfl⟩ := Option.map_eq_some_iff.mp b
  have li := (List.getElem?_eq_some_iff.mp a).1
  have et : ts.take (i + 1) = ts.take i ++ [t] := by rw [List.take_add_one, a]; rfl
  have a0 := d.ls i (Nat.le_of_lt li)
  have a1 := d.ls (i + 1) li
  rw [sm_take_succ ds hy, et] at a1
  have h1 := least_mono h0 (hm t (List.mem_of_getElem? a)) a0 a1
  have h2 := least_top (by rw [← et]; exact nd.sublist ((List.take_sublist _ _).map _)) a0 a1
  exact ⟨by omega, by omega⟩
theorem lex_top : ∀ {a c : List Int}, a.length = c.length → (∀ j, j ≤ c.length → sm (c.take j) id ≤ sm (a.take j) id) → ¬ a < c
  | [], [], _, _ => List.lt_irrefl _
  | x :: a, y :: c, h, q => fun lt => by
    have q1 := q 1 (by simp)
    have e1 : sm ((y :: c).take 1) id = y := by
      show y + sm (c.take 0) id = y
      rw [List.take_zero]
      show y + 0 = y
      omega
    have e2 : sm ((x :: a).take 1) id = x := by
      show x + sm (a.take 0) id = x
      rw [List.take_zero]
      show x + 0 = x
      omega
    rcases List.cons_lt_cons_iff.mp lt with h1 | ⟨h1, h2⟩
    · omega
    · refine lex_top (a := a) (c := c) (by simpa using h) (fun j hj => ?_) h2
      have := q (j + 1) (by simpa using hj)
      have u1 : sm ((y :: c).take (j + 1)) id = y + sm (c.take j) id := rfl
      have u2 : sm ((x :: a).take (j + 1)) id = x + sm (a.take j) id := rfl
      omega
  | [], _ :: _, h, _ => by simp at h
  | _ :: _, [], h, _ => by simp at h
/-- the deal is the greatest of them, by rank and by sum -/
theorem deal_top {ts : List Tk} (nd : (ts.map (·.nm)).Nodup) (hm : ∀ t ∈ ts, 0 ≤ t.most) {bags : List Str} {cs : List (List Int)} (h : CsOk ts bags cs) {ds : List (Str × Int)} (d : IsDealT ts (stB bags) ds) :
    (∀ c ∈ cs, (∀ y ∈ cs, ¬ c < y) → c = ds.map (·.2)) ∧ ∀ m, m ∈ cs.map List.sum → (∀ y ∈ cs.map List.sum, y ≤ m) → m = (ds.map (·.2)).sum := by
  have ld : ds.length = ts.length := by
    have := congrArg List.length d.nm
    simpa using this
  have cb := deal_cb nd hm (stB_nn bags) d
  have tin := h.all _ cb (deal_fit nd hm (stB_nn bags) d)
  have pre : ∀ c ∈ cs, ∀ j, j ≤ c.length → sm (c.take j) id ≤ sm ((ds.map (·.2)).take j) id := fun c hc j hj => by
    have := fitC_le nd (h.cb c hc) (h.fit c hc) (d.ls j (by rw [← (h.cb c hc).len]; exact hj))
    rw [← List.map_take, sm_map]
    exact this
  refine ⟨fun c hc mx => ?_, fun m hm' mx => ?_⟩
  · have n1 := mx _ tin
    have n2 := lex_top (by rw [cb.len, (h.cb c hc).len]) (pre c hc)
    exact List.le_antisymm (List.not_lt.mp n2) (List.not_lt.mp n1)
  · obtain ⟨c, hc, rfl⟩ := List.mem_map.mp hm'
    have h1 := mx _ (List.mem_map.mpr ⟨_, tin, rfl⟩)
    have h2 := pre c hc c.length (Nat.le_refl _)
    rw [List.take_length, List.take_of_length_le (by rw [cb.len, (h.cb c hc).len]; exact Nat.le_refl _), ← sm_sum, ← sm_sum] at h2
    omega
/-! ### the stock of the bags -/
theorem putK_len (kvs : List (Key × V)) (k : Key) (v : V) : (putK kvs k v).length ≤ kvs.length + 1 := by
  by_cases h : k ∈ kvs.map Prod.fst
  · have := congrArg List.length (putK_fst (v := v) h)
    rw [List.length_map, List.length_map] at this
    omega
  · rw [putK_new' h, List.length_append]
    exact Nat.le_refl _
theorem KvsB.putN {b : Int} {kvs : List (Key × V)} {x : Str} {m : Int} (h : KvsB b kvs) (w : IsWord x) (m0 : 0 ≤ m) (m1 : m < b) : KvsB b (putK kvs (.inr x) (.int m)) := by
  by_cases q : (.inr x : Key) ∈ kvs.map Prod.fst
  · exact h.put (Int.le_refl _) q w m0 m1
  · rw [putK_new' q]
    refine ⟨fun p hp => ?_⟩
    rcases List.mem_append.mp hp with hp | hp
    · exact h.ok p hp
    · rw [List.mem_singleton.mp hp]
      exact ⟨x, m, rfl, w, m0, m1⟩
theorem valV_stN {b : Int} {kvs : List (Key × V)} (h : KvsB b kvs) (z : Str) : (valV kvs (.inr z)).getD (.int 0) = .int (stN kvs z) := by
  unfold stN
  cases e : valV kvs (.inr z) with
  | none => rfl
  | some v =>
    obtain ⟨x, n, e2, _⟩ := h.ok _ (valV_mem e)
    cases e2
    rfl
theorem KvsB.stockAt {b : Int} {kvs : List (Key × V)} {H : Hp} {d : Addr} (h : KvsB b kvs) (e : H d = some (.dK kvs)) (l : kvs.length ≤ 60000) : StockAt H d kvs := ⟨e, fun p hp => by
  obtain ⟨x, n, e, w, n0, _⟩ := h.ok p hp
  exact ⟨x, n, e, w, n0⟩, l⟩
/-! ### rows of counts as data -/
theorem intsL_lay : ∀ ns : List Int, PyData.canLayAll0 (ns.map .int) = true
  | [] => by simp only [List.map_nil, PyData.canLayAll0]
  | n :: ns => by simp only [List.map_cons, PyData.canLayAll0, PyData.canLay0, intsL_lay ns, Bool.and_self]
theorem intsL_depth : ∀ ns : List Int, PyData.depthAll (ns.map .int) ≤ 2
  | [] => by simp only [List.map_nil, PyData.depthAll]; omega
  | n :: ns => by
    have := intsL_depth ns
    simp only [List.map_cons, PyData.depthAll, PyData.depth]
    omega
theorem shaped_encL (ns : List Int) : SeqAt.shaped (encL ns) = true := by
  unfold SeqAt.shaped encL
  rw [Bool.and_eq_true, decide_eq_true_eq]
  refine ⟨?_, ?_⟩
  · simp only [PyData.canLay0]
    exact intsL_lay ns
  · have := intsL_depth ns
    simp only [PyData.depth]
    omega
theorem encLs_lay : ∀ cs : List (List Int), PyData.canLayAll0 (cs.map encL) = true
  | [] => by simp only [List.map_nil, PyData.canLayAll0]
  | c :: cs => by simp only [List.map_cons, PyData.canLayAll0, encL, PyData.canLay0, intsL_lay c, encLs_lay cs, Bool.and_self]
theorem shaped_encLs (cs : List (List Int)) : SeqAt.shaped (.list (cs.map encL)) = true := by
  unfold SeqAt.shaped
  rw [Bool.and_eq_true, decide_eq_true_eq]
  refine ⟨?_, ?_⟩
  · simp only [PyData.canLay0]
    exact encLs_lay cs
  · have := depthL cs
    simp only [PyData.depth]
    omega
theorem eqv_ints : ∀ a b : List Int, PyData.eqvAll (a.map .int) (b.map .int) = decide (a = b)
  | [], [] => by simp [PyData.eqvAll]
  | [], _ :: _ => by simp [PyData.eqvAll]
  | _ :: _, [] => by simp [PyData.eqvAll]
  | x :: a, y :: b => by
    simp only [List.map_cons, PyData.eqvAll, PyData.eqv, eqv_ints a b]
    by_cases h : x = y <;> by_cases h2 : a = b <;> simp [h, h2]
theorem eqv_encL (a b : List Int) : PyData.eqv (encL a) (encL b) = decide (a = b) := by
  unfold encL
  simp only [PyData.eqv]
  exact eqv_ints a b
theorem any_encL (cs : List (List Int)) (c : List Int) : ((cs.map encL).any fun z => PyData.eqv z (encL c)) = decide (c ∈ cs) := by
  rw [Bool.eq_iff_iff, List.any_eq_true, decide_eq_true_iff]
  constructor
  · rintro ⟨z, hz, e⟩
    obtain ⟨d, hd, rfl⟩ := List.mem_map.mp hz
    rw [eqv_encL] at e
    exact of_decide_eq_true e ▸ hd
  · intro h
    exact ⟨_, List.mem_map.mpr ⟨c, h, rfl⟩, by rw [eqv_encL]; exact decide_eq_true rfl⟩
theorem dp_intsL {K : PySem.W.Frag} {H : Hp} {r : Addr} {c : List Int} (h : H r = some (.lst (c.map V.int))) : Dp K H (.ref r) (encL c) := .lst (SqL.of h) (dp_intsQ c)
theorem dp_rowsLs {K : PySem.W.Frag} {H : Hp} {q : Addr} {rs : List Addr} {cs : List (List Int)} (hq : H q = some (.lst (rs.map V.ref))) (h : Paired (fun (r : Addr) (c : List Int) => H r = some (.lst (c.map V.int))) rs cs) : Dp K H (.ref q) (.list (cs.map encL)) := .lst (SqL.of hq) (dp_rowsL h)
theorem fair_rows {ks : List Ask} {ts : List Tk} {U : List Str} {st : Str → Int} (h : Paired AskTk ks ts) (hok : TsOk U ts) (h0 : ∀ k, 0 ≤ st k) : Fair ks st U := by
  refine ⟨by rw [asks_nm h]; exact hok.nd, fun k hk => ?_, h0, by have := hok.u; omega, by rw [Paired.length h]; have := hok.le; omega⟩
  obtain ⟨i, hi⟩ := List.mem_iff_getElem?.mp hk
  obtain ⟨t, ht, a⟩ := paired_getJ h hi
  have o := hok.ok t (List.mem_of_getElem? ht)
  exact ⟨by rw [a.m]; have := o.most.1; omega, a.ks.nodup_iff.mpr o.fits.1, fun x hx => (o.fits.2.2 x (a.ks.mem_iff.mp hx)).2⟩
theorem word_rows {ks : List Ask} {ts : List Tk} {U : List Str} (h : Paired AskTk ks ts) (hok : TsOk U ts) : ∀ k ∈ ks, IsWord k.nm := fun k hk => by
  obtain ⟨i, hi⟩ := List.mem_iff_getElem?.mp hk
  obtain ⟨t, ht, a⟩ := paired_getJ h hi
  rw [a.nm]
  exact (hok.ok t (List.mem_of_getElem? ht)).nm
/-- a row of counts of the rows, told as pairs -/
theorem told_rows {ks : List Ask} {ts : List Tk} (h : Paired AskTk ks ts) {c : List Int} (cb : CB ts c) : Told ks ((ts.map (·.nm)).zip c) ∧ ((ts.map (·.nm)).zip c).map (·.2) = c := by
  have lc := cb.len
  have get : ∀ (i : Nat) (x : Str × Int), ((ts.map (·.nm)).zip c)[i]? = some x → ∃ t : Tk, ts[i]? = some t ∧ c[i]? = some x.2 := fun i x e => by
    rw [List.getElem?_zip_eq_some, List.getElem?_map] at e
    obtain ⟨t, ht, _⟩ := Option.map_eq_some_iff.mp e.1
    exact ⟨t, ht, e.2⟩
  have m1 : ((ts.map (·.nm)).zip c).map (·.1) = ts.map (·.nm) := List.map_fst_zip (by rw [List.length_map]; omega)
  have m2 : ((ts.map (·.nm)).zip c).map (·.2) = c := List.map_snd_zip (by rw [List.length_map]; omega)
  refine ⟨⟨by rw [m1, asks_nm h], fun x hx => ?_, fun i x e => ?_⟩, m2⟩
  · obtain ⟨i, hi⟩ := List.mem_iff_getElem?.mp hx
    obtain ⟨t, a, b⟩ := get i x hi
    exact (cb.bd i t _ a b).1
  · obtain ⟨t, a, b⟩ := get i x e
    have li := (List.getElem?_eq_some_iff.mp a).1
    have lk : i < ks.length := by rw [Paired.length h]; exact li
    obtain ⟨t', ht', q⟩ := paired_getJ h (askI_at lk)
    rw [a] at ht'
    obtain rfl := Option.some.inj ht'
    rw [q.m]
    exact (cb.bd i t _ a b).2
end Eld
end L2

set_option Elab.async false
set_option linter.all false
set_option maxRecDepth 100000
set_option maxHeartbeats 4000000
/-! ## the law -/
namespace L2
namespace Eld
open PySem PySem.Spec PyProof.Rows PySem.EldX
theorem hu65 {A : Around} {k : Nat} (hr : L2.Room k A) : A.units + 65 < cLine := by have := hr.un; omega
/-- the law's defs, where they stand -/
structure Defs (K : PySem.W.Frag) (mg : Str → Option Value) (fPurse fPurses fNames fKinds fMost fLRows fSmallRows fLineOf fLCounts fRowsCounts fAreAskers fIsPair fArePairs fAreCounts fNeedCounts fSpread fDeal fDealt : Addr) (dPurse dPurses dNames dKinds dMost dLRows dSmallRows dLineOf dLCounts dRowsCounts dAreAskers dIsPair dArePairs dAreCounts dNeedCounts dSpread dDeal dDealt : FuncData) : Prop where
  Purse : Fun K "_law_purse" "_law_purse" sPurse fPurse dPurse
  Purses : Fun K "_law_purses" "_law_purses" sPurses fPurses dPurses
  Names : Fun K "_law_names" "_law_names" sNames fNames dNames
  Kinds : Fun K "_law_kinds" "_law_kinds" sKinds fKinds dKinds
  Most : Fun K "_law_most" "_law_most" sMost fMost dMost
  LRows : Fun K "_law_rows" "_law_rows" sLRows fLRows dLRows
  SmallRows : Fun K "_law_small_rows" "_law_small_rows" sSmallRows fSmallRows dSmallRows
  LineOf : Fun K "_law_line_of" "_law_line_of" sLineOf fLineOf dLineOf
  LCounts : Fun K "_law_counts" "_law_counts" sLCounts fLCounts dLCounts
  RowsCounts : Fun K "_law_rows_of_counts" "_law_rows_of_counts" sRowsCounts fRowsCounts dRowsCounts
  AreAskers : Fun K "_are_askers" "_are_askers" sAreAskers fAreAskers dAreAskers
  IsPair : Fun K "_is_pair" "_is_pair" sIsPair fIsPair dIsPair
  ArePairs : Fun K "are_pairs" "are_pairs" sArePairs fArePairs dArePairs
  AreCounts : Fun K "are_counts" "are_counts" sAreCounts fAreCounts dAreCounts
  NeedCounts : Fun K "need_counts" "need_counts" sNeedCounts fNeedCounts dNeedCounts
  Spread : Fun K "spread" "spread" sSpread fSpread dSpread
  Deal : Fun K "deal" "deal" sDeal fDeal dDeal
  Dealt : Fun K "dealt" "dealt" sDealt fDealt dDealt
  gPurse : mg "_law_purse" = some (.ref fPurse)
  gPurses : mg "_law_purses" = some (.ref fPurses)
  gNames : mg "_law_names" = some (.ref fNames)
  gKinds : mg "_law_kinds" = some (.ref fKinds)
  gMost : mg "_law_most" = some (.ref fMost)
  gLRows : mg "_law_rows" = some (.ref fLRows)
  gSmallRows : mg "_law_small_rows" = some (.ref fSmallRows)
  gLineOf : mg "_law_line_of" = some (.ref fLineOf)
  gLCounts : mg "_law_counts" = some (.ref fLCounts)
  gRowsCounts : mg "_law_rows_of_counts" = some (.ref fRowsCounts)
  gAreAskers : mg "_are_askers" = some (.ref fAreAskers)
  gIsPair : mg "_is_pair" = some (.ref fIsPair)
  gArePairs : mg "are_pairs" = some (.ref fArePairs)
  gAreCounts : mg "are_counts" = some (.ref fAreCounts)
  gNeedCounts : mg "need_counts" = some (.ref fNeedCounts)
  gSpread : mg "spread" = some (.ref fSpread)
  gDeal : mg "deal" = some (.ref fDeal)
  gDealt : mg "dealt" = some (.ref fDealt)
section
variable {P : Program} {w : World} {K : PySem.W.Frag} {mg : Str → Option Value} {base : Heap} {CA fI pN gN pF gF pM gM fE CL fLI fLE fLL fLA fLN fLK fLR fLP fM fD fO fS fW : Addr} {dM dD dO dS dW : FuncData}
set_option maxHeartbeats 8000000 in
theorem ok_law {f f1 f2 f3 f4 fC fSt fN fL fMe gW gP gS gM' gR gO gC gT fPurse fPurses fNames fKinds fMost fLRows fSmallRows fLineOf fLCounts fRowsCounts fAreAskers fIsPair fArePairs fAreCounts fNeedCounts fSpread fDeal fDealt : Addr} {fd d1 d2 d3 d4 dC dSt dN dL dMe eW eP eS eM eR eO eC eT dPurse dPurses dNames dKinds dMost dLRows dSmallRows dLineOf dLCounts dRowsCounts dAreAskers dIsPair dArePairs dAreCounts dNeedCounts dSpread dDeal dDealt dAN dAF dAM dAI dLI dLA dLN : FuncData} {u v : Value}
    (F : Fun K "law" "law" sLaw f fd) (L : Drw K mg fM fD fO fS fW dM dD dO dS dW) (B : Blt mg) (B2 : Blt2 mg) (B3 : Blt3 mg) (C : ChkD K mg f1 f2 f3 f4 fC fSt fN fL fMe d1 d2 d3 d4 dC dSt dN dL dMe) (O : Pour K mg gW gP gS gM' gR gO gC gT eW eP eS eM eR eO eC eT u v)
    (D : Defs K mg fPurse fPurses fNames fKinds fMost fLRows fSmallRows fLineOf fLCounts fRowsCounts fAreAskers fIsPair fArePairs fAreCounts fNeedCounts fSpread fDeal fDealt dPurse dPurses dNames dKinds dMost dLRows dSmallRows dLineOf dLCounts dRowsCounts dAreAskers dIsPair dArePairs dAreCounts dNeedCounts dSpread dDeal dDealt)
    (TA : ACls K CA fI pN gN pF gF pM gM fE) (gA : mg "Asker" = some (.ref CA)) (FAN : Fun K "name" "Asker.name" sAName gN dAN) (FAF : Fun K "fits" "Asker.fits" sAFits gF dAF) (FAM : Fun K "most" "Asker.most" sAMost gM dAM) (FAI : Fun K "__init__" "Asker.__init__" sAInit fI dAI)
    (T : LCls K CL fLI fLE fLL fLA fLN fLK fLR fLP) (gL : mg "Line" = some (.ref CL)) (ne : CL ≠ CA) (FLI : Fun K "__init__" "Line.__init__" sLInit fLI dLI) (FLA : Fun K "askers" "Line.askers" sLAskers fLA dLA) (FLN : Fun K "names" "Line.names" sLNames fLN dLN) :
    FnG P w K mg base CX0 11 f fd ["_law_script"] (spLaw K) := by
  have GOneOf : FnOk P w K mg base CX0 3 fO dO ["_law_purse_here", "_law_some"] (spOneOf K) := L.okOneOf B
  have GDraw : FnOk P w K mg base CX0 2 fD dD ["_law_purse_here", "_law_many"] spDraw := L.okDraw B
  have GAInit : FnOk P w K mg base CX0 3 fI dAI ["self", "name", "fits", "most"] (spAInit K CA) := ok_ainit FAI C.C1 C.C2 B TA
  have bAInit : Binds K dAI ["self", "name", "fits", "most"] [] := FAI.binds fun _ _ _ _ _ _ us hl => match us, hl with | [_, _, _, _], _ => rfl
  have GLInit : FnOk P w K mg base CX0 4 fLI dLI ["self", "askers"] (spLInit K CL CA) := ok_linit FLI D.AreAskers D.gAreAskers C.C1 B TA gA FAN T ne
  have bLInit : Binds K dLI ["self", "askers"] [] := FLI.binds fun _ _ _ _ _ _ us hl => match us, hl with | [_, _], _ => rfl
  have GPurses : FnOk P w K mg base CX0 2 fPurses dPurses ["_law_script", "_law_few"] (spPurses K) := ok_purses D.Purses D.Purse D.gPurse B.range B.max B.min B.len B.sum
  have bPurses : Binds K dPurses ["_law_script", "_law_few"] [] := D.Purses.binds fun _ _ _ _ _ _ us hl => match us, hl with | [_, _], _ => rfl
  have GKinds : FnOk P w K mg base CX0 4 fKinds dKinds ["_law_purse_here", "_law_many"] spPick := ok_lawKinds D.Kinds L B
  have bKinds : Binds K dKinds ["_law_purse_here", "_law_many"] [] := D.Kinds.binds fun _ _ _ _ _ _ us hl => match us, hl with | [_, _], _ => rfl
  have GSmallRows : FnOk P w K mg base CX0 6 fSmallRows dSmallRows ["_law_purse_here", "_law_kinds_here", "_law_few"] (spSmallRows K) := ok_smallRows D.SmallRows D.LRows D.gLRows D.Most D.gMost D.Names D.gNames L B
  have bSmallRows : Binds K dSmallRows ["_law_purse_here", "_law_kinds_here", "_law_few"] [] := D.SmallRows.binds fun _ _ _ _ _ _ us hl => match us, hl with | [_, _, _], _ => rfl
  have GLineOf : FnOk P w K mg base CX0 6 fLineOf dLineOf ["_law_rows_here"] (spLineOf CL CA) := ok_lineOf D.LineOf B TA gA T gL GAInit bAInit GLInit bLInit
  have bLineOf : Binds K dLineOf ["_law_rows_here"] [] := D.LineOf.binds fun _ _ _ _ _ _ us hl => match us, hl with | [_], _ => rfl
  have GLCounts : FnOk P w K mg base CX0 1 fLCounts dLCounts ["_law_rows_here", "_law_bags"] (spLCounts K) := ok_lawCounts D.LCounts B B3
  have bLCounts : Binds K dLCounts ["_law_rows_here", "_law_bags"] [] := D.LCounts.binds fun _ _ _ _ _ _ us hl => match us, hl with | [_, _], _ => rfl
  have GRowsCounts : FnOk P w K mg base CX0 1 fRowsCounts dRowsCounts ["_law_rows_here"] (spRowsCounts K) := ok_rowsCounts D.RowsCounts B
  have bRowsCounts : Binds K dRowsCounts ["_law_rows_here"] [] := D.RowsCounts.binds fun _ _ _ _ _ _ us hl => match us, hl with | [_], _ => rfl
  have GDeal : FnOk P w K mg base CX0 6 fDeal dDeal ["line", "stock"] (spDeal CL CA) := ok_deal D.Deal C D.Dealt D.gDealt O B B2 TA FAN FAF FAM T gL FLA
  have bDeal : Binds K dDeal ["line", "stock"] [] := D.Deal.binds fun _ _ _ _ _ _ us hl => match us, hl with | [_, _], _ => rfl
  have GSpread : FnOk P w K mg base CX0 8 fSpread dSpread ["line", "stock", "value"] (spSpread CL CA) := ok_spread D.Spread D.NeedCounts D.gNeedCounts D.AreCounts D.gAreCounts D.ArePairs D.gArePairs D.IsPair D.gIsPair C B B2 B3 O TA FAN FAF FAM T gL FLA FLN
  have bSpread : Binds K dSpread ["line", "stock", "value"] [] := D.Spread.binds fun _ _ _ _ _ _ us hl => match us, hl with | [_, _, _], _ => rfl
  refine FunG F scLaw (fun vs H Q E h => ?_) (fun cdv A outer s H vs Q E hG hr h => ?_)
  · obtain ⟨a, ns, rfl, _⟩ := h
    rfl
  · obtain ⟨a, ns, rfl, hS, h63, q⟩ := h
    refine ⟨_, (pss_cons (ps_for PassesOwn.never rfl (pi_list (pe_call GPurses (hr.mono (by decide)) (by rfl) D.gPurses D.Purses.kp bPurses .nil pass0 (pa_cons (pv 0) (pa_cons pe_int pa_nil)))) (pg_name (i := 1) scLaw.nd rfl (.inl rfl))
        (pss_cons (ps_set (i := 2) scLaw.nd rfl (.inl rfl) (pe_call GKinds (hr.mono (by decide)) (by rfl) D.gKinds D.Kinds.kp bKinds .nil pass0 (pa_cons (pv 1) (pa_cons pe_int pa_nil))))
      (pss_cons (ps_par (i := 3) (j := 4) rfl scLaw.nd rfl rfl (by decide) rfl rfl (pa_cons (pe_call GSmallRows (hr.mono (by decide)) (by rfl) D.gSmallRows D.SmallRows.kp bSmallRows .nil pass0 (pa_cons (pv 1) (pa_cons (pv 2) (pa_cons pe_int pa_nil)))) (pa_cons (pe_lst pa_nil) pa_nil)) rfl)
      (pss_cons (ps_for PassesOwn.never rfl (pi_range1 rfl B.range (pa_cons (pe_call GDraw (hr.mono (by decide)) (by rfl) L.gDraw L.Draw.kp L.bDraw .nil pass0 (pa_cons (pv 1) (pa_cons pe_int pa_nil))) pa_nil)) (pg_name (i := 5) scLaw.nd rfl (.inl rfl))
        (pss_one (ps_expr (pe_bm PySem.F.plainAttrs_list PySem.F.slot_list_append PySem.F.type_list_append mt_append (pv 4) (pa_cons (pe_call GOneOf (hr.mono (by decide)) (by rfl) L.gOneOf L.OneOf.kp L.bOneOf .nil pass0 (pa_cons (pv 1) (pa_cons (pv 2) pa_nil))) pa_nil)))))
      (pss_cons (ps_set (i := 6) scLaw.nd rfl (.inl rfl) pe_dnewK)
      (pss_cons (ps_for PassesOwn.never rfl (pi_list (pv 4)) (pg_name (i := 7) scLaw.nd rfl (.inl rfl))
        (pss_one (ps_dput (hu_of hr) (pv 6) (pv 7) (pe_op op_add (pe_dget2 (hu_of hr) (pv 6) (pv 7) pe_int ⟨rfl, rfl, rfl, rfl⟩) pe_int) rfl)))
      (pss_cons (ps_par (i := 8) (j := 9) rfl scLaw.nd rfl rfl (by decide) rfl rfl (pa_cons (pe_call GLineOf (hr.mono (by decide)) (by rfl) D.gLineOf D.LineOf.kp bLineOf .nil pass0 (pa_cons (pv 3) pa_nil)) (pa_cons (pe_call GLCounts (hr.mono (by decide)) (by rfl) D.gLCounts D.LCounts.kp bLCounts .nil pass0 (pa_cons (pv 3) (pa_cons (pv 4) pa_nil))) pa_nil)) rfl)
      (pss_cons (ps_setLc (i := 10) (own := [("_law_name", 13), ("_law_count", 14)]) (g := (gTup K 2 (gCons (gName 13) (gCons (gName 14) gNil)))) (tt := tYes) rfl scLaw.nd rfl rfl (sw_true rfl rfl rfl (by decide +kernel)) (pi_list (pe_call GDeal (hr.mono (by decide)) (by rfl) D.gDeal D.Deal.kp bDeal .nil pass0 (pa_cons (pv 8) (pa_cons (pv 6) pa_nil)))) (blkOk_by (own := [("_law_name", 13), ("_law_count", 14)]) (N := NLaw) (sc := defScope sLaw) (by decide +kernel)) (fun _ _ _ _ _ => (pg_tup rfl (pgs_cons (pg_name (i := 13) scLaw.nd rfl (.inl rfl)) (pgs_cons (pg_name (i := 14) scLaw.nd rfl (.inl rfl)) pgs_nil)))) (fun _ _ _ _ _ => pts_nil) (fun _ _ _ _ _ => (pv 14)))
      (pss_cons (ps_if (PW.pt (pw_or (pt_cmpR (op_neD hr.units) (pv 10) (pe_callB (cr_maxL rfl hr.units) (by rfl) B.max (by decide +kernel) (pa_cons (pv 9) pa_nil)) (nomark _)) (pw_or1 (pt_cmpR op_ne (pe_callB (cr_sum rfl) (by rfl) B.sum (by decide +kernel) (pa_cons (pv 10) pa_nil)) (pe_callB (cr_max rfl) (by rfl) B.max (by decide +kernel) (pa_cons (pe_lc (own := [("_law_counts_here", 11)]) (g := gName 11) (tt := tYes) (te := tCB (rSum K) (tCons (tVar 11) tNil)) rfl scLaw.nd (pi_list (pv 9)) (blkOk_by (own := [("_law_counts_here", 11)]) (N := NLaw) (sc := defScope sLaw) (by decide +kernel)) (fun _ _ _ _ _ => pg_name (i := 11) scLaw.nd rfl (.inl rfl)) (fun _ _ _ _ _ => pts_nil) (fun _ _ _ _ _ => (pe_callB (cr_sum rfl) (by rfl) B.sum (by decide +kernel) (pa_cons (pv 11) pa_nil)))) pa_nil)) (nomark _))))) (pss_one (ps_ret pe_bl)) pss_nil)
      (pss_one (ps_for PassesOwn.never rfl (pi_list (pe_call GRowsCounts (hr.mono (by decide)) (by rfl) D.gRowsCounts D.RowsCounts.kp bRowsCounts .nil pass0 (pa_cons (pv 3) pa_nil))) (pg_name (i := 11) scLaw.nd rfl (.inl rfl))
        (pss_cons (ps_setLc (i := 12) (own := [("_law_row", 15), ("_law_count", 14)]) (g := (gTup K 2 (gCons (gName 15) (gCons (gName 14) gNil)))) (tt := tYes) (te := tTup (tCons (tOp (rIxT K) (tVar 15) (tC (.int 0))) (tCons (tVar 14) tNil))) rfl scLaw.nd rfl rfl (sw_true rfl rfl rfl (by decide +kernel)) (pi_zip (by rfl) B3.zip (pa_cons (pv 3) (pa_cons (pv 11) pa_nil))) (blkOk_by (own := [("_law_row", 15), ("_law_count", 14)]) (N := NLaw) (sc := defScope sLaw) (by decide +kernel)) (fun _ _ _ _ _ => (pg_tup rfl (pgs_cons (pg_name (i := 15) scLaw.nd rfl (.inl rfl)) (pgs_cons (pg_name (i := 14) scLaw.nd rfl (.inl rfl)) pgs_nil)))) (fun _ _ _ _ _ => pts_nil) (fun _ _ _ _ _ => (pe_tup (pa_cons (pe_ix ix_tup (pv 15) pe_int (fun _ _ => rfl)) (pa_cons (pv 14) pa_nil)))))
      (pss_one (ps_if (pt_cmpR op_ne (pe_cmp (pc_notN (pe_call GSpread (hr.mono (by decide)) (by rfl) D.gSpread D.Spread.kp bSpread .nil pass0 (pa_cons (pv 8) (pa_cons (pv 6) (pa_cons (pv 12) pa_nil)))))) (pe_cmpR (op_inD (hu65 hr)) (pv 11) (pv 9) (by rfl)) (nomark _)) (pss_one (ps_ret pe_bl)) pss_nil))))))))))))))
      (pss_one (ps_ret pe_bl))), ?_⟩
    refine ⟨.ref a, rfl, a, ns, 3, rfl, hS, h63, ⟨by decide, by decide⟩, fun H1 pl ps s1 npl epl hps pnd pl63 => ⟨pl, rfl, ⟨_, SqL.of epl⟩, ?_⟩⟩
    refine for_list (K := K) (a := pl) (xs := ps.map V.ref) (fun i σ H' => ∃ (v1 v2 v3 v4 v5 v6 v7 v8 v9 v10 v11 v12 v13 v14 v15 : Option V), σ = [some (.ref a), v1, v2, v3, v4, v5, v6, v7, v8, v9, v10, v11, v12, v13, v14, v15] ∧ H' pl = some (.lst (ps.map V.ref)) ∧ ∀ (j : Nat) x, i ≤ j → ps[j]? = some x → PurseAt H' x 0)
      ⟨_, _, _, _, _, _, _, _, _, _, _, _, _, _, _, rfl, epl, fun j x _ hx => (hps x (List.mem_of_getElem? hx)).2.2⟩ (fun i σ H' _ ⟨_, _, _, _, _, _, _, _, _, _, _, _, _, _, _, _, e, _⟩ => SqL.of e) ?_ ?_
    · rintro i v σ G0 hi ⟨v1, v2, v3, v4, v5, v6, v7, v8, v9, v10, v11, v12, v13, v14, v15, rfl, e0, pu⟩
      obtain ⟨p, hp, rfl⟩ := ref_at hi
      have hP := pu i p (Nat.le_refl _) hp
      have npp : pl ≠ p := fun z => (hps p (List.mem_of_getElem? hp)).2.1 z.symm
      refine ⟨.ref p, rfl, p, 3, 0, rfl, hP, by omega, by decide, fun G1 kl ys k1 p1 nk ek yw ynd y1 y9 _ yz => ?_⟩
      have nkl : kl ≠ p := Kp.ne hP nk
      refine ⟨.ref p, rfl, .ref kl, rfl, p, kl, ys, _, rfl, p1, by omega, SqL.of ek, nkl, yw, ynd, y1 (by decide), y9, fun G2 r tas ts k2 p2 nr hR hok hm2 => ⟨(by show 0 ≤ sizeLine; decide), fun bl nbl => ⟨_, _, rfl, ?_⟩⟩⟩
      have nblp : bl ≠ p := Kp.ne p2 nbl
      have sb : Same G2 (upd G2 bl (.lst [])) := Same.fresh nbl
      have ek2 := k2 _ _ nkl ek
      have nkb : kl ≠ bl := fun z => by rw [z, nbl] at ek2; cases ek2
      have ebl0 : (upd G2 bl (.lst [])) bl = some (.lst []) := upd_same
      have p3 := p2.same sb
      generalize upd G2 bl (.lst []) = G3 at sb ebl0 p3
      refine ⟨.ref p, rfl, p, 5, _, rfl, p3, by omega, by decide, by decide +kernel, fun G4 rr b4 p4 r0 r1 => ⟨_, rfl, by omega, by omega, ?_⟩⟩
      have k34 : Kp p G3 G4 := Kp.of_but b4
      refine for_range (lo := 0) (n := rr.toNat) (fun m σ G => ∃ (v5 v6 v7 v8 v9 v10 v11 v12 v13 v14 v15 : Option V) (bs : List Str), σ = [some (.ref a), some (.ref p), some (.ref kl), some (.ref r), some (.ref bl), v5, v6, v7, v8, v9, v10, v11, v12, v13, v14, v15] ∧ Kp p G2 G ∧ PurseAt G p (0 + 840 + 10000 + 40 + 40 * m) ∧ G bl = some (.lst (bs.map V.str)) ∧ bs.length = m ∧ ∀ b ∈ bs, b ∈ ys)
        ⟨_, _, _, _, _, _, _, _, _, _, _, [], rfl, (Kp.same sb).trans k34, p4, k34 _ _ nblp ebl0, rfl, fun b hb => nomatch hb⟩ ?_ ?_
      · rintro m σ G hm ⟨v5, v6, v7, v8, v9, v10, v11, v12, v13, v14, v15, bs, rfl, kG, pG, ebl, lbs, hbs⟩
        refine ⟨.ref bl, rfl, .inl ⟨rfl, _, SqL.of ebl⟩, .ref p, rfl, .ref kl, rfl, p, kl, _, _, rfl, pG, by omega, SqL.of (kG _ _ nkl ek2), nkl, by rw [List.length_map]; exact y1 (by decide), by rw [List.length_map]; omega, fun G5 t y b5 p5 hy => ?_⟩
        obtain ⟨y, hy', rfl⟩ := str_at hy
        have k5 : Kp p G G5 := Kp.of_but b5
        refine ⟨bl, _, _, rfl, rfl, k5 _ _ nblp ebl, by rw [List.length_map, sizeLine_eq]; omega, ?_⟩
        refine ⟨_, _, _, _, _, _, _, _, _, _, _, bs ++ [y], rfl, (kG.trans k5).put nbl, (p5.mono (by omega)).of_eq (upd_ne (Ne.symm nblp)), by rw [upd_same]; simp, by rw [List.length_append, lbs]; rfl, fun b hb => ?_⟩
        rcases List.mem_append.mp hb with hb | hb
        · exact hbs b hb
        · rw [List.mem_singleton.mp hb]
          exact List.mem_of_getElem? hy'
      rintro σ G5 ⟨v5', v6', v7', v8', v9', v10', v11', v12', v13', v14', v15', bs, rfl, k25, p5, ebl, lbs, hbs⟩
      have lb4 : bs.length ≤ 4 := by omega
      have hR5 := hR.kp k25 p2
      refine fun d nd => ?_
      have sd : Same G5 (upd G5 d (.dK [])) := Same.fresh nd
      refine ⟨.ref bl, rfl, bl, rfl, ⟨_, SqL.of (sd _ _ ebl)⟩, ?_⟩
      refine for_it (walk_strs (K := K)) (fun j σ G => ∃ (v7 v8 v9 v10 v11 v12 v13 v14 v15 : Option V) (kvs : List (Key × V)), σ = [some (.ref a), some (.ref p), some (.ref kl), some (.ref r), some (.ref bl), v5', some (.ref d), v7, v8, v9, v10, v11, v12, v13, v14, v15] ∧ Same G5 G ∧ G d = some (.dK kvs) ∧ KvsB 1000 kvs ∧ kvs.length ≤ j ∧ ∀ x, stN kvs x = stB (bs.take j) x)
        ⟨_, _, _, _, _, _, _, _, _, [], rfl, sd, upd_same, ⟨fun p hp => nomatch hp⟩, Nat.le_refl _, fun x => by rw [List.take_zero]; rfl⟩ (fun j σ G _ ⟨_, _, _, _, _, _, _, _, _, _, _, s, _⟩ => SqL.of (s _ _ ebl)) ?_ ?_
      · rintro j xv σ G G' hj ⟨v7, v8, v9, v10, v11, v12, v13, v14, v15, kvs, rfl, sG, ed, hkb, lk, hst⟩ ⟨rfl, hx⟩
        obtain ⟨z, hz, rfl⟩ := str_at hx
        have lj := (List.getElem?_eq_some_iff.mp hz).1
        have wz : IsWord z := yw z (hbs z (List.mem_of_getElem? hz))
        have c0 : 0 ≤ stN kvs z ∧ stN kvs z ≤ 4 := by
          rw [hst z]
          refine ⟨stB_nn _ _, ?_⟩
          unfold stB
          have := List.count_le_length (a := z) (l := bs.take j)
          rw [List.length_take] at this
          omega
        refine ⟨.ref d, rfl, d, rfl, .inl ⟨_, .inl ed⟩, .str z, rfl, _, DGet.k (k := .inr z) ed, ?_⟩
        rw [valV_stN hkb]
        refine ⟨stN kvs z, 1, rfl, rfl, .ref d, rfl, .str z, rfl, d, _, rfl, DPut.k (k := .inr z) ed (by rw [sizeLine_eq]; omega), ?_⟩
        refine ⟨_, _, _, _, _, _, _, _, _, putK kvs (.inr z) (.int (stN kvs z + 1)), rfl, sG.put nd, upd_same, hkb.putN wz (by omega) (by omega), by have := putK_len kvs (.inr z) (.int (stN kvs z + 1)); omega, fun x => ?_⟩
        rw [stN_put, List.take_add_one, hz]
        show _ = stB (bs.take j ++ [z]) x
        rw [stB_snoc, ← hst x]
        by_cases e : x = z
        · rw [if_pos e, if_pos e, e]
        · rw [if_neg e, if_neg e]
          omega
      rintro σ G6 ⟨v7, v8, v9, v10, v11, v12, v13, v14, v15, kvs, rfl, s56, ed, hkb, lk, hst⟩
      rw [List.take_length] at hst
      have est : stN kvs = stB bs := funext hst
      have hR6 := (hR5.same s56).l
      refine ⟨.ref r, rfl, r, tas, ts, ys, rfl, hR6, hok, fun G7 la as ks s67 nla hL hPk => ?_⟩
      have hm1 : ∀ t ∈ ts, 1 ≤ t.most ∧ t.most ≤ 2 := fun t ht => ⟨(hok.ok t ht).most.1, hm2 t ht⟩
      have hm0 : ∀ t ∈ ts, 0 ≤ t.most := fun t ht => by have := (hm1 t ht).1; omega
      refine ⟨.ref r, rfl, .ref bl, rfl, r, bl, tas, ts, bs, rfl, hR6.same s67, hok.nd, hok.le, hm1, (s56.trans s67) _ _ ebl, lb4, fun G8 qa rs cs s78 nqa eqa hPc hcs l64 => ⟨_, _, rfl, ?_⟩⟩
      have hL8 := hL.same s78
      have hst8 : StockAt G8 d kvs := hkb.stockAt ((s67.trans s78) _ _ ed) (by omega)
      have hF : Fair ks (stN kvs) ys := fair_rows hPk hok (by rw [est]; exact stB_nn bs)
      have lks : ks.length = ts.length := Paired.length hPk
      have l3 := hok.le
      refine ⟨.ref la, rfl, .ref d, rfl, la, d, as, ks, kvs, ys, rfl, hL8, hst8, hF, fun G9 dp dts ds s89 ndp frd pnd' hD hds => ⟨dp, rfl, ⟨_, SqL.of hD.at_⟩, fun D1 hD1 => ?_⟩⟩
      have hdt : IsDealT ts (stB bs) ds := by
        rw [est] at hds
        exact deal_tk hPk hds
      have top := deal_top hok.nd hm0 hcs hdt
      have lds : dts.length = ds.length := Paired.length hD.rows
      have lds2 : ds.length = ts.length := by
        have := congrArg List.length hdt.nm
        simpa using this
      refine lc_foldY (walk_refsE (K := K)) (fun i acc _ => acc = ((ds.take i).map (·.2)).map V.int) (by rw [sizeLine_eq]; omega) hD1 rfl (fun G s => SqL.of (s _ _ hD.at_)) yat_same (fun _ _ _ _ _ _ _ p => p) ?_ ?_
      · rintro i x acc Ga Ga' hi sGa eDa ⟨rfl, hx⟩ rfl N M hN hM
        obtain ⟨t, ht, rfl⟩ := map_ref_at hx
        obtain ⟨y, hy, ey⟩ := paired_getJ hD.rows ht
        refine ⟨t, _, rfl, SqT.of (sGa _ _ ey), rfl, .str y.1, [.int y.2], rfl, .int y.2, [], rfl, rfl, rfl, ?_⟩
        unfold tYes
        show (if true = true then _ else _)
        rw [if_pos rfl]
        refine ⟨.int y.2, rfl, hN _ _ (Same.refl _) ?_⟩
        rw [List.take_add_one, hy]
        simp
      rintro G10 acc s910 eD1 rfl
      rw [lds, List.take_length] at eD1
      have s8A := s89.trans s910
      have hPcA : Paired (fun (r : Addr) (c : List Int) => G10 r = some (.lst (c.map V.int))) rs cs := paired_mono hPc fun r c e => s8A _ _ e
      have eqaA := s8A _ _ eqa
      have lrs : rs.length = cs.length := Paired.length hPcA
      refine ⟨.ref D1, rfl, .ref qa, rfl, qa, rs, cs, rfl, SqL.of eqaA, hPcA, hcs.ne, fun i9 rc c hri hci hmx => ?_⟩
      have ec := top.1 c (List.mem_of_getElem? hci) hmx
      obtain ⟨c', hc', erc⟩ := paired_getJ hPcA hri
      obtain rfl : c' = c := Option.some.inj (hc'.symm.trans hci)
      refine ⟨encL (ds.map (·.2)), encL c', dp_intsL eD1, dp_intsL erc, shaped_encL _, shaped_encL _, _, rfl, ?_⟩
      rw [eqv_encL, ec, decide_eq_true rfl]
      refine iteF ?_
      refine ⟨.ref D1, rfl, D1, ds.map (·.2), rfl, SqL.of eD1, .ref qa, rfl, qa, rfl, ⟨_, SqL.of eqaA⟩, fun D2 hD2 => ?_⟩
      refine lc_foldY (walk_refsE (K := K)) (fun i acc _ => acc = ((cs.take i).map List.sum).map V.int) (by rw [sizeLine_eq]; omega) hD2 rfl (fun G s => SqL.of (s _ _ eqaA)) yat_same (fun _ _ _ _ _ _ _ p => p) ?_ ?_
      · rintro i x acc Ga Ga' hi sGa eDa ⟨rfl, hx⟩ rfl N M hN hM
        obtain ⟨rc2, hrc2, rfl⟩ := map_ref_at hx
        obtain ⟨c2, hc2, e2⟩ := paired_getJ hPcA hrc2
        refine ⟨rfl, ?_⟩
        unfold tYes
        show (if true = true then _ else _)
        rw [if_pos rfl]
        refine ⟨.ref rc2, rfl, rc2, c2, rfl, SqL.of (sGa _ _ e2), hN _ _ (Same.refl _) ?_⟩
        rw [List.take_add_one, hc2]
        simp
      rintro G11 acc sAB eD2 rfl
      rw [lrs, List.take_length] at eD2
      refine ⟨D2, cs.map List.sum, rfl, SqL.of eD2, by rw [List.length_map]; exact hcs.ne, fun m hm' hmx => ⟨rfl, _, rfl, ?_⟩⟩
      rw [top.2 m hm' hmx]
      show if (!decide (V.int _ = V.int _)) = true then _ else _
      rw [not_selfV]
      refine iteF ?_
      have s6B : Same G6 G11 := ((s67.trans s78).trans s8A).trans sAB
      have s8B : Same G8 G11 := s8A.trans sAB
      refine ⟨.ref r, rfl, r, tas, ts, rfl, hR6.same s6B, hok.le, hm1, fun G12 qr rs2 cs2 sBC nqr eqr hP2 hcb2 l27 => ⟨qr, rfl, ⟨_, SqL.of eqr⟩, ?_⟩⟩
      have lr2 : rs2.length = cs2.length := Paired.length hP2
      have hRC := (hR6.same s6B).same sBC
      have ltas : tas.length = ts.length := Paired.length hRC.rows
      have k0C : Kp p G0 G12 := ((k1.trans (k2.trans (k25.trans (Kp.same s56)))).trans (Kp.same s6B)).trans (Kp.same sBC)
      refine for_it (walk_refsE (K := K)) (fun j σ G => ∃ (v11 v12 v13 v14 v15 : Option V), σ = [some (.ref a), some (.ref p), some (.ref kl), some (.ref r), some (.ref bl), v5', some (.ref d), v7, some (.ref la), some (.ref qa), some (.ref D1), v11, v12, v13, v14, v15] ∧ Same G12 G)
        ⟨_, _, _, _, _, rfl, Same.refl _⟩ (fun j σ G _ ⟨_, _, _, _, _, _, s⟩ => SqL.of (s _ _ eqr)) ?_ ?_
      · rintro j xv σ G G' hj ⟨v11, v12, v13, v14, v15, rfl, sG⟩ ⟨rfl, hx⟩
        obtain ⟨rc3, hrc3, rfl⟩ := map_ref_at hx
        obtain ⟨c3, hc3, e3⟩ := paired_getJ hP2 hrc3
        have cb3 := hcb2 c3 (List.mem_of_getElem? hc3)
        have lc3 := cb3.len
        have hRG := hRC.same sG
        have e3G := sG _ _ e3
        refine ⟨.ref r, rfl, .ref rc3, rfl, r, rc3, _, _, rfl, SqL.of hRG.at_, SqL.of e3G, fun D3 hD3 => ?_⟩
        refine lc_foldY (walk_zip (xs := tas.map V.ref) (ys := c3.map V.int) (n := ts.length) (by rw [List.length_map, List.length_map]; omega)) (fun i acc Ga => ∃ tts : List Addr, acc = tts.map V.ref ∧ Paired (fun (t : Addr) (x : Str × Int) => t ≠ D3 ∧ Ga t = some (.tup [.str x.1, .int x.2])) tts (((ts.map (·.nm)).zip c3).take i)) (by rw [sizeLine_eq]; omega) hD3 ⟨[], rfl, by rw [List.take_zero]; exact .nil⟩ (fun Ga s => ⟨SqL.of (s _ _ hRG.at_), SqL.of (s _ _ e3G)⟩) ypair_sameT (fun i acc l' Ga Ga' eD kk ⟨tts, e1, e2⟩ => ⟨tts, e1, paired_mono e2 fun t x ⟨n, e⟩ => ⟨n, kk _ _ n e⟩⟩) ?_ ?_
        · rintro i x acc Ga Ga' hi sGa eDa ⟨TT, x1, x2, rfl, nT, rfl, hx1, hx2⟩ ⟨tts, rfl, hPt⟩ N M hN hM
          have hx1 : (tas.map V.ref)[i]? = some x1 := hx1
          have hx2 : (c3.map V.int)[i]? = some x2 := hx2
          obtain ⟨ta, hta, rfl⟩ := map_ref_at hx1
          rw [List.getElem?_map] at hx2
          obtain ⟨xi, hxi, rfl⟩ := Option.map_eq_some_iff.mp hx2
          obtain ⟨t, ht, fp, et, ef⟩ := paired_getJ hRG.rows hta
          have sT : Same Ga (upd Ga TT (.tup [V.ref ta, V.int xi])) := Same.fresh nT
          have etT := sT _ _ (sGa _ _ et)
          refine ⟨TT, _, rfl, SqT.of upd_same, rfl, .ref ta, [.int xi], rfl, .int xi, [], rfl, rfl, rfl, ?_⟩
          unfold tYes
          show (if true = true then _ else _)
          rw [if_pos rfl]
          refine ⟨.ref ta, rfl, ta, _, 0, .str t.nm, rfl, rfl, SqT.of etT, rfl, .int xi, rfl, (by show 2 ≤ sizeLine; decide), fun o no => ?_⟩
          have so : Same (upd Ga TT (.tup [V.ref ta, V.int xi])) (upd (upd Ga TT (.tup [V.ref ta, V.int xi])) o (.tup [.str t.nm, .int xi])) := Same.fresh no
          have noD : o ≠ D3 := fun z => by
            have := sT _ _ eDa
            rw [← z, no] at this
            cases this
          refine hN _ _ so ⟨tts ++ [o], by simp, ?_⟩
          have ez : ((ts.map (·.nm)).zip c3)[i]? = some (t.nm, xi) := by
            rw [List.getElem?_zip_eq_some, List.getElem?_map, ht]
            exact ⟨rfl, hxi⟩
          rw [List.take_add_one, ez]
          exact Paired.snoc (paired_mono hPt fun t x ⟨n, e⟩ => ⟨n, so _ _ (sT _ _ e)⟩) ⟨noD, upd_same⟩
        rintro Gb acc sGb eD3 ⟨tts, rfl, hPt⟩
        have lz : ((ts.map (·.nm)).zip c3).length = ts.length := by rw [List.length_zip, List.length_map]; omega
        rw [← lz, List.take_length] at hPt
        have hDv : DealAt Gb D3 tts ((ts.map (·.nm)).zip c3) := ⟨eD3, paired_mono hPt fun t x ⟨_, e⟩ => e⟩
        have told3 := told_rows hPk cb3
        have sBG : Same G11 Gb := (sBC.trans sG).trans sGb
        refine ⟨.ref la, rfl, .ref d, rfl, .ref D3, rfl, la, d, D3, as, ks, kvs, ys, tts, _, rfl, hL8.same (s8B.trans sBG), hst8.same (s8B.trans sBG), hDv, told3.1, word_rows hPk hok, by omega, hF, fun Gc sGc => ?_⟩
        rw [told3.2, est, fit_asks hPk cb3.len]
        have s8c : Same G8 Gc := (s8B.trans sBG).trans sGc
        have hPcC : Paired (fun (r : Addr) (c : List Int) => Gc r = some (.lst (c.map V.int))) rs cs := paired_mono hPc fun r c e => s8c _ _ e
        have dp1 : Dp K Gc (.ref rc3) (encL c3) := dp_intsL ((sGb.trans sGc) _ _ e3G)
        have dp2 : Dp K Gc (.ref qa) (.list (cs.map encL)) := dp_rowsLs (s8c _ _ eqa) hPcC
        refine ⟨fun hf rr' => ?_, fun hf => ?_⟩
        · have hin : c3 ∈ cs := hcs.all c3 cb3 hf
          refine ⟨.ref rc3, rfl, .ref qa, rfl, encL c3, _, dp1, dp2, shaped_encL _, shaped_encLs _, rfl, _, rfl, ?_⟩
          rw [any_encL, decide_eq_true hin]
          have e1 : V.bl (!decide (V.ref rr' = V.non)) = V.bl true := by simp
          show if (!decide (V.bl (!decide (V.ref rr' = V.non)) = V.bl true)) = true then _ else _
          rw [e1, not_selfV]
          refine iteF ?_
          exact ⟨_, _, _, _, _, rfl, (sG.trans sGb).trans sGc⟩
        · have hin : c3 ∉ cs := fun h => hf (hcs.fit c3 h)
          refine ⟨.ref rc3, rfl, .ref qa, rfl, encL c3, _, dp1, dp2, shaped_encL _, shaped_encLs _, rfl, _, rfl, ?_⟩
          rw [any_encL, decide_eq_false hin]
          have e1 : V.bl (!decide (V.non = V.non)) = V.bl false := by simp
          show if (!decide (V.bl (!decide (V.non = V.non)) = V.bl false)) = true then _ else _
          rw [e1, not_selfV]
          refine iteF ?_
          exact ⟨_, _, _, _, _, rfl, (sG.trans sGb).trans sGc⟩
      · rintro σ G ⟨v11, v12, v13, v14, v15, rfl, sG⟩
        have k0G : Kp p G0 G := k0C.trans (Kp.same sG)
        refine ⟨_, _, _, _, _, _, _, _, _, _, _, _, _, _, _, rfl, k0G _ _ npp e0, fun j x hj hx => ?_⟩
        have nxp : x ≠ p := fun z => by
          obtain ⟨l1, q1⟩ := List.getElem?_eq_some_iff.mp hp
          obtain ⟨l2, q2⟩ := List.getElem?_eq_some_iff.mp hx
          exact List.pairwise_iff_getElem.mp pnd i j l1 l2 (by omega) (by rw [q1, q2, z])
        exact purse_kp (pu j x (by omega) hx) k0G nxp
    · rintro σ G ⟨v1, v2, v3, v4, v5, v6, v7, v8, v9, v10, v11, v12, v13, v14, v15, rfl, e0, pu⟩
      exact q _
end
end Eld
end L2

set_option Elab.async false
set_option linter.all false
set_option maxRecDepth 100000
set_option maxHeartbeats 8000000
/-! ## what the top has written; the end -/
namespace L2
namespace Eld
open PySem PySem.Spec PyProof.Rows PySem.EldX
def insB (K : PySem.W.Frag) (C : Addr) : Bool :=
  PySem.W.plainGet K C Str.empty && (PySem.W.hasDictIn K C && (PySem.W.plainOver K C && (PySem.W.findIn K (.ref C) "__setattr__" == some (some (.builtin "object.__setattr__")) && (PySem.W.findIn K (.ref C) "__class__" == some (some (.builtin "object.__class__")) &&
    (PySem.W.specialIn K (.builtin "object.__class__") "__get__" == some (some (.builtin "getset_descriptor.__get__")) && (PySem.W.takesIn K (.builtin "object.__class__") == some true && (PySem.W.mroIn K C (.type "object") == some true && PySem.W.kitOne K (.ref C) (.ref C) == some true)))))))
theorem insB_ok {K : PySem.W.Frag} {C : Addr} (q : insB K C = true) : InsC K C := by
  unfold insB at q
  simp only [Bool.and_eq_true, beq_iff_eq] at q
  obtain ⟨h1, h2, h3, h4, h5, h6, h7, h8, h9⟩ := q
  exact ⟨⟨h1, h2, h3, h4⟩, h5, h6, h7, h8, h9⟩
def propB (K : PySem.W.Frag) (C : Addr) (f : Str) (p g : Addr) : Bool :=
  PySem.W.findIn K (.ref C) f == some (some (.ref p)) && (PySem.W.specialIn K (.ref p) "__get__" == some (some (.builtin "property.__get__")) && (PySem.W.takesIn K (.ref p) == some true &&
    (match PySem.W.recIn K p "property" with | some (.ref g' :: _) => g' == g | _ => false)))
theorem propB_ok {K : PySem.W.Frag} {C : Addr} {f : Str} {p g : Addr} (q : propB K C f p g = true) : PropOf K C f p g := by
  unfold propB at q
  simp only [Bool.and_eq_true, beq_iff_eq] at q
  obtain ⟨h1, h2, h3, h4⟩ := q
  refine ⟨h1, h2, h3, ?_⟩
  split at h4
  · rename_i g' rest e
    rw [beq_iff_eq] at h4
    subst h4
    exact ⟨rest, e⟩
  · cases h4
def ownB (K : PySem.W.Frag) (C f : Addr) : Bool := PySem.W.findIn K (.ref C) "__eq__" == some (some (.ref f)) && (PySem.W.isFn K (.ref f) && (PySem.W.findIn K (.ref C) "__ne__" == some (some (.builtin "object.__ne__")) && PySem.W.subIn K (.ref C) (.type "object") == some true))
theorem ownB_ok {K : PySem.W.Frag} {C f : Addr} (q : ownB K C f = true) : OwnE K C f := by
  unfold ownB at q
  simp only [Bool.and_eq_true, beq_iff_eq] at q
  obtain ⟨h1, h2, h3, h4⟩ := q
  exact ⟨h1, h2, h3, h4⟩
def makeB (K : PySem.W.Frag) (C f : Addr) : Bool := PySem.W.makesIn K C && (PySem.W.findIn K (.ref C) "__init__" == some (some (.ref f)) && (PySem.W.isFn K (.ref f) && PySem.W.keepIn K (.ref C)))
theorem makeB_ok {K : PySem.W.Frag} {C f : Addr} (q : makeB K C f = true) : Mk K C f := by
  unfold makeB at q
  simp only [Bool.and_eq_true, beq_iff_eq] at q
  obtain ⟨h1, h2, h3, h4⟩ := q
  exact ⟨h1, h2, h3, h4⟩
def methB (K : PySem.W.Frag) (C : Addr) (m : Str) (f : Addr) : Bool := PySem.W.findIn K (.ref C) m == some (some (.ref f)) && (PySem.W.isFn K (.ref f) && PySem.W.keepIn K (.ref f))
theorem methB_ok {K : PySem.W.Frag} {C : Addr} {m : Str} {f : Addr} (q : methB K C m f = true) : PySem.W.findIn K (.ref C) m = some (some (.ref f)) ∧ PySem.W.isFn K (.ref f) = true ∧ PySem.W.keepIn K (.ref f) = true := by
  unfold methB at q
  simpa only [Bool.and_eq_true, beq_iff_eq] using q
def clsAB (K : PySem.W.Frag) (C fI pN gN pF gF pM gM fE : Addr) : Bool :=
  insB K C && (PySem.W.findIn K (.ref C) "_name" == some none && (PySem.W.findIn K (.ref C) "_fits" == some none && (PySem.W.findIn K (.ref C) "_most" == some none && (makeB K C fI && (propB K C "name" pN gN && (propB K C "fits" pF gF && (propB K C "most" pM gM && ownB K C fE)))))))
theorem clsAB_ok {K : PySem.W.Frag} {C fI pN gN pF gF pM gM fE : Addr} (q : clsAB K C fI pN gN pF gF pM gM fE = true) : ACls K C fI pN gN pF gF pM gM fE := by
  unfold clsAB at q
  simp only [Bool.and_eq_true, beq_iff_eq] at q
  obtain ⟨h1, h2, h3, h4, h5, h6, h7, h8, h9⟩ := q
  exact ⟨insB_ok h1, h2, h3, h4, makeB_ok h5, propB_ok h6, propB_ok h7, propB_ok h8, ownB_ok h9⟩
def clsLB (K : PySem.W.Frag) (C fI fE fL fA fN fK fR fP : Addr) : Bool :=
  insB K C && (PySem.W.findIn K (.ref C) "_askers" == some none && (makeB K C fI && (ownB K C fE && (methB K C "__len__" fL && (methB K C "askers" fA && (methB K C "names" fN && (methB K C "kinds" fK && (methB K C "asker" fR && methB K C "place" fP))))))))
theorem clsLB_ok {K : PySem.W.Frag} {C fI fE fL fA fN fK fR fP : Addr} (q : clsLB K C fI fE fL fA fN fK fR fP = true) : LCls K C fI fE fL fA fN fK fR fP := by
  unfold clsLB at q
  simp only [Bool.and_eq_true, beq_iff_eq] at q
  obtain ⟨h1, h2, h3, h4, h5, h6, h7, h8, h9, h10⟩ := q
  exact ⟨insB_ok h1, h2, makeB_ok h3, ownB_ok h4, (methB_ok h5).1, (methB_ok h5).2.1, ⟨(methB_ok h6).1, (methB_ok h6).2.1, (methB_ok h6).2.2⟩, ⟨(methB_ok h7).1, (methB_ok h7).2.1, (methB_ok h7).2.2⟩, ⟨(methB_ok h8).1, (methB_ok h8).2.1, (methB_ok h8).2.2⟩, ⟨(methB_ok h9).1, (methB_ok h9).2.1, (methB_ok h9).2.2⟩, ⟨(methB_ok h10).1, (methB_ok h10).2.1, (methB_ok h10).2.2⟩⟩
theorem all_mk {l : PySem.W.OpenLaw} {w : World} {K : PySem.W.Frag} {h : Heap} {mg : Str → Option Value} {fa : Addr} (X : K.In h) (G : h.Ns mainGlobals mg) (hfa : mg "law" = some (.ref fa)) {CA CL pAName pAFits pAMost : Addr}
    {fWhole fCount fIsName fUnlike fAreNames fIsStock fNeedLine fNeedStock fWiden fPush fSteps fMove fReach fPoured fCountOf fTakersOf fMixed fDraw fOneOf fShuffled fWord fPurse fPurses fNames fKinds fMost fLRows fSmallRows fLineOf fLCounts fRowsCounts fAreAskers fIsPair fArePairs fAreCounts fNeedCounts fSpread fDeal fDealt fLaw fAInit fAEq fLInit fLEq fLLen fLAskers fLNames fLKinds fLAsk fLPlace fAName fAFits fAMost : Addr} {odWhole anWhole odCount anCount odIsName anIsName odUnlike anUnlike odAreNames anAreNames odIsStock anIsStock odNeedLine anNeedLine odNeedStock anNeedStock odWiden anWiden odPush anPush odSteps anSteps odMove anMove odReach anReach odPoured anPoured odCountOf anCountOf odTakersOf anTakersOf odMixed anMixed odDraw anDraw odOneOf anOneOf odShuffled anShuffled odWord anWord odPurse anPurse odPurses anPurses odNames anNames odKinds anKinds odMost anMost odLRows anLRows odSmallRows anSmallRows odLineOf anLineOf odLCounts anLCounts odRowsCounts anRowsCounts odAreAskers anAreAskers odIsPair anIsPair odArePairs anArePairs odAreCounts anAreCounts odNeedCounts anNeedCounts odSpread anSpread odDeal anDeal odDealt anDealt odLaw anLaw odAInit anAInit odAEq anAEq odLInit anLInit odLEq anLEq odLLen anLLen odLAskers anLAskers odLNames anLNames odLKinds anLKinds odLAsk anLAsk odLPlace anLPlace odAName anAName odAFits anAFits odAMost anAMost : Option Addr} {slWhole slCount slIsName slUnlike slAreNames slIsStock slNeedLine slNeedStock slWiden slPush slSteps slMove slReach slPoured slCountOf slTakersOf slMixed slDraw slOneOf slShuffled slWord slPurse slPurses slNames slKinds slMost slLRows slSmallRows slLineOf slLCounts slRowsCounts slAreAskers slIsPair slArePairs slAreCounts slNeedCounts slSpread slDeal slDealt slLaw slAInit slAEq slLInit slLEq slLLen slLAskers slLNames slLKinds slLAsk slLPlace slAName slAFits slAMost : Array (Option Value)}
    {ocWhole kVWhole dcWhole pmWhole cdWhole ctWhole ocCount kVCount dcCount pmCount cdCount ctCount ocIsName kVIsName dcIsName pmIsName cdIsName ctIsName ocUnlike kVUnlike dcUnlike pmUnlike cdUnlike ctUnlike ocAreNames kVAreNames dcAreNames pmAreNames cdAreNames ctAreNames ocIsStock kVIsStock dcIsStock pmIsStock cdIsStock ctIsStock ocNeedLine kVNeedLine dcNeedLine pmNeedLine cdNeedLine ctNeedLine ocNeedStock kVNeedStock dcNeedStock pmNeedStock cdNeedStock ctNeedStock ocWiden kVWiden dcWiden pmWiden cdWiden ctWiden ocPush kVPush dcPush pmPush cdPush ctPush ocSteps kVSteps dcSteps pmSteps cdSteps ctSteps ocMove kVMove dcMove pmMove cdMove ctMove ocReach kVReach dcReach pmReach cdReach ctReach ocPoured kVPoured dcPoured pmPoured cdPoured ctPoured ocCountOf kVCountOf dcCountOf pmCountOf cdCountOf ctCountOf ocTakersOf kVTakersOf dcTakersOf pmTakersOf cdTakersOf ctTakersOf ocMixed kVMixed dcMixed pmMixed cdMixed ctMixed ocDraw kVDraw dcDraw pmDraw cdDraw ctDraw ocOneOf kVOneOf dcOneOf pmOneOf cdOneOf ctOneOf ocShuffled kVShuffled dcShuffled pmShuffled cdShuffled ctShuffled ocWord kVWord dcWord pmWord cdWord ctWord ocPurse kVPurse dcPurse pmPurse cdPurse ctPurse ocPurses kVPurses dcPurses pmPurses cdPurses ctPurses ocNames kVNames dcNames pmNames cdNames ctNames ocKinds kVKinds dcKinds pmKinds cdKinds ctKinds ocMost kVMost dcMost pmMost cdMost ctMost ocLRows kVLRows dcLRows pmLRows cdLRows ctLRows ocSmallRows kVSmallRows dcSmallRows pmSmallRows cdSmallRows ctSmallRows ocLineOf kVLineOf dcLineOf pmLineOf cdLineOf ctLineOf ocLCounts kVLCounts dcLCounts pmLCounts cdLCounts ctLCounts ocRowsCounts kVRowsCounts dcRowsCounts pmRowsCounts cdRowsCounts ctRowsCounts ocAreAskers kVAreAskers dcAreAskers pmAreAskers cdAreAskers ctAreAskers ocIsPair kVIsPair dcIsPair pmIsPair cdIsPair ctIsPair ocArePairs kVArePairs dcArePairs pmArePairs cdArePairs ctArePairs ocAreCounts kVAreCounts dcAreCounts pmAreCounts cdAreCounts ctAreCounts ocNeedCounts kVNeedCounts dcNeedCounts pmNeedCounts cdNeedCounts ctNeedCounts ocSpread kVSpread dcSpread pmSpread cdSpread ctSpread ocDeal kVDeal dcDeal pmDeal cdDeal ctDeal ocDealt kVDealt dcDealt pmDealt cdDealt ctDealt ocLaw kVLaw dcLaw pmLaw cdLaw ctLaw ocAInit kVAInit dcAInit pmAInit cdAInit ctAInit ocAEq kVAEq dcAEq pmAEq cdAEq ctAEq ocLInit kVLInit dcLInit pmLInit cdLInit ctLInit ocLEq kVLEq dcLEq pmLEq cdLEq ctLEq ocLLen kVLLen dcLLen pmLLen cdLLen ctLLen ocLAskers kVLAskers dcLAskers pmLAskers cdLAskers ctLAskers ocLNames kVLNames dcLNames pmLNames cdLNames ctLNames ocLKinds kVLKinds dcLKinds pmLKinds cdLKinds ctLKinds ocLAsk kVLAsk dcLAsk pmLAsk cdLAsk ctLAsk ocLPlace kVLPlace dcLPlace pmLPlace cdLPlace ctLPlace ocAName kVAName dcAName pmAName cdAName ctAName ocAFits kVAFits dcAFits pmAFits cdAFits ctAFits ocAMost kVAMost dcAMost pmAMost cdAMost ctAMost : Value}
    (aA : PySem.W.nsIn K mainGlobals "Asker" = some (some (.ref CA))) (aL : PySem.W.nsIn K mainGlobals "Line" = some (some (.ref CL)))
    (aWhole : PySem.W.nsIn K mainGlobals "is_whole" = some (some (.ref fWhole))) (lWhole : K.lookup fWhole = some ⟨ocWhole, odWhole, .func (PySem.W.fnOf "is_whole" "is_whole" (defArgs sWhole) (defBody sWhole) (defScope sWhole) .none kVWhole dcWhole pmWhole anWhole cdWhole ctWhole), slWhole⟩)
    (cWhole : PySem.W.codeIn K cdWhole "is_whole" = true) (kWhole : PySem.W.keepIn K (.ref fWhole) = true)
    (aCount : PySem.W.nsIn K mainGlobals "is_count" = some (some (.ref fCount))) (lCount : K.lookup fCount = some ⟨ocCount, odCount, .func (PySem.W.fnOf "is_count" "is_count" (defArgs sCount) (defBody sCount) (defScope sCount) .none kVCount dcCount pmCount anCount cdCount ctCount), slCount⟩)
    (cCount : PySem.W.codeIn K cdCount "is_count" = true) (kCount : PySem.W.keepIn K (.ref fCount) = true)
    (aIsName : PySem.W.nsIn K mainGlobals "is_name" = some (some (.ref fIsName))) (lIsName : K.lookup fIsName = some ⟨ocIsName, odIsName, .func (PySem.W.fnOf "is_name" "is_name" (defArgs sIsName) (defBody sIsName) (defScope sIsName) .none kVIsName dcIsName pmIsName anIsName cdIsName ctIsName), slIsName⟩)
    (cIsName : PySem.W.codeIn K cdIsName "is_name" = true) (kIsName : PySem.W.keepIn K (.ref fIsName) = true)
    (aUnlike : PySem.W.nsIn K mainGlobals "are_unlike" = some (some (.ref fUnlike))) (lUnlike : K.lookup fUnlike = some ⟨ocUnlike, odUnlike, .func (PySem.W.fnOf "are_unlike" "are_unlike" (defArgs sUnlike) (defBody sUnlike) (defScope sUnlike) .none kVUnlike dcUnlike pmUnlike anUnlike cdUnlike ctUnlike), slUnlike⟩)
    (cUnlike : PySem.W.codeIn K cdUnlike "are_unlike" = true) (kUnlike : PySem.W.keepIn K (.ref fUnlike) = true)
    (aAreNames : PySem.W.nsIn K mainGlobals "are_names" = some (some (.ref fAreNames))) (lAreNames : K.lookup fAreNames = some ⟨ocAreNames, odAreNames, .func (PySem.W.fnOf "are_names" "are_names" (defArgs sAreNames) (defBody sAreNames) (defScope sAreNames) .none kVAreNames dcAreNames pmAreNames anAreNames cdAreNames ctAreNames), slAreNames⟩)
    (cAreNames : PySem.W.codeIn K cdAreNames "are_names" = true) (kAreNames : PySem.W.keepIn K (.ref fAreNames) = true)
    (aIsStock : PySem.W.nsIn K mainGlobals "is_stock" = some (some (.ref fIsStock))) (lIsStock : K.lookup fIsStock = some ⟨ocIsStock, odIsStock, .func (PySem.W.fnOf "is_stock" "is_stock" (defArgs sIsStock) (defBody sIsStock) (defScope sIsStock) .none kVIsStock dcIsStock pmIsStock anIsStock cdIsStock ctIsStock), slIsStock⟩)
    (cIsStock : PySem.W.codeIn K cdIsStock "is_stock" = true) (kIsStock : PySem.W.keepIn K (.ref fIsStock) = true)
    (aNeedLine : PySem.W.nsIn K mainGlobals "need_line" = some (some (.ref fNeedLine))) (lNeedLine : K.lookup fNeedLine = some ⟨ocNeedLine, odNeedLine, .func (PySem.W.fnOf "need_line" "need_line" (defArgs sNeedLine) (defBody sNeedLine) (defScope sNeedLine) .none kVNeedLine dcNeedLine pmNeedLine anNeedLine cdNeedLine ctNeedLine), slNeedLine⟩)
    (cNeedLine : PySem.W.codeIn K cdNeedLine "need_line" = true) (kNeedLine : PySem.W.keepIn K (.ref fNeedLine) = true)
    (aNeedStock : PySem.W.nsIn K mainGlobals "need_stock" = some (some (.ref fNeedStock))) (lNeedStock : K.lookup fNeedStock = some ⟨ocNeedStock, odNeedStock, .func (PySem.W.fnOf "need_stock" "need_stock" (defArgs sNeedStock) (defBody sNeedStock) (defScope sNeedStock) .none kVNeedStock dcNeedStock pmNeedStock anNeedStock cdNeedStock ctNeedStock), slNeedStock⟩)
    (cNeedStock : PySem.W.codeIn K cdNeedStock "need_stock" = true) (kNeedStock : PySem.W.keepIn K (.ref fNeedStock) = true)
    (aWiden : PySem.W.nsIn K mainGlobals "widen" = some (some (.ref fWiden))) (lWiden : K.lookup fWiden = some ⟨ocWiden, odWiden, .func (PySem.W.fnOf "widen" "widen" (defArgs sWiden) (defBody sWiden) (defScope sWiden) .none kVWiden dcWiden pmWiden anWiden cdWiden ctWiden), slWiden⟩)
    (cWiden : PySem.W.codeIn K cdWiden "widen" = true) (kWiden : PySem.W.keepIn K (.ref fWiden) = true)
    (aPush : PySem.W.nsIn K mainGlobals "push" = some (some (.ref fPush))) (lPush : K.lookup fPush = some ⟨ocPush, odPush, .func (PySem.W.fnOf "push" "push" (defArgs sPush) (defBody sPush) (defScope sPush) .none kVPush dcPush pmPush anPush cdPush ctPush), slPush⟩)
    (cPush : PySem.W.codeIn K cdPush "push" = true) (kPush : PySem.W.keepIn K (.ref fPush) = true)
    (aSteps : PySem.W.nsIn K mainGlobals "_steps" = some (some (.ref fSteps))) (lSteps : K.lookup fSteps = some ⟨ocSteps, odSteps, .func (PySem.W.fnOf "_steps" "_steps" (defArgs sSteps) (defBody sSteps) (defScope sSteps) .none kVSteps dcSteps pmSteps anSteps cdSteps ctSteps), slSteps⟩)
    (cSteps : PySem.W.codeIn K cdSteps "_steps" = true) (kSteps : PySem.W.keepIn K (.ref fSteps) = true)
    (aMove : PySem.W.nsIn K mainGlobals "move" = some (some (.ref fMove))) (lMove : K.lookup fMove = some ⟨ocMove, odMove, .func (PySem.W.fnOf "move" "move" (defArgs sMove) (defBody sMove) (defScope sMove) .none kVMove dcMove pmMove anMove cdMove ctMove), slMove⟩)
    (cMove : PySem.W.codeIn K cdMove "move" = true) (kMove : PySem.W.keepIn K (.ref fMove) = true)
    (aReach : PySem.W.nsIn K mainGlobals "reach" = some (some (.ref fReach))) (lReach : K.lookup fReach = some ⟨ocReach, odReach, .func (PySem.W.fnOf "reach" "reach" (defArgs sReach) (defBody sReach) (defScope sReach) .none kVReach dcReach pmReach anReach cdReach ctReach), slReach⟩)
    (cReach : PySem.W.codeIn K cdReach "reach" = true) (kReach : PySem.W.keepIn K (.ref fReach) = true)
    (aPoured : PySem.W.nsIn K mainGlobals "poured" = some (some (.ref fPoured))) (lPoured : K.lookup fPoured = some ⟨ocPoured, odPoured, .func (PySem.W.fnOf "poured" "poured" (defArgs sPoured) (defBody sPoured) (defScope sPoured) .none kVPoured dcPoured pmPoured anPoured cdPoured ctPoured), slPoured⟩)
    (cPoured : PySem.W.codeIn K cdPoured "poured" = true) (kPoured : PySem.W.keepIn K (.ref fPoured) = true)
    (aCountOf : PySem.W.nsIn K mainGlobals "count_of" = some (some (.ref fCountOf))) (lCountOf : K.lookup fCountOf = some ⟨ocCountOf, odCountOf, .func (PySem.W.fnOf "count_of" "count_of" (defArgs sCountOf) (defBody sCountOf) (defScope sCountOf) .none kVCountOf dcCountOf pmCountOf anCountOf cdCountOf ctCountOf), slCountOf⟩)
    (cCountOf : PySem.W.codeIn K cdCountOf "count_of" = true) (kCountOf : PySem.W.keepIn K (.ref fCountOf) = true)
    (aTakersOf : PySem.W.nsIn K mainGlobals "takers_of" = some (some (.ref fTakersOf))) (lTakersOf : K.lookup fTakersOf = some ⟨ocTakersOf, odTakersOf, .func (PySem.W.fnOf "takers_of" "takers_of" (defArgs sTakersOf) (defBody sTakersOf) (defScope sTakersOf) .none kVTakersOf dcTakersOf pmTakersOf anTakersOf cdTakersOf ctTakersOf), slTakersOf⟩)
    (cTakersOf : PySem.W.codeIn K cdTakersOf "takers_of" = true) (kTakersOf : PySem.W.keepIn K (.ref fTakersOf) = true)
    (aMixed : PySem.W.nsIn K mainGlobals "_law_mixed" = some (some (.ref fMixed))) (lMixed : K.lookup fMixed = some ⟨ocMixed, odMixed, .func (PySem.W.fnOf "_law_mixed" "_law_mixed" (defArgs sMixed) (defBody sMixed) (defScope sMixed) .none kVMixed dcMixed pmMixed anMixed cdMixed ctMixed), slMixed⟩)
    (cMixed : PySem.W.codeIn K cdMixed "_law_mixed" = true) (kMixed : PySem.W.keepIn K (.ref fMixed) = true)
    (aDraw : PySem.W.nsIn K mainGlobals "_law_draw" = some (some (.ref fDraw))) (lDraw : K.lookup fDraw = some ⟨ocDraw, odDraw, .func (PySem.W.fnOf "_law_draw" "_law_draw" (defArgs sDraw) (defBody sDraw) (defScope sDraw) .none kVDraw dcDraw pmDraw anDraw cdDraw ctDraw), slDraw⟩)
    (cDraw : PySem.W.codeIn K cdDraw "_law_draw" = true) (kDraw : PySem.W.keepIn K (.ref fDraw) = true)
    (aOneOf : PySem.W.nsIn K mainGlobals "_law_one_of" = some (some (.ref fOneOf))) (lOneOf : K.lookup fOneOf = some ⟨ocOneOf, odOneOf, .func (PySem.W.fnOf "_law_one_of" "_law_one_of" (defArgs sOneOf) (defBody sOneOf) (defScope sOneOf) .none kVOneOf dcOneOf pmOneOf anOneOf cdOneOf ctOneOf), slOneOf⟩)
    (cOneOf : PySem.W.codeIn K cdOneOf "_law_one_of" = true) (kOneOf : PySem.W.keepIn K (.ref fOneOf) = true)
    (aShuffled : PySem.W.nsIn K mainGlobals "_law_shuffled" = some (some (.ref fShuffled))) (lShuffled : K.lookup fShuffled = some ⟨ocShuffled, odShuffled, .func (PySem.W.fnOf "_law_shuffled" "_law_shuffled" (defArgs sShuffled) (defBody sShuffled) (defScope sShuffled) .none kVShuffled dcShuffled pmShuffled anShuffled cdShuffled ctShuffled), slShuffled⟩)
    (cShuffled : PySem.W.codeIn K cdShuffled "_law_shuffled" = true) (kShuffled : PySem.W.keepIn K (.ref fShuffled) = true)
    (aWord : PySem.W.nsIn K mainGlobals "_law_word" = some (some (.ref fWord))) (lWord : K.lookup fWord = some ⟨ocWord, odWord, .func (PySem.W.fnOf "_law_word" "_law_word" (defArgs sWord) (defBody sWord) (defScope sWord) .none kVWord dcWord pmWord anWord cdWord ctWord), slWord⟩)
    (cWord : PySem.W.codeIn K cdWord "_law_word" = true) (kWord : PySem.W.keepIn K (.ref fWord) = true)
    (aPurse : PySem.W.nsIn K mainGlobals "_law_purse" = some (some (.ref fPurse))) (lPurse : K.lookup fPurse = some ⟨ocPurse, odPurse, .func (PySem.W.fnOf "_law_purse" "_law_purse" (defArgs sPurse) (defBody sPurse) (defScope sPurse) .none kVPurse dcPurse pmPurse anPurse cdPurse ctPurse), slPurse⟩)
    (cPurse : PySem.W.codeIn K cdPurse "_law_purse" = true) (kPurse : PySem.W.keepIn K (.ref fPurse) = true)
    (aPurses : PySem.W.nsIn K mainGlobals "_law_purses" = some (some (.ref fPurses))) (lPurses : K.lookup fPurses = some ⟨ocPurses, odPurses, .func (PySem.W.fnOf "_law_purses" "_law_purses" (defArgs sPurses) (defBody sPurses) (defScope sPurses) .none kVPurses dcPurses pmPurses anPurses cdPurses ctPurses), slPurses⟩)
    (cPurses : PySem.W.codeIn K cdPurses "_law_purses" = true) (kPurses : PySem.W.keepIn K (.ref fPurses) = true)
    (aNames : PySem.W.nsIn K mainGlobals "_law_names" = some (some (.ref fNames))) (lNames : K.lookup fNames = some ⟨ocNames, odNames, .func (PySem.W.fnOf "_law_names" "_law_names" (defArgs sNames) (defBody sNames) (defScope sNames) .none kVNames dcNames pmNames anNames cdNames ctNames), slNames⟩)
    (cNames : PySem.W.codeIn K cdNames "_law_names" = true) (kNames : PySem.W.keepIn K (.ref fNames) = true)
    (aKinds : PySem.W.nsIn K mainGlobals "_law_kinds" = some (some (.ref fKinds))) (lKinds : K.lookup fKinds = some ⟨ocKinds, odKinds, .func (PySem.W.fnOf "_law_kinds" "_law_kinds" (defArgs sKinds) (defBody sKinds) (defScope sKinds) .none kVKinds dcKinds pmKinds anKinds cdKinds ctKinds), slKinds⟩)
    (cKinds : PySem.W.codeIn K cdKinds "_law_kinds" = true) (kKinds : PySem.W.keepIn K (.ref fKinds) = true)
    (aMost : PySem.W.nsIn K mainGlobals "_law_most" = some (some (.ref fMost))) (lMost : K.lookup fMost = some ⟨ocMost, odMost, .func (PySem.W.fnOf "_law_most" "_law_most" (defArgs sMost) (defBody sMost) (defScope sMost) .none kVMost dcMost pmMost anMost cdMost ctMost), slMost⟩)
    (cMost : PySem.W.codeIn K cdMost "_law_most" = true) (kMost : PySem.W.keepIn K (.ref fMost) = true)
    (aLRows : PySem.W.nsIn K mainGlobals "_law_rows" = some (some (.ref fLRows))) (lLRows : K.lookup fLRows = some ⟨ocLRows, odLRows, .func (PySem.W.fnOf "_law_rows" "_law_rows" (defArgs sLRows) (defBody sLRows) (defScope sLRows) .none kVLRows dcLRows pmLRows anLRows cdLRows ctLRows), slLRows⟩)
    (cLRows : PySem.W.codeIn K cdLRows "_law_rows" = true) (kLRows : PySem.W.keepIn K (.ref fLRows) = true)
    (aSmallRows : PySem.W.nsIn K mainGlobals "_law_small_rows" = some (some (.ref fSmallRows))) (lSmallRows : K.lookup fSmallRows = some ⟨ocSmallRows, odSmallRows, .func (PySem.W.fnOf "_law_small_rows" "_law_small_rows" (defArgs sSmallRows) (defBody sSmallRows) (defScope sSmallRows) .none kVSmallRows dcSmallRows pmSmallRows anSmallRows cdSmallRows ctSmallRows), slSmallRows⟩)
    (cSmallRows : PySem.W.codeIn K cdSmallRows "_law_small_rows" = true) (kSmallRows : PySem.W.keepIn K (.ref fSmallRows) = true)
    (aLineOf : PySem.W.nsIn K mainGlobals "_law_line_of" = some (some (.ref fLineOf))) (lLineOf : K.lookup fLineOf = some ⟨ocLineOf, odLineOf, .func (PySem.W.fnOf "_law_line_of" "_law_line_of" (defArgs sLineOf) (defBody sLineOf) (defScope sLineOf) .none kVLineOf dcLineOf pmLineOf anLineOf cdLineOf ctLineOf), slLineOf⟩)
    (cLineOf : PySem.W.codeIn K cdLineOf "_law_line_of" = true) (kLineOf : PySem.W.keepIn K (.ref fLineOf) = true)
    (aLCounts : PySem.W.nsIn K mainGlobals "_law_counts" = some (some (.ref fLCounts))) (lLCounts : K.lookup fLCounts = some ⟨ocLCounts, odLCounts, .func (PySem.W.fnOf "_law_counts" "_law_counts" (defArgs sLCounts) (defBody sLCounts) (defScope sLCounts) .none kVLCounts dcLCounts pmLCounts anLCounts cdLCounts ctLCounts), slLCounts⟩)
    (cLCounts : PySem.W.codeIn K cdLCounts "_law_counts" = true) (kLCounts : PySem.W.keepIn K (.ref fLCounts) = true)
    (aRowsCounts : PySem.W.nsIn K mainGlobals "_law_rows_of_counts" = some (some (.ref fRowsCounts))) (lRowsCounts : K.lookup fRowsCounts = some ⟨ocRowsCounts, odRowsCounts, .func (PySem.W.fnOf "_law_rows_of_counts" "_law_rows_of_counts" (defArgs sRowsCounts) (defBody sRowsCounts) (defScope sRowsCounts) .none kVRowsCounts dcRowsCounts pmRowsCounts anRowsCounts cdRowsCounts ctRowsCounts), slRowsCounts⟩)
    (cRowsCounts : PySem.W.codeIn K cdRowsCounts "_law_rows_of_counts" = true) (kRowsCounts : PySem.W.keepIn K (.ref fRowsCounts) = true)
    (aAreAskers : PySem.W.nsIn K mainGlobals "_are_askers" = some (some (.ref fAreAskers))) (lAreAskers : K.lookup fAreAskers = some ⟨ocAreAskers, odAreAskers, .func (PySem.W.fnOf "_are_askers" "_are_askers" (defArgs sAreAskers) (defBody sAreAskers) (defScope sAreAskers) .none kVAreAskers dcAreAskers pmAreAskers anAreAskers cdAreAskers ctAreAskers), slAreAskers⟩)
    (cAreAskers : PySem.W.codeIn K cdAreAskers "_are_askers" = true) (kAreAskers : PySem.W.keepIn K (.ref fAreAskers) = true)
    (aIsPair : PySem.W.nsIn K mainGlobals "_is_pair" = some (some (.ref fIsPair))) (lIsPair : K.lookup fIsPair = some ⟨ocIsPair, odIsPair, .func (PySem.W.fnOf "_is_pair" "_is_pair" (defArgs sIsPair) (defBody sIsPair) (defScope sIsPair) .none kVIsPair dcIsPair pmIsPair anIsPair cdIsPair ctIsPair), slIsPair⟩)
    (cIsPair : PySem.W.codeIn K cdIsPair "_is_pair" = true) (kIsPair : PySem.W.keepIn K (.ref fIsPair) = true)
    (aArePairs : PySem.W.nsIn K mainGlobals "are_pairs" = some (some (.ref fArePairs))) (lArePairs : K.lookup fArePairs = some ⟨ocArePairs, odArePairs, .func (PySem.W.fnOf "are_pairs" "are_pairs" (defArgs sArePairs) (defBody sArePairs) (defScope sArePairs) .none kVArePairs dcArePairs pmArePairs anArePairs cdArePairs ctArePairs), slArePairs⟩)
    (cArePairs : PySem.W.codeIn K cdArePairs "are_pairs" = true) (kArePairs : PySem.W.keepIn K (.ref fArePairs) = true)
    (aAreCounts : PySem.W.nsIn K mainGlobals "are_counts" = some (some (.ref fAreCounts))) (lAreCounts : K.lookup fAreCounts = some ⟨ocAreCounts, odAreCounts, .func (PySem.W.fnOf "are_counts" "are_counts" (defArgs sAreCounts) (defBody sAreCounts) (defScope sAreCounts) .none kVAreCounts dcAreCounts pmAreCounts anAreCounts cdAreCounts ctAreCounts), slAreCounts⟩)
    (cAreCounts : PySem.W.codeIn K cdAreCounts "are_counts" = true) (kAreCounts : PySem.W.keepIn K (.ref fAreCounts) = true)
    (aNeedCounts : PySem.W.nsIn K mainGlobals "need_counts" = some (some (.ref fNeedCounts))) (lNeedCounts : K.lookup fNeedCounts = some ⟨ocNeedCounts, odNeedCounts, .func (PySem.W.fnOf "need_counts" "need_counts" (defArgs sNeedCounts) (defBody sNeedCounts) (defScope sNeedCounts) .none kVNeedCounts dcNeedCounts pmNeedCounts anNeedCounts cdNeedCounts ctNeedCounts), slNeedCounts⟩)
    (cNeedCounts : PySem.W.codeIn K cdNeedCounts "need_counts" = true) (kNeedCounts : PySem.W.keepIn K (.ref fNeedCounts) = true)
    (aSpread : PySem.W.nsIn K mainGlobals "spread" = some (some (.ref fSpread))) (lSpread : K.lookup fSpread = some ⟨ocSpread, odSpread, .func (PySem.W.fnOf "spread" "spread" (defArgs sSpread) (defBody sSpread) (defScope sSpread) .none kVSpread dcSpread pmSpread anSpread cdSpread ctSpread), slSpread⟩)
    (cSpread : PySem.W.codeIn K cdSpread "spread" = true) (kSpread : PySem.W.keepIn K (.ref fSpread) = true)
    (aDeal : PySem.W.nsIn K mainGlobals "deal" = some (some (.ref fDeal))) (lDeal : K.lookup fDeal = some ⟨ocDeal, odDeal, .func (PySem.W.fnOf "deal" "deal" (defArgs sDeal) (defBody sDeal) (defScope sDeal) .none kVDeal dcDeal pmDeal anDeal cdDeal ctDeal), slDeal⟩)
    (cDeal : PySem.W.codeIn K cdDeal "deal" = true) (kDeal : PySem.W.keepIn K (.ref fDeal) = true)
    (aDealt : PySem.W.nsIn K mainGlobals "dealt" = some (some (.ref fDealt))) (lDealt : K.lookup fDealt = some ⟨ocDealt, odDealt, .func (PySem.W.fnOf "dealt" "dealt" (defArgs sDealt) (defBody sDealt) (defScope sDealt) .none kVDealt dcDealt pmDealt anDealt cdDealt ctDealt), slDealt⟩)
    (cDealt : PySem.W.codeIn K cdDealt "dealt" = true) (kDealt : PySem.W.keepIn K (.ref fDealt) = true)
    (aLaw : PySem.W.nsIn K mainGlobals "law" = some (some (.ref fLaw))) (lLaw : K.lookup fLaw = some ⟨ocLaw, odLaw, .func (PySem.W.fnOf "law" "law" (defArgs sLaw) (defBody sLaw) (defScope sLaw) .none kVLaw dcLaw pmLaw anLaw cdLaw ctLaw), slLaw⟩)
    (cLaw : PySem.W.codeIn K cdLaw "law" = true) (kLaw : PySem.W.keepIn K (.ref fLaw) = true)
    (aAInit : PySem.W.findIn K (.ref CA) "__init__" = some (some (.ref fAInit))) (lAInit : K.lookup fAInit = some ⟨ocAInit, odAInit, .func (PySem.W.fnOf "__init__" "Asker.__init__" (defArgs sAInit) (defBody sAInit) (defScope sAInit) .none kVAInit dcAInit pmAInit anAInit cdAInit ctAInit), slAInit⟩)
    (cAInit : PySem.W.codeIn K cdAInit "Asker.__init__" = true) (kAInit : PySem.W.keepIn K (.ref fAInit) = true)
    (aAEq : PySem.W.findIn K (.ref CA) "__eq__" = some (some (.ref fAEq))) (lAEq : K.lookup fAEq = some ⟨ocAEq, odAEq, .func (PySem.W.fnOf "__eq__" "Asker.__eq__" (defArgs sAEq) (defBody sAEq) (defScope sAEq) .none kVAEq dcAEq pmAEq anAEq cdAEq ctAEq), slAEq⟩)
    (cAEq : PySem.W.codeIn K cdAEq "Asker.__eq__" = true) (kAEq : PySem.W.keepIn K (.ref fAEq) = true)
    (aLInit : PySem.W.findIn K (.ref CL) "__init__" = some (some (.ref fLInit))) (lLInit : K.lookup fLInit = some ⟨ocLInit, odLInit, .func (PySem.W.fnOf "__init__" "Line.__init__" (defArgs sLInit) (defBody sLInit) (defScope sLInit) .none kVLInit dcLInit pmLInit anLInit cdLInit ctLInit), slLInit⟩)
    (cLInit : PySem.W.codeIn K cdLInit "Line.__init__" = true) (kLInit : PySem.W.keepIn K (.ref fLInit) = true)
    (aLEq : PySem.W.findIn K (.ref CL) "__eq__" = some (some (.ref fLEq))) (lLEq : K.lookup fLEq = some ⟨ocLEq, odLEq, .func (PySem.W.fnOf "__eq__" "Line.__eq__" (defArgs sLEq) (defBody sLEq) (defScope sLEq) .none kVLEq dcLEq pmLEq anLEq cdLEq ctLEq), slLEq⟩)
    (cLEq : PySem.W.codeIn K cdLEq "Line.__eq__" = true) (kLEq : PySem.W.keepIn K (.ref fLEq) = true)
    (aLLen : PySem.W.findIn K (.ref CL) "__len__" = some (some (.ref fLLen))) (lLLen : K.lookup fLLen = some ⟨ocLLen, odLLen, .func (PySem.W.fnOf "__len__" "Line.__len__" (defArgs sLLen) (defBody sLLen) (defScope sLLen) .none kVLLen dcLLen pmLLen anLLen cdLLen ctLLen), slLLen⟩)
    (cLLen : PySem.W.codeIn K cdLLen "Line.__len__" = true) (kLLen : PySem.W.keepIn K (.ref fLLen) = true)
    (aLAskers : PySem.W.findIn K (.ref CL) "askers" = some (some (.ref fLAskers))) (lLAskers : K.lookup fLAskers = some ⟨ocLAskers, odLAskers, .func (PySem.W.fnOf "askers" "Line.askers" (defArgs sLAskers) (defBody sLAskers) (defScope sLAskers) .none kVLAskers dcLAskers pmLAskers anLAskers cdLAskers ctLAskers), slLAskers⟩)
    (cLAskers : PySem.W.codeIn K cdLAskers "Line.askers" = true) (kLAskers : PySem.W.keepIn K (.ref fLAskers) = true)
    (aLNames : PySem.W.findIn K (.ref CL) "names" = some (some (.ref fLNames))) (lLNames : K.lookup fLNames = some ⟨ocLNames, odLNames, .func (PySem.W.fnOf "names" "Line.names" (defArgs sLNames) (defBody sLNames) (defScope sLNames) .none kVLNames dcLNames pmLNames anLNames cdLNames ctLNames), slLNames⟩)
    (cLNames : PySem.W.codeIn K cdLNames "Line.names" = true) (kLNames : PySem.W.keepIn K (.ref fLNames) = true)
    (aLKinds : PySem.W.findIn K (.ref CL) "kinds" = some (some (.ref fLKinds))) (lLKinds : K.lookup fLKinds = some ⟨ocLKinds, odLKinds, .func (PySem.W.fnOf "kinds" "Line.kinds" (defArgs sLKinds) (defBody sLKinds) (defScope sLKinds) .none kVLKinds dcLKinds pmLKinds anLKinds cdLKinds ctLKinds), slLKinds⟩)
    (cLKinds : PySem.W.codeIn K cdLKinds "Line.kinds" = true) (kLKinds : PySem.W.keepIn K (.ref fLKinds) = true)
    (aLAsk : PySem.W.findIn K (.ref CL) "asker" = some (some (.ref fLAsk))) (lLAsk : K.lookup fLAsk = some ⟨ocLAsk, odLAsk, .func (PySem.W.fnOf "asker" "Line.asker" (defArgs sLAsk) (defBody sLAsk) (defScope sLAsk) .none kVLAsk dcLAsk pmLAsk anLAsk cdLAsk ctLAsk), slLAsk⟩)
    (cLAsk : PySem.W.codeIn K cdLAsk "Line.asker" = true) (kLAsk : PySem.W.keepIn K (.ref fLAsk) = true)
    (aLPlace : PySem.W.findIn K (.ref CL) "place" = some (some (.ref fLPlace))) (lLPlace : K.lookup fLPlace = some ⟨ocLPlace, odLPlace, .func (PySem.W.fnOf "place" "Line.place" (defArgs sLPlace) (defBody sLPlace) (defScope sLPlace) .none kVLPlace dcLPlace pmLPlace anLPlace cdLPlace ctLPlace), slLPlace⟩)
    (cLPlace : PySem.W.codeIn K cdLPlace "Line.place" = true) (kLPlace : PySem.W.keepIn K (.ref fLPlace) = true)
    (qAName : PySem.W.findIn K (.ref CA) "name" = some (some (.ref pAName))) (aAName : ∃ rest, PySem.W.recIn K pAName "property" = some (.ref fAName :: rest)) (lAName : K.lookup fAName = some ⟨ocAName, odAName, .func (PySem.W.fnOf "name" "Asker.name" (defArgs sAName) (defBody sAName) (defScope sAName) .none kVAName dcAName pmAName anAName cdAName ctAName), slAName⟩)
    (cAName : PySem.W.codeIn K cdAName "Asker.name" = true) (kAName : PySem.W.keepIn K (.ref fAName) = true)
    (qAFits : PySem.W.findIn K (.ref CA) "fits" = some (some (.ref pAFits))) (aAFits : ∃ rest, PySem.W.recIn K pAFits "property" = some (.ref fAFits :: rest)) (lAFits : K.lookup fAFits = some ⟨ocAFits, odAFits, .func (PySem.W.fnOf "fits" "Asker.fits" (defArgs sAFits) (defBody sAFits) (defScope sAFits) .none kVAFits dcAFits pmAFits anAFits cdAFits ctAFits), slAFits⟩)
    (cAFits : PySem.W.codeIn K cdAFits "Asker.fits" = true) (kAFits : PySem.W.keepIn K (.ref fAFits) = true)
    (qAMost : PySem.W.findIn K (.ref CA) "most" = some (some (.ref pAMost))) (aAMost : ∃ rest, PySem.W.recIn K pAMost "property" = some (.ref fAMost :: rest)) (lAMost : K.lookup fAMost = some ⟨ocAMost, odAMost, .func (PySem.W.fnOf "most" "Asker.most" (defArgs sAMost) (defBody sAMost) (defScope sAMost) .none kVAMost dcAMost pmAMost anAMost cdAMost ctAMost), slAMost⟩)
    (cAMost : PySem.W.codeIn K cdAMost "Asker.most" = true) (kAMost : PySem.W.keepIn K (.ref fAMost) = true)
    (z0 : PySem.W.nsIn K mainGlobals "len" = some none)
    (z1 : PySem.W.nsIn K mainGlobals "isinstance" = some none)
    (z2 : PySem.W.nsIn K mainGlobals "int" = some none)
    (z3 : PySem.W.nsIn K mainGlobals "bool" = some none)
    (z4 : PySem.W.nsIn K mainGlobals "str" = some none)
    (z5 : PySem.W.nsIn K mainGlobals "list" = some none)
    (z6 : PySem.W.nsIn K mainGlobals "set" = some none)
    (z7 : PySem.W.nsIn K mainGlobals "all" = some none)
    (z8 : PySem.W.nsIn K mainGlobals "sorted" = some none)
    (z9 : PySem.W.nsIn K mainGlobals "tuple" = some none)
    (z10 : PySem.W.nsIn K mainGlobals "range" = some none)
    (z11 : PySem.W.nsIn K mainGlobals "min" = some none)
    (z12 : PySem.W.nsIn K mainGlobals "max" = some none)
    (z13 : PySem.W.nsIn K mainGlobals "sum" = some none)
    (z14 : PySem.W.nsIn K mainGlobals "repr" = some none)
    (y0 : PySem.W.nsIn K mainGlobals "any" = some none) (y1 : PySem.W.nsIn K mainGlobals "dict" = some none) (y2 : PySem.W.nsIn K mainGlobals "zip" = some none) (y3 : PySem.W.nsIn K mainGlobals "enumerate" = some none) (hST : ∃ t, PySem.W.nsIn K mainGlobals "START" = some (some (.str "start" t))) (hEN : ∃ t, PySem.W.nsIn K mainGlobals "END" = some (some (.str "end" t))) (hA : clsAB K CA fAInit pAName fAName pAFits fAFits pAMost fAMost fAEq = true) (hL : clsLB K CL fLInit fLEq fLLen fLAskers fLNames fLKinds fLAsk fLPlace = true) (hne : CL ≠ CA) :
    ∃ fd : FuncData, (∀ (s : Shared) (v : Value), BindsTo s fd ⟨[v], []⟩ [("_law_script", v)]) ∧ ∀ base : Heap, K.In base → base.Ns mainGlobals mg → FnG l.prog w K mg base CX0 11 fa fd ["_law_script"] (spLaw K) := by
  have e := hfa.symm.trans (PySem.W.mg_of X G aLaw)
  cases e
  have FWhole := fun_mk (st := sWhole) lWhole cWhole kWhole
  have FCount := fun_mk (st := sCount) lCount cCount kCount
  have FIsName := fun_mk (st := sIsName) lIsName cIsName kIsName
  have FUnlike := fun_mk (st := sUnlike) lUnlike cUnlike kUnlike
  have FAreNames := fun_mk (st := sAreNames) lAreNames cAreNames kAreNames
  have FIsStock := fun_mk (st := sIsStock) lIsStock cIsStock kIsStock
  have FNeedLine := fun_mk (st := sNeedLine) lNeedLine cNeedLine kNeedLine
  have FNeedStock := fun_mk (st := sNeedStock) lNeedStock cNeedStock kNeedStock
  have FWiden := fun_mk (st := sWiden) lWiden cWiden kWiden
  have FPush := fun_mk (st := sPush) lPush cPush kPush
  have FSteps := fun_mk (st := sSteps) lSteps cSteps kSteps
  have FMove := fun_mk (st := sMove) lMove cMove kMove
  have FReach := fun_mk (st := sReach) lReach cReach kReach
  have FPoured := fun_mk (st := sPoured) lPoured cPoured kPoured
  have FCountOf := fun_mk (st := sCountOf) lCountOf cCountOf kCountOf
  have FTakersOf := fun_mk (st := sTakersOf) lTakersOf cTakersOf kTakersOf
  have FMixed := fun_mk (st := sMixed) lMixed cMixed kMixed
  have FDraw := fun_mk (st := sDraw) lDraw cDraw kDraw
  have FOneOf := fun_mk (st := sOneOf) lOneOf cOneOf kOneOf
  have FShuffled := fun_mk (st := sShuffled) lShuffled cShuffled kShuffled
  have FWord := fun_mk (st := sWord) lWord cWord kWord
  have FPurse := fun_mk (st := sPurse) lPurse cPurse kPurse
  have FPurses := fun_mk (st := sPurses) lPurses cPurses kPurses
  have FNames := fun_mk (st := sNames) lNames cNames kNames
  have FKinds := fun_mk (st := sKinds) lKinds cKinds kKinds
  have FMost := fun_mk (st := sMost) lMost cMost kMost
  have FLRows := fun_mk (st := sLRows) lLRows cLRows kLRows
  have FSmallRows := fun_mk (st := sSmallRows) lSmallRows cSmallRows kSmallRows
  have FLineOf := fun_mk (st := sLineOf) lLineOf cLineOf kLineOf
  have FLCounts := fun_mk (st := sLCounts) lLCounts cLCounts kLCounts
  have FRowsCounts := fun_mk (st := sRowsCounts) lRowsCounts cRowsCounts kRowsCounts
  have FAreAskers := fun_mk (st := sAreAskers) lAreAskers cAreAskers kAreAskers
  have FIsPair := fun_mk (st := sIsPair) lIsPair cIsPair kIsPair
  have FArePairs := fun_mk (st := sArePairs) lArePairs cArePairs kArePairs
  have FAreCounts := fun_mk (st := sAreCounts) lAreCounts cAreCounts kAreCounts
  have FNeedCounts := fun_mk (st := sNeedCounts) lNeedCounts cNeedCounts kNeedCounts
  have FSpread := fun_mk (st := sSpread) lSpread cSpread kSpread
  have FDeal := fun_mk (st := sDeal) lDeal cDeal kDeal
  have FDealt := fun_mk (st := sDealt) lDealt cDealt kDealt
  have FLaw := fun_mk (st := sLaw) lLaw cLaw kLaw
  have FAInit := fun_mk (st := sAInit) lAInit cAInit kAInit
  have FAEq := fun_mk (st := sAEq) lAEq cAEq kAEq
  have FLInit := fun_mk (st := sLInit) lLInit cLInit kLInit
  have FLEq := fun_mk (st := sLEq) lLEq cLEq kLEq
  have FLLen := fun_mk (st := sLLen) lLLen cLLen kLLen
  have FLAskers := fun_mk (st := sLAskers) lLAskers cLAskers kLAskers
  have FLNames := fun_mk (st := sLNames) lLNames cLNames kLNames
  have FLKinds := fun_mk (st := sLKinds) lLKinds cLKinds kLKinds
  have FLAsk := fun_mk (st := sLAsk) lLAsk cLAsk kLAsk
  have FLPlace := fun_mk (st := sLPlace) lLPlace cLPlace kLPlace
  have FAName := fun_mk (st := sAName) lAName cAName kAName
  have FAFits := fun_mk (st := sAFits) lAFits cAFits kAFits
  have FAMost := fun_mk (st := sAMost) lAMost cAMost kAMost
  obtain ⟨tS, hST⟩ := hST
  obtain ⟨tE, hEN⟩ := hEN
  have DR : Drw K mg fMixed fDraw fOneOf fShuffled fWord _ _ _ _ _ := ⟨FMixed, FDraw, FOneOf, FShuffled, FWord, PySem.W.mg_of X G aMixed, PySem.W.mg_of X G aDraw, PySem.W.mg_of X G aOneOf, PySem.W.mg_of X G aShuffled, PySem.W.mg_of X G aWord⟩
  have CHk : Chk K mg fIsName fUnlike _ _ := ⟨FIsName, FUnlike, PySem.W.mg_of X G aIsName, PySem.W.mg_of X G aUnlike⟩
  have CH2 : Chk2 K mg fWhole fAreNames _ _ := ⟨FWhole, FAreNames, PySem.W.mg_of X G aWhole, PySem.W.mg_of X G aAreNames⟩
  have CD : ChkD K mg fIsName fUnlike fWhole fAreNames fCount fIsStock fNeedStock fNeedLine fNeedLine _ _ _ _ _ _ _ _ (PySem.W.fnOf "need_line" "need_line" (defArgs sNeedLine) (defBody sNeedLine) (defScope sNeedLine) .none kVNeedLine dcNeedLine pmNeedLine anNeedLine cdNeedLine ctNeedLine) := ⟨CHk, CH2, FCount, PySem.W.mg_of X G aCount, FIsStock, PySem.W.mg_of X G aIsStock, FNeedStock, PySem.W.mg_of X G aNeedStock, FNeedLine, PySem.W.mg_of X G aNeedLine⟩
  have PO : Pour K mg fWiden fPush fSteps fMove fReach fPoured fCountOf fTakersOf _ _ _ _ _ _ _ _ _ _ := ⟨FWiden, PySem.W.mg_of X G aWiden, FPush, PySem.W.mg_of X G aPush, FReach, PySem.W.mg_of X G aReach, FMove, PySem.W.mg_of X G aMove, FSteps, PySem.W.mg_of X G aSteps, FPoured, PySem.W.mg_of X G aPoured, FCountOf, PySem.W.mg_of X G aCountOf, FTakersOf, PySem.W.mg_of X G aTakersOf, PySem.W.mg_of X G hST, ⟨tS, rfl⟩, PySem.W.mg_of X G hEN, ⟨tE, rfl⟩⟩
  have DF : Defs K mg fPurse fPurses fNames fKinds fMost fLRows fSmallRows fLineOf fLCounts fRowsCounts fAreAskers fIsPair fArePairs fAreCounts fNeedCounts fSpread fDeal fDealt _ _ _ _ _ _ _ _ _ _ _ _ _ _ _ _ _ _ := ⟨FPurse, FPurses, FNames, FKinds, FMost, FLRows, FSmallRows, FLineOf, FLCounts, FRowsCounts, FAreAskers, FIsPair, FArePairs, FAreCounts, FNeedCounts, FSpread, FDeal, FDealt, PySem.W.mg_of X G aPurse, PySem.W.mg_of X G aPurses, PySem.W.mg_of X G aNames, PySem.W.mg_of X G aKinds, PySem.W.mg_of X G aMost, PySem.W.mg_of X G aLRows, PySem.W.mg_of X G aSmallRows, PySem.W.mg_of X G aLineOf, PySem.W.mg_of X G aLCounts, PySem.W.mg_of X G aRowsCounts, PySem.W.mg_of X G aAreAskers, PySem.W.mg_of X G aIsPair, PySem.W.mg_of X G aArePairs, PySem.W.mg_of X G aAreCounts, PySem.W.mg_of X G aNeedCounts, PySem.W.mg_of X G aSpread, PySem.W.mg_of X G aDeal, PySem.W.mg_of X G aDealt⟩
  have B2 : Blt2 mg := ⟨PySem.W.mg_none_of X G y0, PySem.W.mg_none_of X G y1⟩
  have B3 : Blt3 mg := ⟨PySem.W.mg_none_of X G y2, PySem.W.mg_none_of X G y3⟩
  have B : Blt mg := ⟨PySem.W.mg_none_of X G z0, PySem.W.mg_none_of X G z1, PySem.W.mg_none_of X G z2, PySem.W.mg_none_of X G z3, PySem.W.mg_none_of X G z4, PySem.W.mg_none_of X G z5, PySem.W.mg_none_of X G z6, PySem.W.mg_none_of X G z7, PySem.W.mg_none_of X G z8, PySem.W.mg_none_of X G z9, PySem.W.mg_none_of X G z10, PySem.W.mg_none_of X G z11, PySem.W.mg_none_of X G z12, PySem.W.mg_none_of X G z13, PySem.W.mg_none_of X G z14⟩
  exact ⟨PySem.W.fnOf "law" "law" (defArgs sLaw) (defBody sLaw) (defScope sLaw) .none kVLaw dcLaw pmLaw anLaw cdLaw ctLaw, fun s v => .of_eq rfl, fun base _ _ =>
    ok_law (dMe := PySem.W.fnOf "need_line" "need_line" (defArgs sNeedLine) (defBody sNeedLine) (defScope sNeedLine) .none kVNeedLine dcNeedLine pmNeedLine anNeedLine cdNeedLine ctNeedLine) FLaw DR B B2 B3 CD PO DF (clsAB_ok hA) (PySem.W.mg_of X G aA) FAName FAFits FAMost FAInit (clsLB_ok hL) (PySem.W.mg_of X G aL) hne FLInit FLAskers FLNames⟩
end Eld
end L2
open PySem PySem.W PyProof.Rows
set_option maxHeartbeats 0 in
theorem PySem.Challenge.cw_elderlink_k11_whole_rank_among_givings_holds : PySem.Challenge.rw_elderlink_k11_whole_rank_among_givings.Holds := by
  w_on; o_law; k_head; (case hw => w_witness2)
  k_fill
  refine L2.Eld.walkG (l := PySem.Challenge.rw_elderlink_k11_whole_rank_among_givings) (n := 63) (k := 11) (x := "_law_script") (sp := fun w => L2.Eld.spLaw _) rfl (by decide) rfl ⟨rfl, by decide, by decide⟩ (fun w h Y => PySem.W.kIn_of Y) ?F (fun _ _ a ns hl _ hS => ⟨a, ns, rfl, hS, hl, fun _ => rfl⟩)
  case F =>
    intro w mg fa h KX G hmg
    refine' L2.Eld.all_mk KX G hmg ?aA ?aL ?aWhole ?lWhole ?cWhole ?kWhole ?aCount ?lCount ?cCount ?kCount ?aIsName ?lIsName ?cIsName ?kIsName ?aUnlike ?lUnlike ?cUnlike ?kUnlike ?aAreNames ?lAreNames ?cAreNames ?kAreNames ?aIsStock ?lIsStock ?cIsStock ?kIsStock ?aNeedLine ?lNeedLine ?cNeedLine ?kNeedLine ?aNeedStock ?lNeedStock ?cNeedStock ?kNeedStock ?aWiden ?lWiden ?cWiden ?kWiden ?aPush ?lPush ?cPush ?kPush ?aSteps ?lSteps ?cSteps ?kSteps ?aMove ?lMove ?cMove ?kMove ?aReach ?lReach ?cReach ?kReach ?aPoured ?lPoured ?cPoured ?kPoured ?aCountOf ?lCountOf ?cCountOf ?kCountOf ?aTakersOf ?lTakersOf ?cTakersOf ?kTakersOf ?aMixed ?lMixed ?cMixed ?kMixed ?aDraw ?lDraw ?cDraw ?kDraw ?aOneOf ?lOneOf ?cOneOf ?kOneOf ?aShuffled ?lShuffled ?cShuffled ?kShuffled ?aWord ?lWord ?cWord ?kWord ?aPurse ?lPurse ?cPurse ?kPurse ?aPurses ?lPurses ?cPurses ?kPurses ?aNames ?lNames ?cNames ?kNames ?aKinds ?lKinds ?cKinds ?kKinds ?aMost ?lMost ?cMost ?kMost ?aLRows ?lLRows ?cLRows ?kLRows ?aSmallRows ?lSmallRows ?cSmallRows ?kSmallRows ?aLineOf ?lLineOf ?cLineOf ?kLineOf ?aLCounts ?lLCounts ?cLCounts ?kLCounts ?aRowsCounts ?lRowsCounts ?cRowsCounts ?kRowsCounts ?aAreAskers ?lAreAskers ?cAreAskers ?kAreAskers ?aIsPair ?lIsPair ?cIsPair ?kIsPair ?aArePairs ?lArePairs ?cArePairs ?kArePairs ?aAreCounts ?lAreCounts ?cAreCounts ?kAreCounts ?aNeedCounts ?lNeedCounts ?cNeedCounts ?kNeedCounts ?aSpread ?lSpread ?cSpread ?kSpread ?aDeal ?lDeal ?cDeal ?kDeal ?aDealt ?lDealt ?cDealt ?kDealt ?aLaw ?lLaw ?cLaw ?kLaw ?aAInit ?lAInit ?cAInit ?kAInit ?aAEq ?lAEq ?cAEq ?kAEq ?aLInit ?lLInit ?cLInit ?kLInit ?aLEq ?lLEq ?cLEq ?kLEq ?aLLen ?lLLen ?cLLen ?kLLen ?aLAskers ?lLAskers ?cLAskers ?kLAskers ?aLNames ?lLNames ?cLNames ?kLNames ?aLKinds ?lLKinds ?cLKinds ?kLKinds ?aLAsk ?lLAsk ?cLAsk ?kLAsk ?aLPlace ?lLPlace ?cLPlace ?kLPlace ?qAName ?aAName ?lAName ?cAName ?kAName ?qAFits ?aAFits ?lAFits ?cAFits ?kAFits ?qAMost ?aAMost ?lAMost ?cAMost ?kAMost ?z0 ?z1 ?z2 ?z3 ?z4 ?z5 ?z6 ?z7 ?z8 ?z9 ?z10 ?z11 ?z12 ?z13 ?z14 ?y0 ?y1 ?y2 ?y3 ?hST ?hEN ?hA ?hL ?hne
    (case aA => k_is); (case aL => k_is)
    (case aWhole => k_is); (case lWhole => k_is); (case cWhole => k_is); (case kWhole => k_is)
    (case aCount => k_is); (case lCount => k_is); (case cCount => k_is); (case kCount => k_is)
    (case aIsName => k_is); (case lIsName => k_is); (case cIsName => k_is); (case kIsName => k_is)
    (case aUnlike => k_is); (case lUnlike => k_is); (case cUnlike => k_is); (case kUnlike => k_is)
    (case aAreNames => k_is); (case lAreNames => k_is); (case cAreNames => k_is); (case kAreNames => k_is)
    (case aIsStock => k_is); (case lIsStock => k_is); (case cIsStock => k_is); (case kIsStock => k_is)
    (case aNeedLine => k_is); (case lNeedLine => k_is); (case cNeedLine => k_is); (case kNeedLine => k_is)
    (case aNeedStock => k_is); (case lNeedStock => k_is); (case cNeedStock => k_is); (case kNeedStock => k_is)
    (case aWiden => k_is); (case lWiden => k_is); (case cWiden => k_is); (case kWiden => k_is)
    (case aPush => k_is); (case lPush => k_is); (case cPush => k_is); (case kPush => k_is)
    (case aSteps => k_is); (case lSteps => k_is); (case cSteps => k_is); (case kSteps => k_is)
    (case aMove => k_is); (case lMove => k_is); (case cMove => k_is); (case kMove => k_is)
    (case aReach => k_is); (case lReach => k_is); (case cReach => k_is); (case kReach => k_is)
    (case aPoured => k_is); (case lPoured => k_is); (case cPoured => k_is); (case kPoured => k_is)
    (case aCountOf => k_is); (case lCountOf => k_is); (case cCountOf => k_is); (case kCountOf => k_is)
    (case aTakersOf => k_is); (case lTakersOf => k_is); (case cTakersOf => k_is); (case kTakersOf => k_is)
    (case aMixed => k_is); (case lMixed => k_is); (case cMixed => k_is); (case kMixed => k_is)
    (case aDraw => k_is); (case lDraw => k_is); (case cDraw => k_is); (case kDraw => k_is)
    (case aOneOf => k_is); (case lOneOf => k_is); (case cOneOf => k_is); (case kOneOf => k_is)
    (case aShuffled => k_is); (case lShuffled => k_is); (case cShuffled => k_is); (case kShuffled => k_is)
    (case aWord => k_is); (case lWord => k_is); (case cWord => k_is); (case kWord => k_is)
    (case aPurse => k_is); (case lPurse => k_is); (case cPurse => k_is); (case kPurse => k_is)
    (case aPurses => k_is); (case lPurses => k_is); (case cPurses => k_is); (case kPurses => k_is)
    (case aNames => k_is); (case lNames => k_is); (case cNames => k_is); (case kNames => k_is)
    (case aKinds => k_is); (case lKinds => k_is); (case cKinds => k_is); (case kKinds => k_is)
    (case aMost => k_is); (case lMost => k_is); (case cMost => k_is); (case kMost => k_is)
    (case aLRows => k_is); (case lLRows => k_is); (case cLRows => k_is); (case kLRows => k_is)
    (case aSmallRows => k_is); (case lSmallRows => k_is); (case cSmallRows => k_is); (case kSmallRows => k_is)
    (case aLineOf => k_is); (case lLineOf => k_is); (case cLineOf => k_is); (case kLineOf => k_is)
    (case aLCounts => k_is); (case lLCounts => k_is); (case cLCounts => k_is); (case kLCounts => k_is)
    (case aRowsCounts => k_is); (case lRowsCounts => k_is); (case cRowsCounts => k_is); (case kRowsCounts => k_is)
    (case aAreAskers => k_is); (case lAreAskers => k_is); (case cAreAskers => k_is); (case kAreAskers => k_is)
    (case aIsPair => k_is); (case lIsPair => k_is); (case cIsPair => k_is); (case kIsPair => k_is)
    (case aArePairs => k_is); (case lArePairs => k_is); (case cArePairs => k_is); (case kArePairs => k_is)
    (case aAreCounts => k_is); (case lAreCounts => k_is); (case cAreCounts => k_is); (case kAreCounts => k_is)
    (case aNeedCounts => k_is); (case lNeedCounts => k_is); (case cNeedCounts => k_is); (case kNeedCounts => k_is)
    (case aSpread => k_is); (case lSpread => k_is); (case cSpread => k_is); (case kSpread => k_is)
    (case aDeal => k_is); (case lDeal => k_is); (case cDeal => k_is); (case kDeal => k_is)
    (case aDealt => k_is); (case lDealt => k_is); (case cDealt => k_is); (case kDealt => k_is)
    (case aLaw => k_is); (case lLaw => k_is); (case cLaw => k_is); (case kLaw => k_is)
    (case aAInit => k_is); (case lAInit => k_is); (case cAInit => k_is); (case kAInit => k_is)
    (case aAEq => k_is); (case lAEq => k_is); (case cAEq => k_is); (case kAEq => k_is)
    (case aLInit => k_is); (case lLInit => k_is); (case cLInit => k_is); (case kLInit => k_is)
    (case aLEq => k_is); (case lLEq => k_is); (case cLEq => k_is); (case kLEq => k_is)
    (case aLLen => k_is); (case lLLen => k_is); (case cLLen => k_is); (case kLLen => k_is)
    (case aLAskers => k_is); (case lLAskers => k_is); (case cLAskers => k_is); (case kLAskers => k_is)
    (case aLNames => k_is); (case lLNames => k_is); (case cLNames => k_is); (case kLNames => k_is)
    (case aLKinds => k_is); (case lLKinds => k_is); (case cLKinds => k_is); (case kLKinds => k_is)
    (case aLAsk => k_is); (case lLAsk => k_is); (case cLAsk => k_is); (case kLAsk => k_is)
    (case aLPlace => k_is); (case lLPlace => k_is); (case cLPlace => k_is); (case kLPlace => k_is)
    (case qAName => k_is); (case aAName => exact ⟨_, by k_is⟩); (case lAName => k_is); (case cAName => k_is); (case kAName => k_is)
    (case qAFits => k_is); (case aAFits => exact ⟨_, by k_is⟩); (case lAFits => k_is); (case cAFits => k_is); (case kAFits => k_is)
    (case qAMost => k_is); (case aAMost => exact ⟨_, by k_is⟩); (case lAMost => k_is); (case cAMost => k_is); (case kAMost => k_is)
    (case z0 => k_is); (case z1 => k_is); (case z2 => k_is); (case z3 => k_is); (case z4 => k_is); (case z5 => k_is); (case z6 => k_is); (case z7 => k_is); (case z8 => k_is); (case z9 => k_is); (case z10 => k_is); (case z11 => k_is); (case z12 => k_is); (case z13 => k_is); (case z14 => k_is)
    (case y0 => k_is)
    (case y1 => k_is)
    (case y2 => k_is)
    (case y3 => k_is)
    (case hST => exact ⟨_, by k_is⟩)
    (case hEN => exact ⟨_, by k_is⟩)
    (case hA => kernel_rfl)
    (case hL => kernel_rfl)
    (case hne => decide)

