import PyProof.Rows.All
import Wide.All
import OpenK.AllK
import Wide.FinOn
import PyProof.EqAt
import PyProof.EqKinds
import PyProof.TupleCall
import KE.KIsAll
import KE.KTryMore
import HandS.ForMost
import HandS.Exc
import HandS.ExcIs
import HandS.ExcInit
import HandS.ExcField
import HandS.ExcValue
import HandS.Defaults
import HandS.IsInst
import HandS.WideBits
import HandS.Wide
import PyProof.ReprRoads
import PyProof.ReprText
import HandS.Set
import HandS.SetFor
import HandS.Strs
import HandS.Zip
import HandS.SetBool
import HandS.Comp
import HandS.OwnEq
import HandS.Property
import HandS.Rev
import HandS.DictComp
import HandS.Walk
import KE.KDictCopyH
import KE.KDictZip
import HandS.ListItems
import HandS.Style
import HandS.TupAny
import PyProof.NeKinds
import HandS.Star
import HandS.Base
import PyProof.SumWalkG
import PyProof.ListOps
import PyProof.Walks
import KE.DataMinMax
import HandS.List
import HandS.Words
import HandS.More
import HandS.Sort
import KE.KDictSum
import KE.KDictList
import HandS.SortInts
import PySem.Challenge.RW_elderlink_k20_whole_parents_and_forests
set_option Elab.async false
set_option linter.all false
set_option maxRecDepth 100000
set_option maxHeartbeats 4000000
namespace PySem
namespace EldX
open PySem.W PySem.Calls PyProof.Rows PySem.HandSPX
open Builtin Builtin.ObjectAttr
section
variable {prog : Program} {w : World} {A : Around} {E : Value → Shared → Prop} {R : Result → Shared → Prop} {h : Heap} {g : Array GenState} {d : Drawn} {t : Nat} {os : OsState}
variable {nm q : Str} {C N : Addr} {bs bm bmB : List Value} {hdct : Bool} {sn : List Str} {sub : List Value} {ab : Bool} {col : Option Bool} {dd : Option Addr} {k0 k1 k2 k3 k5 : Option Value} {B newId initId : String}
/-- a keyword beside the class is let through by the maker's look -/
theorem chk_kw {M : Model} (F : ExcBaseFacts B newId initId bmB) (hT : ∀ X : String, bm.contains (.type X) = bmB.contains (.type X)) {x : Str} {v : Value} {Q : Unit → Shared → Prop}
    (hC : h.get? C = some (excClassObj nm q C N bs bm hdct sn sub ab col dd k0 k1 k2 k3 k5 newId)) (hq : Q () ⟨h, g, d, t, os⟩) :
    wpAny M A (checkBuiltinCall newId ⟨[.ref C], [(x, v)]⟩) Q E ⟨h, g, d, t, os⟩ := by
  have hB : (Value.ref C :: bm).contains (.type B) = true := by
    rw [List.contains_cons, hT, F.hasB, Bool.or_true]
  have hs := F.noStar
  simp only [checkBuiltinCall, F.newKind, F.newSplit, F.newRow]
  repeat (first
    | refine wpAny_loadPart_at hC ?_
    | (refine wpAny_isSubtype_exc hC ?_; rw [hB])
    | refine wpAny_staticBase_exc hC ?_
    | refine wpAny_madeBy_exc hC ?_
    | simp only [bne_self_eq_false, Bool.false_eq_true, if_false]
    | wp_step)
  exact hq
/-- the maker's own run with one keyword: it sees the class alone -/
theorem new_kw (F : ExcBaseFacts B newId initId bmB) (hT : ∀ X : String, bm.contains (.type X) = bmB.contains (.type X)) {x : Str} {v : Value}
    (hC : h.get? C = some (excClassObj nm q C N bs bm hdct sn sub ab col dd k0 k1 k2 k3 k5 newId))
    (hq : R (.ok (.ret (.ref (h.objs.size + 1)))) ⟨(h.push (W.kdv_tup [])).push (excO C h.objs.size), g, d, t, os⟩) :
    codeAny (model prog w) A (.builtin newId ⟨[.ref C], [(x, v)]⟩) R ⟨h, g, d, t, os⟩ := by
  have he := F.ends
  have cB : (Value.ref C :: bm).contains (.type B) = true := by
    rw [List.contains_cons, hT, F.hasB, Bool.or_true]
  have cA : (Value.ref C :: bm).contains (.type "AttributeError") = false := by
    rw [List.contains_cons, hT, F.noAttr]
    rfl
  have cN : (Value.ref C :: bm).contains (.type "NameError") = false := by
    rw [List.contains_cons, hT, F.noName]
    rfl
  refine codeAny_builtinAt F.entry ?_
  unfold Builtin.«BaseException.__new__»
  refine wpAt_bind ?_
  show wpAt _ _ _ (stack >>= _) _ _ _
  refine wpAt_bind (wpAt_stack fun _ _ => wpAt_of_wpAny ?_)
  wp_walk
  refine wpAt_of_wpAny ?_
  rw [F.owner]
  repeat (first
    | with_reducible refine wpAny_madeHere_exc F.canon hC ?_
    | with_reducible refine wpAny_loadPart_at hC ?_
    | (with_reducible refine wpAny_isSubtype_exc hC ?_; first | rw [cB] | rw [cA] | rw [cN])
    | wp_step)
  show R _ _
  rw [Heap.size_push]
  exact hq
theorem type_call_kw (F : ExcBaseFacts B newId initId bmB) (hT : ∀ X : String, bm.contains (.type X) = bmB.contains (.type X)) {x : Str} {v : Value} {fI : Addr} {Q : Fin → Shared → Prop}
    (hC : h.get? C = some (excClassObj nm q C N bs bm hdct sn sub ab col dd k0 k1 k2 k3 k5 newId))
    (hi : W.Looks (model prog w) h (typeLookup (.ref C) "__init__") (some (.ref fI))) (hb : ∀ self, W.Looks (model prog w) h (bindSpecial (.ref fI) self) (.ref fI, [self]))
    (hq : codeAny (model prog w) A (.call (.ref fI) ⟨[.ref (h.objs.size + 1)], [(x, v)]⟩)
      (fun r s' => match r with | .ok (.ret u) => u = .none ∧ Q (.done (.ret (.ref (h.objs.size + 1)))) s' | .ok _ => False | .error e => E e s')
      ⟨(h.push (W.kdv_tup [])).push (excO C h.objs.size), g, d, t, os⟩) :
    wpAny (model prog w) A (Builtin.«type.__call__» ⟨[.ref C], [(x, v)]⟩) Q E ⟨h, g, d, t, os⟩ := by
  repeat (first
    | with_reducible refine wpAny_loadPart_at hC ?_
    | with_reducible refine wpAny_madeBy_exc hC ?_
    | wp_step)
  refine codeAny_call_builtin_code (Code.quiet_builtin _ F.quiet) (chk_kw F hT hC ?_)
  refine new_kw F hT hC ?_
  show wpAny _ _ _ _ _ _
  have keep : ∀ b o, h.get? b = some o → ((h.push (W.kdv_tup [])).push (excO C h.objs.size)).get? b = some o := fun b o e =>
    Heap.get?_push_of_some _ (Heap.get?_push_of_some _ e)
  have hC' := keep _ _ hC
  have new : ((h.push (W.kdv_tup [])).push (excO C h.objs.size)).get? (h.objs.size + 1) = some (excO C h.objs.size) := by heap_get
  have self : (Value.ref C :: bm).contains (.ref C) = true := by simp
  have i' := hi.keeps keep
  have b' := (hb (.ref (h.objs.size + 1))).keeps keep
  unfold isInstance
  repeat (first
    | with_reducible refine wpAny_loadPart_at new ?_
    | (with_reducible refine wpAny_isSubtype_exc hC' ?_; rw [self])
    | wp_step)
  show wpAny _ _ (typeLookup (.ref C) _) _ _ _
  refine i'.at ?_
  refine wpAny_holding (wpAny_bind (b'.at ?_))
  refine wpAny_bind (wpAny_call (codeAny_mono hq fun r s' z => ?_))
  rcases r with e | (u | _ | _ | _) <;> first | exact z | exact z.elim | skip
  obtain ⟨rfl, z⟩ := z
  first
    | exact wpAny_pure (wpAny_pure z)
    | (wp_walk; exact z)
/-- C(x = v) for an own exception class with its own __init__ -/
theorem call_kw (F : ExcBaseFacts B newId initId bmB) (hT : ∀ X : String, bm.contains (.type X) = bmB.contains (.type X)) {x : Str} {v : Value} {fI : Addr}
    (hC : h.get? C = some (excClassObj nm q C N bs bm hdct sn sub ab col dd k0 k1 k2 k3 k5 newId))
    (hi : W.Looks (model prog w) h (typeLookup (.ref C) "__init__") (some (.ref fI))) (hb : ∀ self, W.Looks (model prog w) h (bindSpecial (.ref fI) self) (.ref fI, [self]))
    (hq : codeAny (model prog w) (A.under (.builtin "type.__call__" ⟨[.ref C], [(x, v)]⟩)) (.call (.ref fI) ⟨[.ref (h.objs.size + 1)], [(x, v)]⟩) (W.InitBack (h.objs.size + 1) R)
      ⟨(h.push (W.kdv_tup [])).push (excO C h.objs.size), g, d, t, os⟩) :
    codeAny (model prog w) A (.call (.ref C) ⟨[], [(x, v)]⟩) R ⟨h, g, d, t, os⟩ := by
  have f1 := tc_lookup
  have f2 := tc_bind (.ref C)
  have ty : (⟨h, g, d, t, os⟩ : Shared).TypeIs (.ref C) "type" := ⟨_, hC, rfl⟩
  refine codeAny_of_tree ?_
  show wpAny _ _ (callAny (.ref C) _) _ _ _
  repeat (any_goals (first
    | assumption
    | with_reducible refine wpAny_loadPart_at hC ?_
    | wp_step))
  refine ⟨rfl, ?_⟩
  refine codeAny_call_builtin_at (Code.quiet_builtin _ (by decide +kernel)) entry_typeCall (wpAny_check_type_call_sub hC (type_call_kw F hT hC hi hb ?_))
  refine codeAny_mono hq fun r s' z => ?_
  rcases r with e | (u | _ | _ | _) <;> exact z
end
end EldX
end PySem

set_option Elab.async false
set_option linter.all false
set_option maxRecDepth 100000
set_option maxHeartbeats 4000000
namespace PySem
namespace EldX
open PySem.W PySem.Calls PyProof.Rows PySem.HandSPX
/-! ### the text of an error's __init__(self, value=None): self.value = value -/
def eA (p1 p2 p3 : Pos) (k : Nat) : Arguments :=
  { posonlyargs := [], args := [{ arg := "self", annotation := none, pos := p1 }, { arg := "value", annotation := none, pos := p2 }],
    vararg := none, kwonlyargs := [], kw_defaults := [], kwarg := none, defaults := [.Constant .none k p3] }
def eB (q1 q2 q3 q4 : Pos) : List Stmt :=
  [.Assign [.Attribute (.Name "self" q1) "value" q2] (.Name "value" q3) q4]
def eS : Scope :=
  { kind := .function, names := [(PySem.Str.ofString "self", .local), (PySem.Str.ofString "value", .local)],
    isGenerator := false, isCoroutine := false, more := [] }
/-- what the written part says of an error's class at C -/
structure ErrC (K : Frag) (C : Addr) : Prop where
  cls : ∃ nm q N bs bm sn sub ab col dd k0 k1 k2 k3 k5,
    K.lookup C = some (excClassObj nm q C N bs bm true sn sub ab col dd k0 k1 k2 k3 k5 "ValueError.__new__") ∧ refsVE bm = true
  sa : findIn K (.ref C) "__setattr__" = some (some (.builtin "object.__setattr__"))
  ga : findIn K (.ref C) "__getattribute__" = some (some (.builtin "BaseException.__getattribute__"))
  gg : findIn K (.ref C) "__getattr__" = some none
  ex : subIn K (.ref C) (.type "BaseException") = some true
  ha : findIn K (.ref C) "__class__" = some (some (.builtin "object.__class__"))
  ob : mroIn K C (.type "object") = some true
  hd : hasDictIn K C = true
  kp : keepIn K (.ref C) = true
/-- .. and of its own __init__ -/
structure ErrI (K : Frag) (C : Addr) : Prop where
  no : findIn K (.ref C) "value" = some none
  fn : ∃ (f : Addr) (q : Str) (oc : Value) (od : Option Addr) (T : Addr) (oT : Obj) (n : Nat) (kV doc pm : Value) (an : Option Addr) (cdv ct : Value) (osl : Array (Option Value)) (p1 p2 p3 q1 q2 q3 q4 : Pos) (kk : Nat),
    findIn K (.ref C) "__init__" = some (some (.ref f)) ∧ typeIn K (.ref f) = some (.type "function") ∧
    K.lookup f = some ⟨oc, od, .func (fnOf "__init__" q (eA p1 p2 p3 kk) (eB q1 q2 q3 q4) eS (.ref T) kV doc pm an cdv ct), osl⟩ ∧
    codeIn K cdv q = true ∧ K.lookup T = some oT ∧ oT.data = .seq #[.none] n
/-- how the two parameters may be bound: by place, by name, not at all -/
inductive Given (v : Value) : List Value → List (Str × Value) → Prop where
  | place : Given v [v] []
  | name : Given v [] [("value", v)]
  | none (h : v = .none) : Given v [] []
section
variable {s : Shared} {K : Frag} {T : Addr} {oT : Obj} {n : Nat} {q : Str} {kV doc pm cdv ct self v : Value} {an : Option Addr} {p1 p2 p3 q1 q2 q3 q4 : Pos} {kk : Nat}
theorem binds_given (X : K.In s.heap) (lT : K.lookup T = some oT) (eT : oT.data = .seq #[.none] n) {us : List Value} {kw : List (Str × Value)} (g : Given v us kw) :
    BindsTo s (fnOf "__init__" q (eA p1 p2 p3 kk) (eB q1 q2 q3 q4) eS (.ref T) kV doc pm an cdv ct) ⟨self :: us, kw⟩ [("self", self), ("value", v)] := by
  refine L2.BindsTo.of_looks fun M => ?_
  cases g with
  | place =>
    have e : ∃ k, bindArgs (fnOf "__init__" q (eA p1 p2 p3 kk) (eB q1 q2 q3 q4) eS (.ref T) kV doc pm an cdv ct) ⟨[self, v], []⟩ = seqItems? (.ref T) >>= k ∧
        k (some #[.none]) = (pure [(("self" : Str), self), ("value", v)] : Sem (List (Str × Value))) := by
      refine ⟨_, rfl, ?_⟩
      first | rfl | with_unfolding_all rfl | kernel_rfl
    obtain ⟨k, e1, e2⟩ := e
    rw [e1]
    exact L2.looks_items X lT eT (.of_pure e2)
  | name =>
    have e : ∃ k, bindArgs (fnOf "__init__" q (eA p1 p2 p3 kk) (eB q1 q2 q3 q4) eS (.ref T) kV doc pm an cdv ct) ⟨[self], [("value", v)]⟩ = seqItems? (.ref T) >>= k ∧
        k (some #[.none]) = (pure [(("self" : Str), self), ("value", v)] : Sem (List (Str × Value))) := by
      refine ⟨_, rfl, ?_⟩
      first | rfl | with_unfolding_all rfl | kernel_rfl
    obtain ⟨k, e1, e2⟩ := e
    rw [e1]
    exact L2.looks_items X lT eT (.of_pure e2)
  | none h =>
    subst h
    have e : ∃ k, bindArgs (fnOf "__init__" q (eA p1 p2 p3 kk) (eB q1 q2 q3 q4) eS (.ref T) kV doc pm an cdv ct) ⟨[self], []⟩ = seqItems? (.ref T) >>= k ∧
        k (some #[.none]) = (pure [(("self" : Str), self), ("value", Value.none)] : Sem (List (Str × Value))) := by
      refine ⟨_, rfl, ?_⟩
      first | rfl | with_unfolding_all rfl | kernel_rfl
    obtain ⟨k, e1, e2⟩ := e
    rw [e1]
    exact L2.looks_items X lT eT (.of_pure e2)
end
/-- what is made: a new error at e, its dict at d -/
structure Made (h h' : Heap) (e C d : Addr) (v : Value) : Prop where
  keep : ∀ b o, h.get? b = some o → h'.get? b = some o
  new : h.get? e = none
  dnew : h.get? d = none
  ne : d ≠ e
  obj : ∃ t, h'.get? e = some { cls := .ref C, dict := some d, data := .fields #[.ref t, .none, .none, .none, .bool false, .none] }
  ns : h'.Ns1 d (fun y => if y = "value" then some v else none)
section
variable {prog : Program} {w : World} {A : Around} {E : Value → Shared → Prop} {R : Result → Shared → Prop} {s : Shared} {K : Frag} {C : Addr}
theorem load_local {M : Model} {s : Shared} {name : Str} {scope : Scope} {L a : Addr} {cd : Value} {m : Str → Option Value} {x : Str} {pos : Pos} {v : Value} {Q : Value → Shared → Prop} {A : Around} {E : Value → Shared → Prop}
    (hn : s.heap.Ns L m) (hv : m x = some v) (h : Q v s) (hk : scope.kind = .function := by rfl) (hl : (envOfC name scope L a cd).kindOf x = some .local := by rfl) (hd : (x == ("__debug__" : Str)) = false := by decide) :
    wpAny M A (eval (.Name x pos) (envOfC name scope L a cd)) Q E s :=
  wpAny_Name (wpAny_loadName_local hk hl hn hv h) hd
/-- __init__ runs on a fresh error at x -/
theorem init_run (T : ErrC K C) {f T0 : Addr} {oT : Obj} {n : Nat} {q : Str} {oc kV doc pm cdv ct : Value} {od an : Option Addr} {osl : Array (Option Value)} {p1 p2 p3 q1 q2 q3 q4 : Pos} {kk : Nat}
    (ho : K.lookup f = some ⟨oc, od, .func (fnOf "__init__" q (eA p1 p2 p3 kk) (eB q1 q2 q3 q4) eS (.ref T0) kV doc pm an cdv ct), osl⟩) (hcd : codeIn K cdv q = true) (lT : K.lookup T0 = some oT) (eT : oT.data = .seq #[.none] n)
    (hno : findIn K (.ref C) "value" = some none) {x t0 : Addr} {v : Value} {us : List Value} {kw : List (Str × Value)} (gv : Given v us kw) (X : K.In s.heap) (hlim : s.heap.NoLimit) (hx : s.heap.get? x = some (excO C t0)) (hroom : A.depth < recursionLimit)
    (hq : ∀ h' tk dx, (∀ b o, b ≠ x → s.heap.get? b = some o → h'.get? b = some o) → s.heap.objs.size ≤ dx → dx ≠ x →
      h'.get? x = some { cls := .ref C, dict := some dx, data := .fields #[.ref t0, .none, .none, .none, .bool false, .none] } → h'.Ns1 dx (fun y => if y = "value" then some v else none) → R (.ok (.ret .none)) { s with heap := h', toks := tk }) :
    codeAny (model prog w) A (.call (.ref f) ⟨.ref x :: us, kw⟩) R s := by
  obtain ⟨nm, qq, N, bs, bm, sn, sub, ab, col, dd, k0, k1, k2, k3, k5, hC, hbm⟩ := T.cls
  have hcl : clsIn K C = some { name := nm, bases := bs, mro := .ref C :: bm, ns := N, qualname := qq, hasDict := true, slotNames := sn, subclasses := sub, abstract := ab, collection := col, hasDel := false } := by
    unfold clsIn
    rw [hC] <;> rfl
  refine Att.call_fn (binds := [("self", .ref x), ("value", v)]) X hlim ho hcd hroom (binds_given X lT eT gv) (by first | rfl | decide | with_unfolding_all rfl) (fun s₁ IC => ?_) rfl rfl rfl
  obtain ⟨h₁, tk₁, rfl⟩ := IC.toInCall.same
  have keep : ∀ b o, s.heap.get? b = some o → h₁.get? b = some o := IC.toInCall.keep
  have hn := IC.toInCall.ns
  have hne : s.heap.objs.size ≠ x := Nat.ne_of_gt (Heap.lt_size hx)
  have X₁ : K.In h₁ := X.keeps keep
  have hx₁ := keep _ _ hx
  show wpAny _ _ (execs _ _) _ _ _
  refine wpAny_execs_cons (plainObj_wpAny_Assign_Attribute ?_)
  refine load_local (v := v) hn (by first | rfl | with_unfolding_all rfl | kernel_rfl) (load_local (v := .ref x) hn (by first | rfl | with_unfolding_all rfl | kernel_rfl) ?_)
  refine set_plain X₁ (ox := excO C t0) (od := none) ⟨hx₁, rfl, rfl, trivial⟩ T.sa ?_
  refine exc_osa X₁ hx₁ hcl (show refsVE (.ref C :: bm) = true from hbm) rfl hno (fun h₃ tk₃ dx k₃ dn dne hx₃ hn₃ => ?_)
  show wpAny _ _ (execs _ _) _ _ _
  have lt : s.heap.objs.size < h₁.objs.size := hn.lt
  exact wpAny_execs_nil (hq h₃ tk₃ dx (fun b o hb e => k₃ b o hb (keep b o e)) (Nat.le_of_lt (Nat.lt_of_lt_of_le lt dn)) dne hx₃ hn₃)
/-- an error's class is called -/
theorem made_run (T : ErrC K C) (TI : ErrI K C) {v : Value} {us : List Value} {kw : List (Str × Value)} (gv : Given v us kw) (X : K.In s.heap) (hlim : s.heap.NoLimit) (hroom : A.depth + 1 < recursionLimit)
    (hq : ∀ h' tk e d, Made s.heap h' e C d v → R (.ok (.ret (.ref e))) { s with heap := h', toks := tk }) :
    codeAny (model prog w) A (.call (.ref C) ⟨us, kw⟩) R s := by
  obtain ⟨nm, qq, N, bs, bm, sn, sub, ab, col, dd, k0, k1, k2, k3, k5, hC, hbm⟩ := T.cls
  obtain ⟨f, q, oc, od, T0, oT, n, kV, doc, pm, an, cdv, ct, osl, p1, p2, p3, q1, q2, q3, q4, kk, iC, tf, ho, hcd, lT, eT⟩ := TI.fn
  obtain ⟨hp, g, dr, tk, os⟩ := s
  have fin : ∀ (xs : List Value) (A' : Around), A'.depth < recursionLimit →
      codeAny (model prog w) A' (.call (.ref f) ⟨.ref (hp.objs.size + 1) :: us, kw⟩) (W.InitBack (hp.objs.size + 1) R) ⟨(hp.push (W.kdv_tup xs)).push (excO C hp.objs.size), g, dr, tk, os⟩ := by
    intro xs A' hA
    have keep : ∀ b o, hp.get? b = some o → ((hp.push (W.kdv_tup xs)).push (excO C hp.objs.size)).get? b = some o := fun b o e =>
      Heap.get?_push_of_some _ (Heap.get?_push_of_some _ e)
    have new : ((hp.push (W.kdv_tup xs)).push (excO C hp.objs.size)).get? (hp.objs.size + 1) = some (excO C hp.objs.size) := by heap_get
    refine init_run (s := ⟨(hp.push (W.kdv_tup xs)).push (excO C hp.objs.size), g, dr, tk, os⟩) T ho hcd lT eT TI.no gv (X.keeps keep) (hlim.keeps keep) new hA fun h' tk' dx k' dn dne hx hns => ?_
    have big : hp.objs.size + 1 + 1 ≤ dx := by
      have z := dn
      first
        | exact z
        | (rw [Heap.size_push, Heap.size_push] at z; exact z)
    have old : ∀ b o, hp.get? b = some o → h'.get? b = some o := fun b o e => k' b o (Nat.ne_of_lt (Nat.lt_succ_of_lt (Heap.lt_size e))) (keep b o e)
    have none_of : ∀ b, hp.objs.size ≤ b → hp.get? b = none := fun b hb => by
      cases e : hp.get? b with
      | none => rfl
      | some o => exact absurd (Heap.lt_size e) (Nat.not_lt.mpr hb)
    exact ⟨rfl, hq h' tk' (hp.objs.size + 1) dx ⟨old, none_of _ (Nat.le_succ _), none_of _ (by omega), dne, ⟨_, hx⟩, hns⟩⟩
  have hi := looks_findIn (M := model prog w) X iC
  have hb : ∀ self, W.Looks (model prog w) hp (bindSpecial (.ref f) self) (.ref f, [self]) := fun self => bind_fn X self tf
  cases gv with
  | place =>
    refine HandSPX.call_own F.excBase_ValueError (fun X => refsVE_contains X bm hbm) (X _ _ hC) hi hb (by rw [sizeLine_eq]; exact (by decide : 1 ≤ 16777216)) ?_
    exact fin [v] _ (by show A.depth + 1 < recursionLimit; exact hroom)
  | name =>
    refine call_kw F.excBase_ValueError (fun X => refsVE_contains X bm hbm) (X _ _ hC) hi hb ?_
    exact fin [] _ (by show A.depth + 1 < recursionLimit; exact hroom)
  | none h =>
    refine HandSPX.call_own F.excBase_ValueError (fun X => refsVE_contains X bm hbm) (X _ _ hC) hi hb (Nat.zero_le _) ?_
    exact fin [] _ (by show A.depth + 1 < recursionLimit; exact hroom)
end
end EldX
end PySem

set_option Elab.async false
set_option linter.all false
set_option maxRecDepth 100000
set_option maxHeartbeats 4000000
/-! ## errors as tracked values -/
namespace L2
namespace Eld
open PySem PySem.Spec PyProof.Rows PySem.EldX
section
variable {X : Cx} {pins : List (Addr × Obj)} {σ : St} {H : Hp} {s : Shared} {h' : Heap} {d e : Addr} {od oe : HO}
theorem un_two {fs ex : List Addr} {h : Heap} (k : ∀ b u, h.get? b = some u → h'.get? b = some u) (gd : h.get? d = none) (ge : h.get? e = none) (nd : H d = none) (ne : H e = none) :
    Un fs ex H (upd (upd H d od) e oe) h h' where
  keep := fun b u q _ _ _ => k b u q
  slot := fun b u q _ _ _ => ⟨u.slots, k b u q⟩
  free := fun b u q n _ => by
    rw [upd_ne (fun z => by rw [z, ge] at q; cases q), upd_ne (fun z => by rw [z, gd] at q; cases q)]
    exact n
  there := fun b u q _ => ⟨u, k b u q⟩
  tups := fun b xs q => by
    rw [upd_ne (ne_of_none q ne), upd_ne (ne_of_none q nd)]
    exact q
  frzs := fun b u xs q => by
    rw [upd_ne (ne_of_none q ne), upd_ne (ne_of_none q nd)]
    exact q
  tbls := fun b ps q => ⟨#[], by rw [upd_ne (ne_of_none q ne), upd_ne (ne_of_none q nd), q]; simp⟩
theorem inv_two {t' : Nat} (I : Inv X pins σ H s) (k : ∀ b u, s.heap.get? b = some u → h'.get? b = some u) (gd : s.heap.get? d = none) (ge : s.heap.get? e = none)
    (od_ok : ObjOk X.prog X.w (upd (upd H d od) e oe) h' d od) (oe_ok : ObjOk X.prog X.w (upd (upd H d od) e oe) h' e oe) :
    Inv X pins σ (upd (upd H d od) e oe) { s with heap := h', toks := t' } := by
  have nd := I.hok.gone gd
  have ne := I.hok.gone ge
  refine I.un (un_two k gd ge nd ne) fun b u q => ?_
  by_cases hb : b = e
  · subst hb
    rw [upd_same] at q
    cases q
    exact oe_ok
  · rw [upd_ne hb] at q
    by_cases hd : b = d
    · subst hd
      rw [upd_same] at q
      cases q
      exact od_ok
    · rw [upd_ne hd] at q
      exact (I.hok b u q).stay (fun c v _ z => k c v z) (fun c z => by rw [upd_ne (ne_of_none z ne), upd_ne (ne_of_none z nd)]; exact z)
        fun c xs z => by rw [upd_ne (ne_of_none z ne), upd_ne (ne_of_none z nd)]; exact z
end
/-- the field's dict -/
abbrev fld (v : V) : List (Str × V) := [(("value" : Str), v)]
/-- the heap with a new error of the class at C, its dict at d -/
def mkErr (H : Hp) (C e d : Addr) (v : V) : Hp := upd (upd H d (exd d (fld v))) e (exo e C (some d))
/-- what is asked of the making of C(v) -/
def rErr (C : Addr) (v : V) (H : Hp) (Q : VK) : Prop := ∀ e d : Addr, H e = none → H d = none → d ≠ e → Q (.ref e) (mkErr H C e d v)
section
variable {X : Cx} {pins : List (Addr × Obj)} {σ : St} {H : Hp} {s : Shared} {C : Addr}
theorem err_end {Q : VK} {e d : Addr} {h' : Heap} {tk : Nat} {v : V} {u : Value} (I : Inv X pins σ H s) (rv : RelV v u) (M : Made s.heap h' e C d u) (q : rErr C v H Q) :
    EP X pins σ Q (.ref e) { s with heap := h', toks := tk } := by
  obtain ⟨t, ho⟩ := M.obj
  have ne := I.hok.gone M.new
  have nd := I.hok.gone M.dnew
  exact ⟨.ref e, mkErr H C e d v, inv_two I M.keep M.dnew M.new (exd_ok M.ns (relO_put (fs := []) rv fun g => True.intro)) (exo_ok ho), rfl, q e d ne nd M.ne⟩
variable {x : Str} {a : Expr} {ta : TA} {p pos : Pos} {k : Nat}
/-- C(e) -/
theorem pe_err1 (T : ErrC X.K C) (TI : ErrI X.K C) (hr : Room k X.A) (hm : X.mg x = some (.ref C)) (ha : PA X [a] ta) (hg : Gl X x := by rfl)
    (hdb : (x == ("__debug__" : Str)) = false := by decide) (he : starEach (a :: []) X.env = (false, eval a X.env) :: starEach [] X.env := by rfl) (hpl : (backTo pos (starEach [] X.env)).any (·.1) = false := by rfl) :
    PE X (.Call (.Name x p) [a] [] pos) (fun σ H Q => ta σ H fun vs H1 => ∃ v, vs = [v] ∧ rErr C v H1 Q) := by
  refine ⟨fun pins s σ H Q I h => ?_⟩
  refine wpAny_Call_Name_kw (ld_glob I hg hm ?_ hdb)
  refine PySem.W.callWith_K (h₀ := X.base) I.ok.mod.kin T.kp (thn (ha.run pos pins s σ H _ I h) fun us s1 ⟨vs, H1, I1, r1, v, ev, q1⟩ => ⟨I1.kIn, ?_⟩) he hpl
  subst ev
  cases r1 with
  | cons rv rn =>
    cases rn
    show wpAny _ _ (call (.ref C) [_]) _ _ _
    exact wpAny_call (made_run T TI .place I1.kIn I1.nolimit (by have := hr.dp; omega) fun h' tk e d M => err_end I1 rv M q1)
/-- C() -/
theorem pe_err0 (T : ErrC X.K C) (TI : ErrI X.K C) (hr : Room k X.A) (hm : X.mg x = some (.ref C)) (hg : Gl X x := by rfl) (hdb : (x == ("__debug__" : Str)) = false := by decide) :
    PE X (.Call (.Name x p) [] [] pos) (fun σ H Q => rErr C .non H Q) := by
  refine ⟨fun pins s σ H Q I h => ?_⟩
  refine wpAny_Call_Name_kw (ld_glob I hg hm ?_ hdb)
  refine PySem.W.callWith_K0 I.kIn T.kp ?_
  show wpAny _ _ (call (.ref C) []) _ _ _
  exact wpAny_call (made_run T TI (.none rfl) I.kIn I.nolimit (by have := hr.dp; omega) fun h' tk e d M => err_end (v := .non) I rfl M h)
/-- C(value = e) -/
theorem pe_errK {kws : List Keyword} {tk : TA} (T : ErrC X.K C) (TI : ErrI X.K C) (hr : Room k X.A) (hm : X.mg x = some (.ref C)) (hkw : PK X kws tk) (hg : Gl X x := by rfl)
    (hall : (backToKw pos (keywordEach kws X.env)).all (·.1.isSome) = true := by rfl) (hks : (backToKw pos (keywordEach kws X.env)).filterMap (·.1) = [("value" : Str)] := by rfl)
    (hdb : (x == ("__debug__" : Str)) = false := by decide)
    (hpl : ((backTo pos (starEach [] X.env)).any (·.1) || (backToKw pos (keywordEach kws X.env)).any (·.1.isNone)) = false := by rfl) :
    PE X (.Call (.Name x p) [] kws pos) (fun σ H Q => tk σ H fun vs H1 => ∃ v, vs = [v] ∧ rErr C v H1 Q) := by
  refine ⟨fun pins s σ H Q I h => ?_⟩
  refine wpAny_Call_Name_kw (ld_glob I hg hm ?_ hdb)
  refine PySem.W.callWith_KW0 (h₀ := X.base) I.ok.mod.kin T.kp hall (thn (hkw.run pos pins s σ H _ I h) fun us s1 ⟨vs, H1, I1, r1, v, ev, q1⟩ => ⟨I1.kIn, ?_⟩) hpl
  subst ev
  rw [hks]
  cases r1 with
  | cons rv rn =>
    cases rn
    show wpAny _ _ (call (.ref C) [] [(("value" : Str), _)]) _ _ _
    exact wpAny_call (made_run T TI .name I1.kIn I1.nolimit (by have := hr.dp; omega) fun h' tk e d M => err_end I1 rv M q1)
/-- C() where C has no __init__ of its own -/
theorem pe_errN {bmB : List Value} {B newId initId : String} (F : ExcBaseFacts B newId initId bmB) (q : PySem.W.excIn X.K C bmB newId = true) (kp : PySem.W.keepIn X.K (.ref C) = true) (hm : X.mg x = some (.ref C)) (hg : Gl X x := by rfl)
    (hdb : (x == ("__debug__" : Str)) = false := by decide) :
    PE X (.Call (.Name x p) [] [] pos) (fun σ H Q => ∀ e : Addr, H e = none → Q (.ref e) (upd H e (exo e C none))) := by
  refine ⟨fun pins s σ H Q I h => ?_⟩
  refine wpAny_Call_Name_kw (ld_glob I hg hm ?_ hdb)
  refine PySem.W.callWith_K0 I.kIn kp ?_
  show wpAny _ _ (call (.ref C) []) _ _ _
  obtain ⟨bm, N, nm, qn, bs, hdct, sn, sub, ab, col, dd, k0, k1, k2, k3, k5, mN, hC, hN, hni, T⟩ := exc_obj I.kIn q
  refine wpAny_call_exc_subT F T hC hN hni (fun h' e M => ?_) (Nat.zero_le _)
  have ne := I.hok.gone M.new
  obtain ⟨t, ht, _, _⟩ := M.there
  exact ⟨.ref e, upd H e (exo e C none), I.laidN M.keeps M.new ne (exo_ok ht), rfl, h e ne⟩
/-- err.value -/
theorem pe_value {te : TE} {n : Str} (en : n = "value" := by rfl) (he : PE X a te) (hb : attributeBase a n X.env (eval a X.env) = eval a X.env := by rfl) :
    PE X (.Attribute a n pos) (fun σ H Q => te σ H fun x H1 => ∃ (e C d : Addr) (v : V), x = .ref e ∧ ErrC X.K C ∧ ErrI X.K C ∧ H1 e = some (exo e C (some d)) ∧ H1 d = some (exd d (fld v)) ∧ Q v H1) := by
  refine ⟨fun pins s σ H Q I h => ?_⟩
  refine attr_of hb (thn (he.run pins s σ H _ I h) fun u s1 ⟨x, H1, I1, rx, e, C, d, v, ex, T, TI, ee, ed, q⟩ => ?_)
  subst ex
  obtain rfl : u = Value.ref e := rx
  obtain ⟨t1, ho⟩ := exo_at I1.hok ee
  obtain ⟨mA, hns, hr⟩ := exd_at I1.hok ed
  obtain ⟨od, hod, hl⟩ := lookIn_ns hns
  obtain ⟨u, hu, ru⟩ := RelO.some_of (v := v) (o := mA n) (by
    have z := hr n
    rw [en] at z ⊢
    exact z)
  have J : PySem.W.InstAt s1.heap e { cls := .ref C, dict := some d, data := .fields #[.ref t1, .none, .none, .none, .bool false, .none] } C (some od) := ⟨ho, rfl, rfl, hod⟩
  refine HandSPX.exc_get I1.kIn J T.ga T.gg T.ex (PySem.W.findObj_own T.hd (by rw [en]; exact TI.no) rfl (by rw [hl, hu])) (handed_of ru) ⟨v, H1, I1.tok _, ru, q⟩
end
end Eld
end L2

set_option Elab.async false
set_option linter.all false
set_option maxRecDepth 100000
set_option maxHeartbeats 4000000
namespace PySem
namespace EldX
open PySem PySem.Spec PySem.W PySem.Calls PyProof.Rows
section
variable {prog : Program} {w : World} {A : Around} {E : Value → Shared → Prop} {s : Shared} {K : Frag} {x D : Addr} {ox : Obj} {od : Option Obj}
theorem find_data {C : Addr} {n : Str} {a g : Value} (hc : (clsIn K C).isSome = true) (ha : findIn K (.ref C) n = some (some a)) (hg : specialIn K a "__get__" = some (some g)) (ht : takesIn K a = some true) :
    findObj K C od n = some (.bind g a) := by
  obtain ⟨cd, e⟩ := Option.isSome_iff_exists.mp hc
  unfold findObj
  rw [e, Option.bind_some, ha]
  rw [Option.bind_some]
  simp [hg, ht]
/-- an error's __class__ -/
theorem err_class {Q : Option Value → Shared → Prop} (T : ErrC K D) (hn : specialIn K (.builtin "object.__class__") "__get__" = some (some (.builtin "getset_descriptor.__get__"))) (htk : takesIn K (.builtin "object.__class__") = some true)
    (X : K.In s.heap) (I : InstAt s.heap x ox D od) (h : Q (some (.ref D)) { s with toks := s.toks + 1 }) : wpAny (model prog w) A (getAttr? (.ref x) "__class__") Q E s := by
  have hf : findObj K D od "__class__" = some (.bind (.builtin "getset_descriptor.__get__") (.builtin "object.__class__")) := by
    refine find_data ?_ T.ha hn htk
    obtain ⟨cd, hc, _⟩ := any_some T.hd
    rw [hc] <;> rfl
  obtain ⟨hp, g, d, t, os⟩ := s
  have l0 := I.type (M := model prog w)
  have l1 := looks_findIn (M := model prog w) X T.ga
  have l2 := looks_findIn (M := model prog w) X T.gg
  have l3 := looks_find (M := model prog w) X I hf
  have sub : Looks (model prog w) hp (isInstance (.ref x) (.type "BaseException")) true := l0.andThen (looks_subIn X T.ex)
  have n0 : (false && onTheHeap (Value.builtin "BaseException.__getattribute__")) = false := rfl
  have n2 : (Value.builtin "BaseException.__getattribute__" == Value.builtin "object.__getattribute__") = false := by decide +kernel
  have n1 : (onTheHeap (Value.ref D) && Value.builtin "BaseException.__getattribute__" == Value.builtin "object.__getattribute__") = false := by
    rw [n2]
    rfl
  unfold getAttr? getAttrBy? getAttrBy
  refine wpAny_bind (wpAny_mkText (wpAny_bind (wpAny_attempt (wpAny_holding (wpAny_bind (l0.at (wpAny_bind (l1.at ?_))))))))
  show wpAny _ _ (if (onTheHeap (Value.ref D) && Value.builtin "BaseException.__getattribute__" == Value.builtin "object.__getattribute__") = true then _ else _) _ _ _
  rw [n1, if_neg Bool.false_ne_true]
  unfold getAttrByItsOwn hookBefore
  refine wpAny_bind ?_
  rw [if_pos (show onTheHeap (Value.ref D) = true from rfl)]
  refine l2.at ?_
  refine wpAny_bind (wpAny_attempt (wpAny_holding ?_))
  unfold callGetattribute
  rw [n0, if_neg Bool.false_ne_true]
  unfold boundAndCalled
  rw [PySem.F.excAttr_ValueError.ga.bind (.ref x)]
  refine wpAny_bind (wpAny_pure ?_)
  show wpAny _ _ (call (.builtin "BaseException.__getattribute__") [.ref x, .str "__class__" t]) _ _ _
  refine wpAny_call (codeAny_call_builtin PySem.F.excAttr_ValueError.ga.plain PySem.F.entry_bexc_ga ?_)
  refine @check_slot (model prog w) _ _ ⟨hp, g, d, t + 1, os⟩ "BaseException.__getattribute__" "BaseException" "__getattribute__" (.ref x) [.str "__class__" t] [] _
    (by decide +kernel) (by decide +kernel) sub (PySem.F.args_bexc_ga (.ref x) (.str "__class__" t)) ?_
  unfold Builtin.«object.__getattribute__»
  refine wpAny_bind (wpAny_of_eq (a := ((Value.ref x : Value), [Value.str "__class__" t]))
    (by first | rfl | (simp only [slotArgs]; rfl)) ?_)
  refine wpAny_bind (wpAny_pure (wpAny_bind (l0.at (wpAny_bind (l3.at ?_)))))
  show wpAny _ _ (holding [Value.builtin "object.__class__"] (call (.builtin "getset_descriptor.__get__") [.builtin "object.__class__", .ref x, .ref D]) >>= ret) _ _ _
  refine wpAny_bind (wpAny_holding (wpAny_call (class_get (s := ⟨hp, g, d, t + 1, os⟩) (ox := ox) (od := od) X I T.ob ?_)))
  refine wpAny_pure ?_
  show wpAny _ _ (handedOut (.ref D)) _ _ _
  rw [handedOut_of (v := .ref D) rfl]
  first
    | exact wpAny_pure (wpAny_pure h)
    | exact wpAny_pure h
    | exact wpAny_pure (wpAny_bind (wpAny_pure (wpAny_pure h)))
theorem err_kit (T : ErrC K D) (hn : specialIn K (.builtin "object.__class__") "__get__" = some (some (.builtin "getset_descriptor.__get__"))) (htk : takesIn K (.builtin "object.__class__") = some true) :
    KitX K (.ref x) (.ref D) (fun h => InstAt h x ox D od) where
  ty := fun _ _ _ I => I.type
  it := fun _ _ X _ => by
    obtain ⟨cd, hc, _⟩ := any_some T.hd
    unfold clsIn at hc
    split at hc
    · rename_i c' d' cd' sl' ho
      intro A' Q' E' s' k q
      unfold isType loadHead
      refine wpAny_bind (wpAny_loadPart (k _ _ (X _ _ ho)) ?_)
      exact wpAny_pure q
    · cases hc
  ne := fun h tp dd its n sl X htp => by
    obtain ⟨cd, hc, _⟩ := any_some T.hd
    refine Bool.eq_false_iff.mpr fun q => ?_
    have e : D = tp := Value.ref.inj (beq_iff_eq.mp q)
    subst e
    unfold clsIn at hc
    split at hc
    · rename_i c' d' cd' sl' ho
      cases (X _ _ ho).symm.trans htp
    · cases hc
  ca := fun X I k => err_class T hn htk X I k
end
end EldX
end PySem
namespace L2
namespace Eld
open PySem PySem.Spec PyProof.Rows PySem.EldX
/-- the two words of the library that isinstance asks -/
structure KitW (K : PySem.W.Frag) : Prop where
  hn : PySem.W.specialIn K (.builtin "object.__class__") "__get__" = some (some (.builtin "getset_descriptor.__get__"))
  ht : PySem.W.takesIn K (.builtin "object.__class__") = some true
/-- an error at e of the class at C stands in H -/
def IsErr (H : Hp) (C e : Addr) : Prop := H e = some (exo e C none) ∨ ∃ (d : Addr) (v : V), H e = some (exo e C (some d)) ∧ H d = some (exd d (fld v))
/-- isinstance(err, D) -/
def rIsErr (K : PySem.W.Frag) : List V → Hp → VK → Prop := fun xs H Q => ∃ (e C D : Addr) (b : Bool), xs = [.ref e, .ref D] ∧ ErrC K C ∧ KitW K ∧ IsErr H C e ∧ PySem.W.kitOne K (.ref C) (.ref D) = some b ∧ Q (.bl b) H
/-- isinstance(err, T), T a built-in class -/
def rIsErrT (K : PySem.W.Frag) : List V → Hp → VK → Prop := fun xs H Q => ∃ (e C : Addr) (n : String) (b : Bool), xs = [.ref e, .ty n] ∧ ErrC K C ∧ KitW K ∧ IsErr H C e ∧ PySem.W.kitOne K (.ref C) (.type n) = some b ∧ Q (.bl b) H
section
variable {X : Cx}
theorem isErr_at {pins : List (Addr × Obj)} {σ : St} {H : Hp} {s : Shared} {C e : Addr} (I : Inv X pins σ H s) (h : IsErr H C e) : ∃ ox od, PySem.W.InstAt s.heap e ox C od := by
  rcases h with h | ⟨d, v, h, hd⟩
  · obtain ⟨t, ho⟩ := exo_at I.hok h
    exact ⟨_, none, ho, rfl, rfl, trivial⟩
  · obtain ⟨t, ho⟩ := exo_at I.hok h
    obtain ⟨mA, hns, _⟩ := exd_at I.hok hd
    obtain ⟨od, hod, _⟩ := lookIn_ns hns
    exact ⟨_, some od, ho, rfl, rfl, hod⟩
theorem call_isErr : CallR X (.builtin "isinstance") (rIsErr X.K) := by
  intro pins s σ H xs us Q I r h
  obtain ⟨e, C, D, b, rfl, T, W, he, k, q⟩ := h
  obtain ⟨u1, u2, rfl, r1, r2⟩ := vals2 r
  cases (show u1 = Value.ref e from r1)
  cases (show u2 = Value.ref D from r2)
  obtain ⟨ox, od, J⟩ := isErr_at I he
  exact PySem.W.kia_one (err_kit T W.hn W.ht) I.kIn J k (fun z => nomatch z) fun tk => ⟨.bl b, H, I.tok tk, rfl, q⟩
theorem call_isErrT : CallR X (.builtin "isinstance") (rIsErrT X.K) := by
  intro pins s σ H xs us Q I r h
  obtain ⟨e, C, n, b, rfl, T, W, he, k, q⟩ := h
  obtain ⟨u1, u2, rfl, r1, r2⟩ := vals2 r
  cases (show u1 = Value.ref e from r1)
  cases (show u2 = Value.type n from r2)
  obtain ⟨ox, od, J⟩ := isErr_at I he
  exact PySem.W.kia_one (err_kit T W.hn W.ht) I.kIn J k (fun z => nomatch z) fun tk => ⟨.bl b, H, I.tok tk, rfl, q⟩
end
end Eld
end L2

set_option Elab.async false
set_option linter.all false
set_option maxRecDepth 100000
set_option maxHeartbeats 4000000
/-! ## repr of data -/
namespace L2
namespace Eld
open PySem PySem.Spec PyProof.Rows PySem.EldX
mutual
/-- the value v, in H, is the datum d (dicts by texts, too) -/
inductive Dq (K : PySem.W.Frag) (H : Hp) : V → PyData → Prop
  | non : Dq K H .non .none
  | bl (b : Bool) : Dq K H (.bl b) (.bool b)
  | int (i : Int) : Dq K H (.int i) (.int i)
  | str (x : Str) : Dq K H (.str x) (.str x)
  | lst {a : Addr} {xs : List V} {ds : List PyData} : SqL K H a xs → DqAll K H xs ds → Dq K H (.ref a) (.list ds)
  | tup {a : Addr} {xs : List V} {ds : List PyData} : SqT K H a xs → DqAll K H xs ds → Dq K H (.ref a) (.tuple ds)
  | dct {a : Addr} {kvs : List (Key × V)} {ds : List (PyData × PyData)} : H a = some (.dK kvs) → DqKv K H kvs ds → Dq K H (.ref a) (.dict ds)
inductive DqAll (K : PySem.W.Frag) (H : Hp) : List V → List PyData → Prop
  | nil : DqAll K H [] []
  | cons {v : V} {vs : List V} {d : PyData} {ds : List PyData} : Dq K H v d → DqAll K H vs ds → DqAll K H (v :: vs) (d :: ds)
inductive DqKv (K : PySem.W.Frag) (H : Hp) : List (Key × V) → List (PyData × PyData) → Prop
  | nil : DqKv K H [] []
  | cons {x : Str} {v : V} {kvs : List (Key × V)} {d : PyData} {ds : List (PyData × PyData)} : Dq K H v d → DqKv K H kvs ds → DqKv K H ((.inr x, v) :: kvs) ((.str x, d) :: ds)
end
/-- what is known of a value that is read and shown -/
def Shw (P : Program) (w : World) (h : Heap) (u : Value) (d : PyData) : Prop :=
  (∃ as, Reads h u d as) ∧ ∃ bs, ReadAtMost h d.depth bs ∧ ReprK P w bs h d.depth u d.shown
def ShwAll (P : Program) (w : World) (h : Heap) (us : List Value) (ds : List PyData) : Prop :=
  (∃ as, ReadsAll h us ds as) ∧ ∃ bs, ReadAtMost h (PyData.depthAll ds) bs ∧ ReprAllK P w bs h (PyData.depthAll ds) us (PyData.shownAll ds)
theorem ShwAll.nil {P : Program} {w : World} {h : Heap} : ShwAll P w h [] [] :=
  ⟨⟨_, .nil⟩, [], (fun _ z => nomatch z), by simp only [PyData.shownAll]; exact .nil⟩
theorem ShwAll.cons {P : Program} {w : World} {h : Heap} {u : Value} {us : List Value} {d : PyData} {ds : List PyData} (a : Shw P w h u d) (b : ShwAll P w h us ds) : ShwAll P w h (u :: us) (d :: ds) := by
  obtain ⟨⟨as, r⟩, b1, hb1, k1⟩ := a
  obtain ⟨⟨bs, q⟩, b2, hb2, k2⟩ := b
  refine ⟨⟨_, .cons r q⟩, b1 ++ b2, fun b hm => ?_, ?_⟩
  · simp only [PyData.depthAll]
    rcases List.mem_append.mp hm with z | z
    · obtain ⟨d', a', r', l⟩ := hb1 b z
      exact ⟨d', a', r', Nat.le_trans l (Nat.le_max_left _ _)⟩
    · obtain ⟨d', a', r', l⟩ := hb2 b z
      exact ⟨d', a', r', Nat.le_trans l (Nat.le_max_right _ _)⟩
  · simp only [PyData.depthAll, PyData.shownAll]
    exact .cons ((k1.more fun b hb => List.mem_append_left _ hb).level_le (Nat.le_max_left _ _)) (k2.more_le (fun b hb => List.mem_append_right _ hb) (Nat.le_max_right _ _))
/-- a dict's entries -/
def ShwKv (P : Program) (w : World) (h : Heap) (es : List DictEntry) (ds : List (PyData × PyData)) : Prop :=
  ShwAll P w h (es.map (·.key)) (ds.map (·.1)) ∧ ShwAll P w h (es.map (·.val)) (ds.map (·.2))
section
variable {X : Cx} {pins : List (Addr × Obj)} {σ : St} {H : Hp} {s : Shared}
theorem shw_str {P : Program} {w : World} {h : Heap} (x : Str) (t : Tok) (hz : (reprText x).length ≤ sizeLine) : Shw P w h (.str x t) (.str x) :=
  ⟨⟨_, .str x t⟩, [], (fun _ z => nomatch z), by simp only [PyData.shown]; exact .of_is (ReprIs.str x t hz) _ _ _⟩
mutual
theorem Dq.shw (I : Inv X pins σ H s) : ∀ (d : PyData) (v : V) (u : Value), Dq X.K H v d → RelV v u → d.showable = true → d.shown.length ≤ sizeLine → Shw X.prog X.w s.heap u d
  | .none, _, _, h, r, _, _ => by
    cases h
    cases r
    exact ⟨⟨_, .none⟩, [], (fun _ z => nomatch z), by simp only [PyData.shown]; exact .of_is ReprIs.none _ _ _⟩
  | .bool b, _, _, h, r, _, _ => by
    cases h
    cases r
    exact ⟨⟨_, .bool b⟩, [], (fun _ z => nomatch z), by simp only [PyData.shown]; exact .of_is (ReprIs.bool b) _ _ _⟩
  | .int i, _, _, h, r, hs, _ => by
    cases h
    obtain ⟨t, rfl⟩ := r
    exact ⟨⟨_, .int i t⟩, [], (fun _ z => nomatch z), by simp only [PyData.shown]; exact .of_is (ReprIs.int t (by simpa [PyData.showable] using hs)) _ _ _⟩
  | .str x, _, _, h, r, _, hz => by
    cases h
    obtain ⟨t, rfl⟩ := r
    exact shw_str x t (by simpa only [PyData.shown] using hz)
  | .list ds, _, _, h, r, hs, hz => by
    cases h with
    | @lst a xs _ hS hA =>
      obtain rfl : _ = Value.ref a := r
      obtain ⟨its, rv, ⟨o, n, ho, hc, _, hd⟩, _⟩ := I.list hS
      have hz' : (listText (PyData.shownAll ds)).length ≤ sizeLine := by simpa only [PyData.shown] using hz
      obtain ⟨⟨as, q⟩, bs, hb, hk⟩ := Dq.shwAll I ds xs its hA rv (by simpa [PyData.showable] using hs) (fun t ht => Nat.le_trans (listText_mem_le ht) hz')
      have rd : Reads s.heap (.ref a) (.list ds) (a :: as) := .list ho hc hd q
      have hna : a ∉ bs := not_mem_of_deeper rd (by simp only [PyData.depth]; omega) hb
      refine ⟨⟨_, rd⟩, a :: bs, ReadAtMost.cons rd (by simp only [PyData.depth]; omega) hb, ?_⟩
      simp only [PyData.depth, PyData.shown]
      cases its with
      | nil =>
        cases q
        simp only [PyData.shownAll, listText_nil]
        exact ReprK.listEmpty ho hc hd
      | cons y l => exact ReprK.list ho hc hd hna (by simpa using hk.length_eq) (fun i y e => hk.item i y (by simpa using e))
  | .tuple ds, _, _, h, r, hs, hz => by
    cases h with
    | @tup a xs _ hS hA =>
      obtain rfl : _ = Value.ref a := r
      obtain ⟨its, rv, ⟨o, ho, hc, n, hd⟩, _⟩ := I.tuple hS
      have hz' : (tupleText (PyData.shownAll ds)).length ≤ sizeLine := by simpa only [PyData.shown] using hz
      obtain ⟨⟨as, q⟩, bs, hb, hk⟩ := Dq.shwAll I ds xs its hA rv (by simpa [PyData.showable] using hs) (fun t ht => Nat.le_trans (tupleText_mem_le ht) hz')
      have rd : Reads s.heap (.ref a) (.tuple ds) as := .tuple ho hc hd q
      have hna : a ∉ bs := not_mem_of_deeper rd (by simp only [PyData.depth]; omega) hb
      refine ⟨⟨_, rd⟩, a :: bs, ReadAtMost.cons rd (by simp only [PyData.depth]; omega) hb, ?_⟩
      simp only [PyData.depth, PyData.shown]
      exact ReprK.tuple ho hc hd hna hk
  | .dict ds, _, _, h, r, hs, hz => by
    cases h with
    | @dct a kvs _ ha hA =>
      obtain rfl : _ = Value.ref a := r
      obtain ⟨_, hsys, vs, rv, o, es, ep, ho, hx, hd, _, hp, _⟩ := (show ObjOk X.prog X.w H s.heap a (.dK kvs) from I.hok a _ ha)
      have hz' : (dictText (PyData.shownKv ds)).length ≤ sizeLine := by simpa only [PyData.shown] using hz
      obtain ⟨s1, s2⟩ := PyData.showableKv_split ds (by simpa [PyData.showable] using hs)
      have hK : ∀ t ∈ PyData.shownAll (ds.map (·.1)), t.length ≤ sizeLine := fun t ht =>
        let ⟨p, hp, hl⟩ := PyData.shownKv_key_le ds t ht
        Nat.le_trans hl (Nat.le_trans (dictText_mem_le hp) hz')
      have hV : ∀ t ∈ PyData.shownAll (ds.map (·.2)), t.length ≤ sizeLine := fun t ht =>
        let ⟨p, hp, hl⟩ := PyData.shownKv_val_le ds t ht
        Nat.le_trans hl (Nat.le_trans (dictText_mem_le hp) hz')
      obtain ⟨⟨⟨as, q1⟩, b1, hb1, k1⟩, ⟨bs, q2⟩, b2, hb2, k2⟩ := Dq.shwKv I ds kvs vs es.toList hA rv hp s2 hK hV
      have rd : Reads s.heap (.ref a) (.dict ds) (a :: as ++ bs) := .dict ho hx.1 hd q1 q2
      have hb : ReadAtMost s.heap (PyData.depthKv ds) (b1 ++ b2) := (hb1.mono (PyData.depthAll_keys_le ds)).append (hb2.mono (PyData.depthAll_vals_le ds))
      have hna : a ∉ b1 ++ b2 := not_mem_of_deeper rd (by simp only [PyData.depth]; omega) hb
      refine ⟨⟨_, rd⟩, a :: (b1 ++ b2), ReadAtMost.cons rd (by simp only [PyData.depth]; omega) hb, ?_⟩
      simp only [PyData.depth, PyData.shown, PyData.shownKv_eq]
      exact ReprK.dict ho hx.1 hd hsys hna (ReprEntriesK.of_two es.toList _ _
        (k1.more_le (fun b hb => List.mem_append_left _ hb) (PyData.depthAll_keys_le ds))
        (k2.more_le (fun b hb => List.mem_append_right _ hb) (PyData.depthAll_vals_le ds)))
theorem Dq.shwAll (I : Inv X pins σ H s) : ∀ (ds : List PyData) (vs : List V) (us : List Value), DqAll X.K H vs ds → Vals vs us → PyData.showableAll ds = true → (∀ t ∈ PyData.shownAll ds, t.length ≤ sizeLine) → ShwAll X.prog X.w s.heap us ds
  | [], _, _, h, r, _, _ => by
    cases h
    cases r
    exact ShwAll.nil
  | d :: ds, _, _, h, r, hs, hz => by
    cases h with
    | cons h1 h2 =>
      cases r with
      | cons r1 r2 =>
        have hs' : d.showable = true ∧ PyData.showableAll ds = true := by simpa [PyData.showableAll] using hs
        have z1 : d.shown.length ≤ sizeLine := hz _ (by simp only [PyData.shownAll]; exact List.mem_cons_self ..)
        have z2 : ∀ t ∈ PyData.shownAll ds, t.length ≤ sizeLine := fun t ht => hz t (by simp only [PyData.shownAll]; exact List.mem_cons_of_mem _ ht)
        exact ShwAll.cons (Dq.shw I d _ _ h1 r1 hs'.1 z1) (Dq.shwAll I ds _ _ h2 r2 hs'.2 z2)
theorem Dq.shwKv (I : Inv X pins σ H s) : ∀ (ds : List (PyData × PyData)) (kvs : List (Key × V)) (ws : List (Key × Value)) (es : List DictEntry), DqKv X.K H kvs ds → KV kvs ws → Pairs (mixKind X.prog X.w) es ws →
    PyData.showableAll (ds.map (·.2)) = true → (∀ t ∈ PyData.shownAll (ds.map (·.1)), t.length ≤ sizeLine) → (∀ t ∈ PyData.shownAll (ds.map (·.2)), t.length ≤ sizeLine) → ShwKv X.prog X.w s.heap es ds
  | [], _, _, _, h, r, p, _, _, _ => by
    cases h
    cases r
    cases p
    exact ⟨ShwAll.nil, ShwAll.nil⟩
  | (k, d) :: ds, _, _, _, h, r, p, hs, hk, hv => by
    cases h with
    | @cons x v kvs _ _ h1 h2 =>
      cases r with
      | cons r1 r2 =>
        cases p with
        | cons p1 p2 p3 =>
          rename_i w ws e es
          obtain ⟨rk, rv⟩ := r1
          have hs' : d.showable = true ∧ PyData.showableAll (ds.map (·.2)) = true := by simpa [PyData.showableAll] using hs
          simp only [List.map_cons, PyData.shownAll] at hk hv
          have hk1 : (PyData.shown (.str x)).length ≤ sizeLine := hk _ (List.mem_cons_self ..)
          have hv1 : d.shown.length ≤ sizeLine := hv _ (List.mem_cons_self ..)
          obtain ⟨a, b⟩ := Dq.shwKv I ds kvs ws es h2 r2 p3 hs'.2 (fun t ht => hk t (List.mem_cons_of_mem _ ht)) (fun t ht => hv t (List.mem_cons_of_mem _ ht))
          have ek : ∃ t, e.key = Value.str x t := by
            have z : keyIs w.1 e.key = true := p1
            rw [← rk] at z
            rcases keyIs_shape z with ⟨i, t, q, _⟩ | ⟨y, t, q, q'⟩
            · cases q
            · cases q
              exact ⟨t, q'⟩
          obtain ⟨t, ek⟩ := ek
          have rv' : RelV v e.val := by
            rw [p2]
            exact rv
          refine ⟨?_, ?_⟩
          · simp only [List.map_cons, ek]
            exact ShwAll.cons (shw_str x t (by simpa only [PyData.shown] using hk1)) a
          · simp only [List.map_cons]
            exact ShwAll.cons (Dq.shw I d _ _ h1 rv' hs'.1 hv1) b
end
end
end Eld
end L2

set_option Elab.async false
set_option linter.all false
set_option maxRecDepth 100000
set_option maxHeartbeats 4000000
namespace L2
namespace Eld
open PySem PySem.Spec PyProof.Rows PySem.EldX
/-! ## repr(x) as a rule: where nothing is being shown -/
/-- what is asked: data, whose text is laid -/
def rRepr (K : PySem.W.Frag) : List V → Hp → VK → Prop := fun xs H Q => ∃ (x : V) (d : PyData), xs = [x] ∧ Dq K H x d ∧ d.showable = true ∧ d.shown.length ≤ sizeLine ∧ d.depth ≤ 100 ∧ Q (.str d.shown) H
section
variable {X : Cx}
theorem call_repr {k : Nat} (hg : X.A.guards = some []) (hr : Room k X.A) : CallR X (.builtin "repr") (rRepr X.K) := by
  intro pins s σ H xs us Q I r h
  obtain ⟨x, d, rfl, hd, hs, hz, hp, q⟩ := h
  obtain ⟨u, rfl, rx⟩ := vals1 r
  have hu : X.A.units + 1 < cLine := hu_of hr
  have hu2 : X.A.in1.units + d.depth < cLine := by
    have z := hr.un
    show X.A.units + 1 + d.depth < cLine
    omega
  have fin : ∀ {h' : Heap} {t : Tok} {tk : Nat}, (∀ b o, s.heap.get? b = some o → h'.get? b = some o) → EP X pins σ Q (.str d.shown t) { s with heap := h', toks := tk } :=
    fun {h' t tk} kp => ⟨.str d.shown, H, I.kept (t' := tk) kp, ⟨t, rfl⟩, q⟩
  cases hd with
  | non =>
    cases (show u = Value.none from rx)
    have e : PyData.none.shown = ("None" : Str) := by simp only [PyData.shown]
    rw [e] at fin
    exact PySem.P.repr_of_none (fin fun _ _ z => z)
  | bl b =>
    cases (show u = Value.bool b from rx)
    have e : (PyData.bool b).shown = ((if b then "True" else "False" : Str)) := by simp only [PyData.shown]
    rw [e] at fin
    exact PySem.P.repr_of_bool (fin fun _ _ z => z)
  | int i =>
    obtain ⟨t, rfl⟩ := (show ∃ t, u = Value.int i t from rx)
    have e : (PyData.int i).shown = toString i := by simp only [PyData.shown]
    rw [e] at fin
    exact PySem.P.repr_of_int (by simpa [PyData.showable] using hs) (fin fun _ _ z => z)
  | str y =>
    obtain ⟨t, rfl⟩ := (show ∃ t, u = Value.str y t from rx)
    have e : (PyData.str y).shown = reprText y := by simp only [PyData.shown]
    rw [e] at fin hz
    exact PySem.P.repr_of_str (fin fun _ _ z => z) hz
  | @lst a ys ds hS hA =>
    cases (show u = Value.ref a from rx)
    obtain ⟨its, rv, ⟨o, n, ho, hc, _, hd⟩, _⟩ := I.list hS
    have hz' : (listText (PyData.shownAll ds)).length ≤ sizeLine := by simpa only [PyData.shown] using hz
    obtain ⟨⟨as, q1⟩, bs, hb, hk⟩ := Dq.shwAll I ds ys its hA rv (by simpa [PyData.showable] using hs) (fun t ht => Nat.le_trans (listText_mem_le ht) hz')
    have rd : Reads s.heap (.ref a) (.list ds) (a :: as) := .list ho hc hd q1
    have hna : a ∉ bs := not_mem_of_deeper rd (by simp only [PyData.depth]; omega) hb
    have e : (PyData.list ds).shown = listText (PyData.shownAll ds) := by simp only [PyData.shown]
    rw [e] at fin
    simp only [PyData.depth] at hu2
    refine call_repr_slot hu ⟨o, ho, hc⟩ F.slot_list_repr.toG ?_
    cases its with
    | nil =>
      cases q1
      simp only [PyData.shownAll, listText_nil] at fin
      exact call_list_repr_empty ⟨o, ho, hc⟩ ho hd ⟨_, _, rfl, fin fun _ _ z => z⟩
    | cons y l =>
      exact call_list_reprK ho hc hd hna (by simpa using hk.length_eq) (fun i y e => hk.item i y (by simpa using e)) hg (fun b _ => Clear.nil b) hu2 (fun _ _ z => z)
        (fun h' u tk kp => ⟨_, _, rfl, fin kp⟩) hz'
  | @tup a ys ds hS hA =>
    cases (show u = Value.ref a from rx)
    obtain ⟨its, rv, ⟨o, ho, hc, n, hd⟩, _⟩ := I.tuple hS
    have hz' : (tupleText (PyData.shownAll ds)).length ≤ sizeLine := by simpa only [PyData.shown] using hz
    obtain ⟨⟨as, q1⟩, bs, hb, hk⟩ := Dq.shwAll I ds ys its hA rv (by simpa [PyData.showable] using hs) (fun t ht => Nat.le_trans (tupleText_mem_le ht) hz')
    have rd : Reads s.heap (.ref a) (.tuple ds) as := .tuple ho hc hd q1
    have hna : a ∉ bs := not_mem_of_deeper rd (by simp only [PyData.depth]; omega) hb
    have e : (PyData.tuple ds).shown = tupleText (PyData.shownAll ds) := by simp only [PyData.shown]
    rw [e] at fin
    simp only [PyData.depth] at hu2
    refine call_repr_slot hu ⟨o, ho, hc⟩ F.slot_tuple_repr ?_
    exact call_tuple_reprK ho hc hd hna hk hg (fun b _ => Clear.nil b) hu2 (fun _ _ z => z) (fun h' u tk kp => ⟨_, _, rfl, fin kp⟩) hz'
  | @dct a kvs ds ha hA =>
    cases (show u = Value.ref a from rx)
    obtain ⟨_, hsys, vs, rv, o, es, ep, ho, hx, hd, _, hp', _⟩ := (show ObjOk X.prog X.w H s.heap a (.dK kvs) from I.hok a _ ha)
    have hz' : (dictText (PyData.shownKv ds)).length ≤ sizeLine := by simpa only [PyData.shown] using hz
    obtain ⟨s1, s2⟩ := PyData.showableKv_split ds (by simpa [PyData.showable] using hs)
    have hK : ∀ t ∈ PyData.shownAll (ds.map (·.1)), t.length ≤ sizeLine := fun t ht =>
      let ⟨p, hp, hl⟩ := PyData.shownKv_key_le ds t ht
      Nat.le_trans hl (Nat.le_trans (dictText_mem_le hp) hz')
    have hV : ∀ t ∈ PyData.shownAll (ds.map (·.2)), t.length ≤ sizeLine := fun t ht =>
      let ⟨p, hp, hl⟩ := PyData.shownKv_val_le ds t ht
      Nat.le_trans hl (Nat.le_trans (dictText_mem_le hp) hz')
    obtain ⟨⟨⟨as, q1⟩, b1, hb1, k1⟩, ⟨bs, q2⟩, b2, hb2, k2⟩ := Dq.shwKv I ds kvs vs es.toList hA rv hp' s2 hK hV
    have rd : Reads s.heap (.ref a) (.dict ds) (a :: as ++ bs) := .dict ho hx.1 hd q1 q2
    have hb : ReadAtMost s.heap (PyData.depthKv ds) (b1 ++ b2) := (hb1.mono (PyData.depthAll_keys_le ds)).append (hb2.mono (PyData.depthAll_vals_le ds))
    have hna : a ∉ b1 ++ b2 := not_mem_of_deeper rd (by simp only [PyData.depth]; omega) hb
    have e : (PyData.dict ds).shown = dictText (List.zipWith (fun k v : Str => k ++ ": " ++ v) (PyData.shownAll (ds.map (·.1))) (PyData.shownAll (ds.map (·.2)))) := by
      simp only [PyData.shown, PyData.shownKv_eq]
    rw [e] at fin
    simp only [PyData.depth] at hu2
    refine call_repr_slot hu ⟨o, ho, hx.1⟩ F.slot_dict_repr ?_
    exact call_dict_reprK ho hx.1 hd hsys hna (ReprEntriesK.of_two es.toList _ _
      (k1.more_le (fun b hb => List.mem_append_left _ hb) (PyData.depthAll_keys_le ds))
      (k2.more_le (fun b hb => List.mem_append_right _ hb) (PyData.depthAll_vals_le ds))) hg (fun b _ => Clear.nil b) hu2 (fun _ _ z => z)
      (fun h' u tk kp => ⟨_, _, rfl, fin kp⟩) (by rw [← PyData.shownKv_eq]; exact hz')
end
/-! ## promises of defs that are called where nothing is being shown -/
structure FnG (P : Program) (w : World) (K : PySem.W.Frag) (mg : Str → Option Value) (base : Heap) (CX : CXT) (k : Nat) (f : Addr) (fd : FuncData) (ps : List Str) (sp : Sp) : Prop where
  len : ∀ vs H Q E, sp vs H Q E → vs.length = ps.length
  run : ∀ (A : Around) (outer : List Env) (s : Shared) (H : Hp) (args : Args) (us : List Value) (vs : List V) (Q : VK) (E : XK), A.guards = some [] → Room k A →
    Env0 P w K mg base A outer s H → BindsTo s fd args (ps.zip us) → Vals vs us → sp vs H Q E → codeAny (model P w) A (.call (.ref f) args) (CR CX outer P w H s Q E) s
theorem FnG.of {P : Program} {w : World} {K : PySem.W.Frag} {mg : Str → Option Value} {base : Heap} {CX : CXT} {k : Nat} {f : Addr} {fd : FuncData} {ps : List Str} {sp : Sp} (F : FnOk P w K mg base CX k f fd ps sp) : FnG P w K mg base CX k f fd ps sp :=
  ⟨F.len, fun A outer s H args us vs Q E _ hr e b r h => F.run A outer s H args us vs Q E hr e b r h⟩
/-- a def by its body -/
theorem fnG_of {CX : CXT} {P : Program} {w : World} {K : PySem.W.Frag} {mg : Str → Option Value} {base : Heap} {k : Nat} {f : Addr} {name qual : Str} {params : Arguments} {body : List Stmt} {scope : Scope} {dV kV doc pm cdv ct oc : Value} {an od : Option Addr}
    {osl : Array (Option Value)} {N ps : List Str} {sp : Sp} (lk : K.lookup f = some ⟨oc, od, .func (PySem.W.fnOf name qual params body scope dV kV doc pm an cdv ct), osl⟩)
    (hcd : PySem.W.codeIn K cdv qual = true) (S : FnScope N ps scope) (len : ∀ vs H Q E, sp vs H Q E → vs.length = ps.length)
    (hbody : ∀ (A : Around) (outer : List Env) (s : Shared) (H : Hp) (vs : List V) (Q : VK) (E : XK), A.guards = some [] → Room k (A.deeper (envOfC qual scope s.heap.objs.size f cdv)) → sp vs H Q E →
      ∃ t, PSs (cxOf CX P w K mg base N qual scope f cdv A outer s H E) body t ∧ t { nx := fun _ H' => Q .non H', rt := Q } (start N vs) H) :
    FnG P w K mg base CX (k + 1) f (PySem.W.fnOf name qual params body scope dV kV doc pm an cdv ct) ps sp := by
  refine ⟨len, fun A outer s H args us vs Q E hG hr e0 hb r hsp => ?_⟩
  -- the promise «whatever is asked here»: of this one call, by the library's own rule
  let one : Sp := fun vs' H' Q' E' => vs' = vs ∧ H' = H ∧ Q' = Q ∧ E' = E ∧ sp vs H Q E
  have KX : K.In s.heap := e0.mod.kin.keeps fun b o e => (e0.bs b o e).1
  have lim : s.heap.NoLimit := e0.mod.nolimit.keeps fun b o e => (e0.bs b o e).1
  have hl := len _ _ _ _ hsp
  have hkind : ∀ y ∈ ps.zip us, scope.names.lookup y.1 = some .local ∨
      (scope.names.lookup y.1 = some .cell ∧ ((cellsFrom (s.heap.objs.size + 1) scope.names []).lookup y.1).isSome = true) := fun ⟨n, v⟩ hy => by
    rcases S.par n (List.of_mem_zip hy).1 with q | q
    · exact .inl q
    · exact .inr ⟨q, PySem.W.cellsFrom_some _ _ _ (.inl q)⟩
  refine codeAny_call_function hr.depth (KX _ _ lk) rfl S.co S.gen rfl (PySem.W.codeRec_of KX hcd)
    (hb _ _ _ _ ?_)
  refine wpAny_newFunctionEnv_cells S.kind hkind fun env he s1 x => ?_
  subst he
  refine ⟨lim.keeps x.toInCall.keep, codeAny_func ?_⟩
  obtain ⟨t, ht, hq⟩ := hbody A outer s H vs Q E hG (hr.deeper _) hsp
  have I := inv_start (CX := CX) (E := E) S hr.hd e0 hl r x
  refine wpAny_mono (ht.run [] s1 (start N vs) H _ I hq) (fun fl s' hs => ?_) fun e s' hs => hs
  cases fl with
  | ret u =>
    obtain ⟨v, σ', H', J, rv, q⟩ := hs
    exact ⟨v, H', J.os, J.bare, J.base, J.hok, rv, q⟩
  | next =>
    obtain ⟨σ', H', J, q⟩ := hs
    exact ⟨.non, H', J.os, J.bare, J.base, J.hok, rfl, q⟩
  | brk =>
    obtain ⟨_, _, _, q⟩ := hs
    exact q.elim
  | cont =>
    obtain ⟨_, _, _, q⟩ := hs
    exact q.elim
theorem FunG {P : Program} {w : World} {K : PySem.W.Frag} {mg : Str → Option Value} {base : Heap} {x qual : Str} {st : Stmt} {f : Addr} {fd : FuncData} {N ps : List Str} {k : Nat} {sp : Sp} (F : Fun K x qual st f fd) (S : FnScope N ps (defScope st))
    (len : ∀ vs H Q E, sp vs H Q E → vs.length = ps.length)
    (hbody : ∀ (cdv : Value) (A : Around) (outer : List Env) (s : Shared) (H : Hp) (vs : List V) (Q : VK) (E : XK), A.guards = some [] → Room k (A.deeper (envOfC qual (defScope st) s.heap.objs.size f cdv)) → sp vs H Q E →
      ∃ t, PSs (cxOf CX0 P w K mg base N qual (defScope st) f cdv A outer s H E).nox (defBody st) t ∧ t { nx := fun _ H' => Q .non H', rt := Q } (start N vs) H) : FnG P w K mg base CX0 (k + 1) f fd ps sp := by
  obtain ⟨oc, od, kV, doc, pm, an, cdv, ct, osl, rfl, lk, hcd⟩ := F.ex
  refine fnG_of lk hcd S len fun A outer s H vs Q E hG hr hsp => ?_
  obtain ⟨t, h, q⟩ := hbody cdv A outer s H vs Q E hG hr hsp
  exact ⟨t, h.nox, q⟩
section
variable {X : Cx} {CX : CXT} {k : Nat} {f : Addr} {fd : FuncData} {ps : List Str} {sp : Sp} {dvs : List V} {ds : List Value} {E : XK} {x : Str} {p pos : Pos} {e : Expr} {es : List Expr} {t : TA}
theorem run_fnG {pins : List (Addr × Obj)} {σ : St} {H : Hp} {s : Shared} {Q : VK} {us : List Value} {vs : List V} (F : FnG X.prog X.w X.K X.mg X.base CX k f fd ps sp) (hG : X.A.guards = some []) (hr : Room k X.A) (hb : Binds X.K fd ps ds) (hd : Vals dvs ds)
    (hx : Passes CX X E) (I : Inv X pins σ H s) (r : Vals vs us) (h : sp (vs ++ dvs) H Q E) : wpAny (model X.prog X.w) X.A (call (.ref f) us) (EP X pins σ Q) X.xe s := by
  have r2 : Vals (vs ++ dvs) (us ++ ds) := r.append hd
  have hl : (us ++ ds).length = ps.length := r2.length.symm.trans (F.len _ _ _ _ h)
  refine wpAny_call (codeAny_mono (F.run X.A X.stack s H ⟨us, []⟩ (us ++ ds) (vs ++ dvs) Q E hG hr I.env0 (hb s us I.kIn hl) r2 h) fun r s' hq => ?_)
  rcases r with e | fl
  · exact hx pins σ H s e s' I hq
  · cases fl <;> first | exact I.after hq | exact False.elim hq
theorem pe_callG (F : FnG X.prog X.w X.K X.mg X.base CX k f fd ps sp) (hG : X.A.guards = some []) (hr : Room k X.A) (hm : X.mg x = some (.ref f)) (hk : PySem.W.keepIn X.K (.ref f) = true) (hb : Binds X.K fd ps ds) (hd : Vals dvs ds) (hx : Passes CX X E)
    (ha : PA X (e :: es) t) (hg : Gl X x := by rfl) (hdb : (x == ("__debug__" : Str)) = false := by decide) (he : starEach (e :: es) X.env = (false, eval e X.env) :: starEach es X.env := by rfl) (hpl : (backTo pos (starEach es X.env)).any (·.1) = false := by rfl) :
    PE X (.Call (.Name x p) (e :: es) [] pos) (tCall sp dvs E t) := by
  refine ⟨fun pins s σ H Q I h => ?_⟩
  refine wpAny_Call_Name_kw (ld_glob I hg hm ?_ hdb)
  refine PySem.W.callWith_K (h₀ := X.base) I.ok.mod.kin hk (thn (ha.run pos pins s σ H _ I h) fun us s1 ⟨vs, H1, I1, r, q⟩ => ⟨I1.kIn, ?_⟩) he hpl
  exact run_fnG F hG hr hb hd hx I1 r q
end
/-! ## the law's own call -/
section
variable {P : Program} {w : World} {K : PySem.W.Frag} {mg mb : Str → Option Value} {CX : CXT} {k : Nat} {fa a : Addr} {fd : FuncData} {x : Str} {sp : Sp} {s₁ : Shared} {vs : List Value} {ns : List Int}
/-- from an abstract heap that tracks nothing but the script -/
theorem law_core (KX : K.In s₁.heap) (hns : s₁.heap.Ns mainGlobals mg) (hb : s₁.heap.Ns builtinsNs mb) (hbb : ∀ x : Str, x ≠ "__name__" → mb x = bootBuiltins x) (hlim : s₁.heap.NoLimit) (hg : s₁.gens = #[])
    (ha : s₁.heap.get? a = some { cls := .type "list", data := .seq vs.toArray }) (hr : Room k callerA)
    (F : ∀ base : Heap, K.In base → base.Ns mainGlobals mg → FnG P w K mg base CX k fa fd [x] sp) (hbind : ∀ (s : Shared) (u : Value), BindsTo s fd ⟨[u], []⟩ [(x, u)])
    (hCX : ∀ H e s', CX [] H s₁ (fun _ _ _ => False) e s' → False) (H : Hp) (hO : Only H) (hok : HOk P w H s₁.heap) (hA : ∀ b, H b ≠ none → b = a) (hK : H a ≠ none → K.lookup a = none)
    (hsp : sp [.ref a] H (fun v _ => v = .bl true) fun _ _ _ => False) :
    codeAny (model P w) callerA (.call (.ref fa) ⟨[.ref a], []⟩) (fun r s' => r = .ok (.ret (.bool true)) ∧ OldK s₁.heap s'.heap ∧ s'.os = s₁.os ∧ AllBare s'.gens) s₁ := by
  have there : ∀ {b : Addr} {o : Obj}, s₁.heap.get? b = some o → H b = none → (hidT s₁.heap H).get? b = some o := fun e n => hidT_get e n
  have free : ∀ {b : Addr} {o : Obj}, s₁.heap.get? b = some o → (b = a → False) → H b = none := fun {b o} e n => by
    cases q : H b with
    | none => rfl
    | some u => exact (n (hA b (by rw [q]; simp))).elim
  have ns_of : ∀ {b : Addr} {m : Str → Option Value}, s₁.heap.Ns b m → (hidT s₁.heap H).Ns b m := fun {b m} ⟨o, es, ep, e, d, r⟩ =>
    ⟨o, es, ep, there e (free e fun z => by
      subst z
      rw [ha] at e
      cases e
      cases (show Data.seq vs.toArray _ = Data.dict es ep from d)), d, r⟩
  have kin : K.In (hidT s₁.heap H) := fun b o e => there (KX b o e) (by
    cases q : H b with
    | none => rfl
    | some u =>
      obtain rfl := hA b (by rw [q]; simp)
      rw [hK (by rw [q]; simp)] at e
      cases e)
  have mod : Mod K mg (hidT s₁.heap H) :=
    ⟨kin, ns_of hns, ⟨mb, ns_of hb, hbb⟩, let ⟨mc, h1, h2⟩ := hlim; ⟨mc, ns_of h1, h2⟩⟩
  have env : Env0 P w K mg (hidT s₁.heap H) callerA [] s₁ H :=
    ⟨rfl, mod, fun b o e => of_hidT e, Nat.le_of_eq (hidT_size _ _), trivial, fun b hb => absurd (show b ∈ ([] : List Addr) from hb) (by simp), hok, .of_eq hg⟩
  refine codeAny_mono ((F _ kin (ns_of hns)).run callerA [] s₁ H ⟨[.ref a], []⟩ [.ref a] [.ref a] _ _ rfl hr env (hbind s₁ (.ref a)) (.cons rfl .nil) hsp) fun r s' h => ?_
  rcases r with e | fl
  · exact (hCX H e s' h).elim
  · cases fl with
    | next => exact False.elim h
    | brk => exact False.elim h
    | cont => exact False.elim h
    | ret u =>
      obtain ⟨v, H', os, bare, un, hok', r', q⟩ := h
      obtain rfl : v = .bl true := q
      obtain rfl : u = Value.bool true := r'
      refine ⟨rfl, OldK.of_keep fun b o e => ?_, os, bare⟩
      cases q : H b with
      | none => exact un.keep b o e q (by intro z; exact absurd (show b ∈ ([] : List Addr) from z) (by simp)) (by simp)
      | some u =>
        rcases hO b with z | ⟨ob, xs, z⟩
        · rw [q] at z
          cases z
        · obtain ⟨e1, _⟩ := hok b _ z
          obtain ⟨e2, _⟩ := hok' b _ (un.frzs b ob _ z)
          rw [e] at e1
          cases e1
          exact e2
theorem lawG_call (KX : K.In s₁.heap) (hns : s₁.heap.Ns mainGlobals mg) (hb : s₁.heap.Ns builtinsNs mb) (hbb : ∀ x : Str, x ≠ "__name__" → mb x = bootBuiltins x) (hlim : s₁.heap.NoLimit) (hg : s₁.gens = #[])
    (ha : s₁.heap.get? a = some { cls := .type "list", data := .seq vs.toArray }) (hi : IntsAre vs ns) (hl : ns.length ≤ sizeLine) (hr : Room k callerA)
    (F : ∀ base : Heap, K.In base → base.Ns mainGlobals mg → FnG P w K mg base CX k fa fd [x] sp) (hbind : ∀ (s : Shared) (u : Value), BindsTo s fd ⟨[u], []⟩ [(x, u)])
    (hsp : ∀ H : Hp, Only H → SqL K H a (ns.map V.int) → sp [.ref a] H (fun v _ => v = .bl true) fun _ _ _ => False) (hCX : ∀ H e s', CX [] H s₁ (fun _ _ _ => False) e s' → False) :
    codeAny (model P w) callerA (.call (.ref fa) ⟨[.ref a], []⟩) (fun r s' => r = .ok (.ret (.bool true)) ∧ OldK s₁.heap s'.heap ∧ s'.os = s₁.os ∧ AllBare s'.gens) s₁ := by
  have rv := vals_ints hi
  have len := hi.length
  cases hk : K.lookup a with
  | some o =>
    have e := KX a o hk
    rw [ha] at e
    cases e
    have hO : Only fun _ => none := fun _ => .inl rfl
    have hS : SqL K (fun _ => none) a (ns.map V.int) := .inr ⟨_, vs.toArray, _, hk, rfl, rfl, rfl, by rw [List.size_toArray, len]; exact hl, by simpa using rv⟩
    exact law_core KX hns hb hbb hlim hg ha hr F hbind hCX _ hO (fun b u z => by cases (show (none : Option HO) = some u from z)) (fun b z => absurd rfl z) (fun z => absurd rfl z) (hsp _ hO hS)
  | none =>
    let H : Hp := fun b => if b = a then some (.frz { cls := .type "list", data := .seq vs.toArray } (.lst (ns.map V.int))) else none
    have at_a : H a = some (.frz { cls := .type "list", data := .seq vs.toArray } (.lst (ns.map V.int))) := if_pos rfl
    have off : ∀ {b}, b ≠ a → H b = none := fun z => if_neg z
    have hO : Only H := fun b => by
      by_cases z : b = a
      · subst z
        exact .inr ⟨_, _, at_a⟩
      · exact .inl (off z)
    refine law_core KX hns hb hbb hlim hg ha hr F hbind hCX H hO (fun b u z => ?_) (fun b z => ?_) (fun _ => hk) (hsp H hO (.inl (.inr ⟨_, at_a⟩)))
    · by_cases hba : b = a
      · subst hba
        rw [at_a] at z
        cases z
        exact ⟨ha, by rw [List.length_map]; exact hl, vs, _, rv, ha⟩
      · rw [off hba] at z
        cases z
    · by_cases hba : b = a
      · exact hba
      · exact absurd (off hba) z
end
/-- the end of a law: k_head's goal from the promise of the law's def -/
theorem walkG {l : PySem.W.OpenLaw} {n k : Nat} {q : Program} {loose : List Str} {XP : (Str → Option Value) → Heap → Prop} {YP : World → Heap → Prop} {d : DefRec} {K : Params → PySem.W.Frag} {sp : World → Sp} {x : Str}
    (hn : l.most = some n) (hn2 : n ≤ sizeLine) (hdf : d.params.defaults = []) (hr : Room k callerA) (hY : ∀ (w : World) (h : Heap), YP w h → (K w.params).In h)
    (F : ∀ (w : World) (mg : Str → Option Value) (fa : Addr) (h : Heap), (K w.params).In h → h.Ns mainGlobals mg → mg d.name = some (.ref fa) →
      ∃ fd : FuncData, (∀ (s : Shared) (u : Value), BindsTo s fd ⟨[u], []⟩ [(x, u)]) ∧
        ∀ base : Heap, (K w.params).In base → base.Ns mainGlobals mg → FnG l.prog w (K w.params) mg base CX0 k fa fd [x] (sp w))
    (hsp : ∀ (w : World) (H : Hp) (a : Addr) (ns : List Int), ns.length ≤ n → Only H → SqL (K w.params) H a (ns.map V.int) → sp w [.ref a] H (fun v _ => v = .bl true) fun _ _ _ => False) :
    PySem.W.WalkO q loose XP YP l.row.toRowW d [] (fun f vs => PySem.call f vs) := by
  refine Att.attach_call hn hdf fun w s₀ s₁ mg mb fa o pm cd doc a vs ns G Y ho hd hcd hmg hobj hints hlen hg => ?_
  have KX := hY w _ Y
  obtain ⟨fd, hb, hF⟩ := F w mg fa _ KX G.T.g hmg
  exact lawG_call KX G.T.g G.T.b G.T.builtins G.T.nolimit hg hobj hints (Nat.le_trans hlen hn2) hr hF hb (fun H hO hS => hsp w H a ns hlen hO hS) fun _ _ _ h => h
end Eld
end L2

set_option Elab.async false
set_option linter.all false
set_option maxRecDepth 100000
set_option maxHeartbeats 4000000
/-! ## sets of texts: made of a list, counted, sorted -/
namespace L2
namespace Eld
open PySem PySem.Spec PyProof.Rows PySem.EldX
/-- the key of an entry -/
def keyS (e : Int × Value) : Str := match e.2 with
  | .str x _ => x
  | _ => ""
def GoodS (w : World) (e : Int × Value) : Prop := ∃ (x : Str) (t : Tok), e.2 = Value.str x t ∧ e.1 = hashStr w x
theorem strK_is {P : Program} {w : World} (x : Str) (t : Tok) : (PySem.strKind P w).is x (.str x t) = true := by
  show Value.isStrOf x (.str x t) = true
  simp [Value.isStrOf]
/-- at a: a set of texts, S its members, n their number -/
def SetS (w : World) (h : Heap) (a : Addr) (S : Str → Bool) (n : Nat) : Prop :=
  ∃ o es ep t, h.get? a = some o ∧ o.ExactSet ∧ o.data = .set es ep t ∧ (∀ e ∈ es.toList, GoodS w e) ∧ (es.toList.map keyS).Nodup ∧
    (∀ k, S k = true ↔ k ∈ es.toList.map keyS) ∧ es.size < scanBound ∧ t.fits es.size = true ∧ es.size = n ∧ Ris t.place.toList ∧
    (w.params.followText "set-order" = true ∨ t.led = true)
section
variable {P : Program} {w : World} {h h' : Heap} {a : Addr} {S : Str → Bool} {n : Nat}
theorem SetS.at (R : SetS w h a S n) (k : ∀ o, h.get? a = some o → h'.get? a = some o) : SetS w h' a S n := by
  obtain ⟨o, es, ep, t, ho, rest⟩ := R
  exact ⟨o, es, ep, t, k o ho, rest⟩
theorem SetS.congr {S' : Str → Bool} (R : SetS w h a S n) (e : ∀ k, S' k = S k) : SetS w h a S' n := by
  obtain rfl : S' = S := funext e
  exact R
theorem goodS_elems {l : List (Int × Value)} (g : ∀ e ∈ l, GoodS w e) : ElemsOf (PySem.strKind P w) l := fun e he => by
  obtain ⟨x, t, h1, h2⟩ := g e he
  refine ⟨⟨x, by rw [h1]; exact strK_is x t, h2⟩, ?_⟩
  rw [h1] <;> rfl
theorem goodS_is {e : Int × Value} (g : GoodS w e) (k : Str) : (PySem.strKind P w).is k e.2 = true ↔ keyS e = k := by
  obtain ⟨x, t, h1, _⟩ := g
  unfold keyS
  rw [h1]
  show Value.isStrOf k (.str x t) = true ↔ x = k
  simp [Value.isStrOf]
theorem goodS_mem {l : List (Int × Value)} (g : ∀ e ∈ l, GoodS w e) (k : Str) : k ∈ l.map keyS ↔ ∃ e ∈ l, (PySem.strKind P w).is k e.2 = true := by
  rw [List.mem_map]
  refine ⟨?_, ?_⟩
  · rintro ⟨e, he, q⟩
    exact ⟨e, he, (goodS_is (P := P) (g e he) k).2 q⟩
  · rintro ⟨e, he, q⟩
    exact ⟨e, he, (goodS_is (P := P) (g e he) k).1 q⟩
theorem SetS.setOf (R : SetS w h a S n) : h.SetOf (PySem.strKind P w) a S n := by
  obtain ⟨o, es, ep, t, ho, hx, hd, g, nd, hm, hb, hf, hn, _⟩ := R
  refine ⟨o, es, ep, t, ho, hx, hd, goodS_elems g, fun k => ?_, hb, hf, hn⟩
  exact (hm k).trans (goodS_mem g k)
end
section
variable {P : Program} {w : World} {A : Around} {E : Value → Shared → Prop} {s : Shared} {a : Addr} {S : Str → Bool} {n : Nat}
/-- the store behind an added member -/
theorem setS_tail {g : Bool → Sem Unit} (hg : ∀ (b : Bool) (s₁ : Shared) (Q' : Unit → Shared → Prop), Q' () s₁ → wpAny (model P w) A (g b) Q' E s₁) {o : Obj} {es : Array (Int × Value)} {ep : Nat} {t : SetTable}
    (ho : s.heap.get? a = some o) (hex : o.ExactSet) (hd : o.data = .set es ep t) {fs : Array (Int × Value)} {u : SetTable} {S' : Str → Bool} (gS : ∀ e ∈ fs.toList, GoodS w e) (nd : (fs.toList.map keyS).Nodup)
    (mS : ∀ k, S' k = true ↔ k ∈ fs.toList.map keyS) (hb : fs.size < scanBound) (hf : u.fits fs.size = true) (hr : Ris u.place.toList) (hl : w.params.followText "set-order" = true ∨ u.led = true) {dm : Bool}
    {R : Option Bool → Shared → Prop} (hR : ∀ h', Heap.SameBut a s.heap h' → SetS w h' a S' fs.size → R (some true) { s with heap := h' }) :
    wpAny (model P w) A (do
      storeSet a fs u
      if (!dm && u.tooFull) = true then do
          g (relayAll u fs (SetTable.grown fs.size)).2.2
          storeSet a (relayAll u fs (SetTable.grown fs.size)).1 (relayAll u fs (SetTable.grown fs.size)).2.1
          pure (some true)
        else pure (some true)) R E s := by
  refine wpAny_bind (wpAny_storeSet_of ho hd ?_ (fits_of_scanBound hb))
  have h1 := store_at (es' := fs) (t' := u) ho hd
  have sb := Heap.SameBut.update s.heap a (Obj.putSet fs u)
  split
  · have pm := relayAll_perm u fs (SetTable.grown fs.size)
    have f2 := relayAll_fits u fs (SetTable.grown fs.size)
    have r2 := relayAll_ris u fs (SetTable.grown fs.size)
    have l2 := relayAll_led u fs (SetTable.grown fs.size)
    generalize relayAll u fs (SetTable.grown fs.size) = Z at pm f2 r2 l2 ⊢
    obtain ⟨gs, v, gave⟩ := Z
    dsimp only at pm f2 r2 l2 ⊢
    have sz : gs.size = fs.size := by rw [← Array.length_toList, pm.length_eq, Array.length_toList]
    have b2 : gs.size < scanBound := by rw [sz]; exact hb
    refine wpAny_bind (hg _ _ _ ?_)
    refine wpAny_bind (wpAny_storeSet_of h1 rfl ?_ (fits_of_scanBound b2))
    have h2 := store_at (es' := gs) (t' := v) h1 rfl
    refine wpAny_pure (hR _ (sb.trans (Heap.SameBut.update _ a _)) ?_)
    refine ⟨_, gs, _, v, h2, hex, rfl, fun e he => gS e (pm.mem_iff.mp he), (pm.map keyS).nodup_iff.mpr nd, fun k => ?_, b2, f2, sz, r2, ?_⟩
    · exact (mS k).trans (pm.map keyS).mem_iff.symm
    · exact hl.imp id fun z => by rw [l2]; exact z
  · refine wpAny_pure (hR _ sb ?_)
    exact ⟨_, fs, _, u, h1, hex, rfl, gS, nd, mS, hb, hf, rfl, hr, hl⟩
theorem setS_hashed {x : Str} {tk : Tok} {Q : Bool → Shared → Prop} (R : SetS w s.heap a S n) (room : n + 1 < scanBound)
    (hQ : ∀ h', Heap.SameBut a s.heap h' → SetS w h' a (fun j => S j || decide (j = x)) (if S x = true then n else n + 1) → Q (!S x) { s with heap := h' }) :
    wpAny (model P w) A (setAddHashed a (.str x tk) ((PySem.strKind P w).hash x)) Q E s := by
  obtain ⟨o, es, ep, t, ho, hex, hd, g, nd, hm, hb, hf, hn, hr, hl⟩ := R
  have key : (PySem.strKind P w).is x (.str x tk) = true := strK_is x tk
  have sc : (Value.str x tk).scannable = true := rfl
  have el : ElemsOf (PySem.strKind P w) es.toList := goodS_elems g
  unfold setAddHashed setAddHashedIn
  refine wpAny_holding (wpAny_bind (wpAny_setState_of ho hd hf ?_))
  dsimp only
  rw [byScan_of sc hb el]
  simp only [↓reduceIte]
  unfold setAddByScan
  refine wpAny_bind ?_
  refine wpAny_bind (wpAny_rule ?_)
  refine wpAny_bind (wpAny_setScan_of key ho hd hf el ?_)
  cases hfi : List.findIdx? (fun e => (PySem.strKind P w).is x e.2) es.toList with
  | some j =>
    dsimp only
    obtain ⟨hj, pj, _⟩ := List.findIdx?_eq_some_iff_getElem.mp hfi
    have Sx : S x = true := (hm x).2 ((goodS_mem (P := P) g x).2 ⟨es.toList[j], List.getElem_mem hj, pj⟩)
    refine wpAny_pure (wpAny_pure ?_)
    have q := hQ s.heap (Heap.SameBut.refl a s.heap) ⟨o, es, ep, t, ho, hex, hd, g, nd, fun i => by
      rw [Bool.or_eq_true, decide_eq_true_eq, ← hm i]
      exact ⟨fun z => z.elim id (fun e => e ▸ Sx), .inl⟩, hb, hf, by rw [if_pos Sx]; exact hn, hr, hl⟩
    rw [Sx] at q
    exact q
  | none =>
    dsimp only
    have nx : x ∉ es.toList.map keyS := fun z => by
      obtain ⟨e, he, q⟩ := (goodS_mem (P := P) g x).1 z
      have y := List.findIdx?_eq_none_iff.mp hfi e he
      rw [q] at y
      cases y
    have Sx : S x = false := by
      cases q : S x with
      | false => rfl
      | true => exact absurd ((hm x).1 q) nx
    have gw : ∀ (b : Bool) {s₁ : Shared} {Q' : Unit → Shared → Prop}, Q' () s₁ → wpAny (model P w) A (match b with | true => rule "set.scan.the-table-gave-way" | false => pure ()) Q' E s₁ := fun b s₁ Q' q => by
      cases b <;> first | exact wpAny_pure q | exact wpAny_rule q
    have pm := layNew_perm t es ((PySem.strKind P w).hash x) (.str x tk)
    have f1 := layNew_fits t es ((PySem.strKind P w).hash x) (.str x tk)
    have r1 := layNew_ris t es ((PySem.strKind P w).hash x) (.str x tk) hr
    have l1 := layNew_led t es ((PySem.strKind P w).hash x) (.str x tk)
    generalize layNew t es ((PySem.strKind P w).hash x) (.str x tk) = Z at pm f1 r1 l1 ⊢
    obtain ⟨fs, u, dm, gave⟩ := Z
    dsimp only at pm f1 r1 l1 ⊢
    rw [Array.toList_push] at pm
    have pc : fs.toList.Perm (((PySem.strKind P w).hash x, Value.str x tk) :: es.toList) := pm.trans (List.perm_append_singleton _ _)
    have pk : (fs.toList.map keyS).Perm (x :: es.toList.map keyS) := pc.map keyS
    have gS : ∀ e ∈ fs.toList, GoodS w e := fun e he => by
      rcases List.mem_cons.mp (pc.mem_iff.mp he) with z | z
      · rw [z]
        exact ⟨x, tk, rfl, rfl⟩
      · exact g e z
    have nd1 : (fs.toList.map keyS).Nodup := pk.nodup_iff.mpr (List.nodup_cons.mpr ⟨nx, nd⟩)
    have m1 : ∀ i, (S i || decide (i = x)) = true ↔ i ∈ fs.toList.map keyS := fun i => by
      rw [Bool.or_eq_true, decide_eq_true_eq, hm i, pk.mem_iff, List.mem_cons]
      exact Or.comm
    have sz : fs.size = n + 1 := by rw [← Array.length_toList, pc.length_eq, List.length_cons, Array.length_toList, hn]
    have hb1 : fs.size < scanBound := by rw [sz]; exact room
    have led : w.params.followText "set-order" = true ∨ u.led = true := hl.imp id fun z => by rw [l1]; exact z
    have fin : ∀ h', Heap.SameBut a s.heap h' → SetS w h' a (fun j => S j || decide (j = x)) fs.size → Q true { s with heap := h' } := fun h' sb r => by
      have q := hQ h' sb
      rw [Sx] at q
      rw [sz] at r
      exact q r
    refine wpAny_bind (gw _ ?_)
    split
    · refine wpAny_bind ?_
      rw [hashByValue_scannable 8 sc]
      refine wpAny_pure ?_
      refine setS_tail ?_ ho hex hd gS nd1 m1 hb1 ?_ ?_ ?_ ?_
      · intro b s₁ Q' q
        cases b <;> first | exact wpAny_pure q | exact wpAny_rule q
      · first | (split <;> first | exact f1 | exact SetTable.fits_plain_off f1) | exact f1
      · first | (split <;> exact r1) | exact r1
      · first | (split <;> exact led) | exact led
      · intro h' sb r
        dsimp only
        exact wpAny_pure (fin h' sb r)
    · refine wpAny_bind (wpAny_pure ?_)
      simp only [↓reduceIte]
      refine setS_tail ?_ ho hex hd gS nd1 m1 hb1 f1 r1 led ?_
      · intro b s₁ Q' q
        cases b <;> first | exact wpAny_pure q | exact wpAny_rule q
      · intro h' sb r
        dsimp only
        exact wpAny_pure (fin h' sb r)
/-- a.add(x) -/
theorem setS_add {x : Str} {tk : Tok} {Q : Value → Shared → Prop} (R : SetS w s.heap a S n) (room : n + 1 < scanBound)
    (hQ : ∀ h', Heap.SameBut a s.heap h' → SetS w h' a (fun j => S j || decide (j = x)) (if S x = true then n else n + 1) → Q .none { s with heap := h', toks := s.toks + 1 }) :
    wpAny (model P w) A (call (.builtin "set.add") [.ref a, .str x tk]) Q E s := by
  have hS : s.heap.SetOf (PySem.strKind P w) a S n := R.setOf
  refine wpAny_call_entry F.slot_set_add hS.typeIs F.entry_set_add ?_ (F.args_set_add_2 _ _)
  unfold Builtin.«set.add» Builtin.Frozenset.oneOther
  simp only [List.isEmpty_nil, bind_assoc]
  unfold Builtin.Frozenset.addrOf setAdd
  refine wpAny_bind (wpAny_pure ?_)
  try dsimp only
  refine wpAny_bind (wpAny_pure ?_)
  try dsimp only
  refine wpAny_bind (wpAny_holding ?_)
  refine wpAny_bind ((PySem.strKind P w).pyHash (strK_is x tk) ?_)
  refine setS_hashed (s := { s with toks := s.toks + 1 }) R room fun h' sb r => ?_
  show wpAny _ _ (ret Value.none) _ _ _
  exact wpAny_pure ⟨_, rfl, hQ h' sb r⟩
/-- a new set, nothing in it -/
theorem setS_new_at {h : Heap} (ho : h.get? a = some { cls := .type "set", dict := none, data := .set #[] 0 (.fresh 0 0 (!w.params.followText "set-order")) }) : SetS w h a (fun _ => false) 0 := by
  refine ⟨_, #[], 0, _, ho, ⟨rfl, rfl, rfl⟩, rfl, (fun e he => by simp at he), (by simp), (fun k => by simp), (by decide), (by rfl), rfl, List.Pairwise.nil, ?_⟩
  show _ ∨ (!w.params.followText "set-order") = true
  cases w.params.followText "set-order"
  · exact .inr rfl
  · exact .inl rfl
/-- how many of the first i are unlike -/
theorem setS_update {I : Addr} {fp wr : List Addr} {G : Array GenState → Array GenState → Prop} {n : Nat} {Pv : Nat → Value → Prop} {St : Nat → Shared → Prop} {R : Result → Shared → Prop}
    (W : WalksS P w A.in1 I fp wr G n Pv St) (a : Addr) (ha : a ∉ fp) (xs : List Str) (hn : n = xs.length) (hb : xs.length + 1 < scanBound) (hval : ∀ i v, Pv i v → ∃ x t, xs[i]? = some x ∧ v = .str x t) :
    ∀ (k i : Nat) (s : Shared), n - i = k → i ≤ n → St i s → (∃ m, m ≤ i ∧ SetS w s.heap a (fun j => decide (j ∈ xs.take i)) m) →
      (∀ s' m, Moved (a :: wr) G s s' → SetS w s'.heap a (fun j => decide (j ∈ xs)) m → R (.ok (.ret .none)) s') →
      codeAny (model P w) A (.builtin "set.update.loop" ⟨[.ref a, .ref I], []⟩) R s := by
  have haw : a ∉ wr := fun h => ha (W.sub _ h)
  have sub : ∀ b ∈ wr, b ∈ a :: wr := fun b hb => List.mem_cons_of_mem _ hb
  intro k
  induction k with
  | zero =>
    intro i s hk hi hst ⟨m, hm, hS⟩ hR
    obtain rfl : i = n := by omega
    refine codeAny_builtin F.entry_set_update_loop ?_
    rw [Around.under_plainId F.plain_set_update_loop _]
    show wpAny _ A.in1 (pyNext (.ref I) >>= _) _ _ s
    refine wpAny_bind (W.done s _ _ hst fun s' mv => ?_)
    show wpAny _ A.in1 (ret Value.none) _ _ s'
    have e : xs.take i = xs := List.take_of_length_le (by omega)
    rw [e] at hS
    exact wpAny_pure (hR s' m (mv.mono sub) (hS.at fun o e => mv.heap a o haw e))
  | succ k ih =>
    intro i s hk hi hst ⟨m, hm, hS⟩ hR
    have lt : i < n := by omega
    refine codeAny_builtin F.entry_set_update_loop ?_
    rw [Around.under_plainId F.plain_set_update_loop _]
    show wpAny _ A.in1 (pyNext (.ref I) >>= _) _ _ s
    refine wpAny_bind (W.item i s _ _ lt hst fun v s' hP hst' mv => ?_)
    obtain ⟨x, t, hx, rfl⟩ := hval i v hP
    have hS' : SetS w s'.heap a (fun j => decide (j ∈ xs.take i)) m := hS.at fun o e => mv.heap a o haw e
    show wpAny _ A.in1 (holding [Value.str x t] (setAdd a (.str x t)) >>= _) _ _ s'
    refine wpAny_bind (wpAny_holding ?_)
    unfold setAdd
    refine wpAny_holding ?_
    refine wpAny_bind ((PySem.strKind P w).pyHash (k := x) (strK_is x t) ?_)
    refine setS_hashed (s := { s' with toks := s'.toks + 1 }) hS' (by omega) fun h' sb hS2 => ?_
    have hS3 : SetS w h' a (fun j => decide (j ∈ xs.take (i + 1))) (if decide (x ∈ xs.take i) = true then m else m + 1) := hS2.congr fun j => by
      rw [List.take_add_one, hx]
      simp [List.mem_append]
    have hm3 : (if decide (x ∈ xs.take i) = true then m else m + 1) ≤ i + 1 := by
      split <;> omega
    refine wpAny_pure ⟨plainId_quiet F.plain_set_update_loop _, ih (i + 1) _ (by omega) lt (W.frame _ s' _ _ hst' (Nat.le_succ _) fun b hb o e => ?_) ⟨_, hm3, hS3⟩ fun s'' m2 mv2 hS'' => ?_⟩
    · rw [sb.2 b (fun h : b = a => ha (by rw [← h]; exact hb))]
      exact e
    · refine hR s'' m2 (Moved.trans W.gtrans ((mv.mono sub).then_heap (Nat.le_succ _) fun b o hb e => ?_) mv2) hS''
      rw [sb.2 b (fun h : b = a => hb (by rw [h]; exact List.mem_cons_self))]
      exact e
end
end Eld
end L2

set_option Elab.async false
set_option linter.all false
set_option maxRecDepth 100000
set_option maxHeartbeats 4000000
namespace L2
namespace Eld
open PySem PySem.Spec PyProof.Rows PySem.EldX
/-- an empty set, just laid -/
abbrev set0 (w : World) : Obj := { cls := .type "set", dict := none, data := .set #[] 0 (.fresh 0 0 (!w.params.followText "set-order")) }
section
variable {P : Program} {w : World} {A : Around} {E : Value → Shared → Prop} {s : Shared}
/-- set(l), l a list of texts -/
theorem setS_call {l : Addr} {items : Array Value} (xs : List Str) {Q : Value → Shared → Prop} (hh : A.handled = none) (hl : s.heap.IsList l items) (hit : items.size = xs.length)
    (hval : ∀ (i : Nat) (v : Value), items[i]? = some v → ∃ x t, xs[i]? = some x ∧ v = .str x t) (hb : xs.length + 1 < scanBound)
    (h : ∀ (h' : Heap) (tk m : Nat), SetS w h' s.heap.objs.size (fun j => decide (j ∈ xs)) m → (∀ b o, s.heap.get? b = some o → h'.get? b = some o) → Q (.ref s.heap.objs.size) { s with heap := h', toks := tk }) :
    wpAny (model P w) A (call (.type "set") [.ref l]) Q E s := by
  obtain ⟨c, tl, hmro⟩ := F.called_set.mro
  have hmade := F.called_set.made
  have hsub := F.called_set.sub
  refine wpAny_call (codeAny_of_tree ?_)
  show wpAny _ _ (callAny (.type "set") _) _ _ _
  refine wpAny_pure ⟨Code.quiet_builtin _ (by decide +kernel), codeAny_builtin F.entry_type_call ?_⟩
  rw [Around.under_plain (weight_type_call_type "set" [.ref l] []) rfl]
  have h1 := F.called_set.notType
  have h2 := F.called_set.canCreate
  have hct := F.typeCall_set_1 (.ref l)
  repeat (any_goals (first | assumption | wp_step))
  refine codeAny_mono (code_set_led1 (.ref l) (E := E) (Q₁ := fun obj s₁ => obj = .ref s.heap.objs.size ∧ s₁ = { s with heap := s.heap.push (set0 w) }) ⟨rfl, rfl⟩) fun r s₁ hr => ?_
  cases r with
  | error e => exact hr
  | ok fl =>
    cases fl with
    | ret obj =>
      obtain ⟨rfl, rfl⟩ := hr
      have hS : (s.heap.push (set0 w)).get? s.heap.objs.size = some (set0 w) := Heap.get?_push_size _ rfl
      have hT : Shared.TypeIs { s with heap := s.heap.push (set0 w) } (.ref s.heap.objs.size) "set" := ⟨_, hS, rfl⟩
      have hli := F.called_set.init.lookup
      have hbi := F.called_set.init.bind (.ref s.heap.objs.size)
      repeat (any_goals (first | assumption | wp_step))
      refine codeAny_mono (codeAny_call_builtin (R := wants (fun r s₂ => r = .none ∧ ∃ h' tk m, s₂ = { s with heap := h', toks := tk } ∧ SetS w h' s.heap.objs.size (fun j => decide (j ∈ xs)) m ∧
          (∀ b o, s.heap.get? b = some o → h'.get? b = some o)) E) F.called_set.init.plain F.entry_set_init (check_set_init_1 hT ?_)) fun r₂ s₂ hr₂ => ?_
      · obtain ⟨ol, hol, hcl, nl, hdl⟩ := hl
        obtain ⟨ocls, odict, odata, oslots⟩ := ol
        simp only at hcl hdl
        subst hcl
        subst hdl
        have hol' : (s.heap.push (set0 w)).get? l = some { cls := .type "list", dict := odict, data := .seq items nl, slots := oslots } := Heap.get?_push_of_some _ hol
        have hsls := F.sub_list_set
        have hslf := F.sub_list_frozenset
        have hne : (Value.type "list" == Value.type "dict") = false := by decide
        have hl1 : (s.heap.push (set0 w)).IsList l items := ⟨_, hol', rfl, nl, rfl⟩
        unfold Builtin.«set.__init__» noKeywords Builtin.Frozenset.updateFrom
        generalize hPI : pyIter = PI
        wp_walk
        subst hPI
        refine wpAny_pyIter_list hl1 ?_
        refine wpAny_bind (wpAny_runValue ?_)
        have lS : l < s.heap.objs.size := Heap.lt_size hol
        have hh3 : A.in1.in1.in1.handled = none := by simp [hh]
        have z1 : (s.heap.push (set0 w)).objs.size = s.heap.objs.size + 1 := Heap.size_push ..
        have lI : l ≠ (s.heap.push (set0 w)).objs.size := by
          rw [Heap.size_push]
          exact Nat.ne_of_lt (Nat.lt_succ_of_lt lS)
        have aI : s.heap.objs.size ∉ [(s.heap.push (set0 w)).objs.size, l] := by
          rw [Heap.size_push]
          simp only [List.mem_cons, List.mem_singleton, List.not_mem_nil, or_false, not_or]
          exact ⟨Nat.ne_of_lt (Nat.lt_succ_self _), Nat.ne_of_gt lS⟩
        refine setS_update ((Walks.list hh3 _ l lI items).toS) s.heap.objs.size aI xs hit hb hval (items.size - 0) 0 _ (by omega) (Nat.zero_le _)
          ⟨⟨_, Heap.get?_push_size _ rfl, rfl, rfl⟩, (hl1.push _)⟩ ?hS0 ?hR
        case hS0 =>
          have hget : ((s.heap.push (set0 w)).push { cls := .type "list_iterator", data := .fields #[.ref l, .int 0 0] }).get? s.heap.objs.size = some (set0 w) := Heap.get?_push_of_some _ hS
          exact ⟨0, Nat.le_refl 0, (setS_new_at hget).congr fun j => by simp⟩
        case hR =>
          intro s' m mv hS'
          obtain ⟨h', g2, d', tk', os'⟩ := s'
          obtain rfl : g2 = s.gens := mv.gens
          obtain rfl : d' = s.drawn := mv.drawn
          obtain rfl : os' = s.os := mv.os
          show wpAny _ _ _ _ _ _
          refine wpAny_pure ?_
          show wpAny _ _ (ret Value.none) _ _ _
          refine wpAny_pure ⟨rfl, h', tk', m, rfl, hS', fun b o e => ?_⟩
          have b0 : b < s.heap.objs.size := Heap.lt_size e
          have b1 : b ≠ s.heap.objs.size := Nat.ne_of_lt b0
          have b2 : b ≠ (s.heap.push (set0 w)).objs.size := by
            rw [Heap.size_push]
            exact Nat.ne_of_lt (Nat.lt_succ_of_lt b0)
          refine mv.heap b o ?_ (Heap.get?_push_of_some _ (Heap.get?_push_of_some _ e))
          simp only [List.mem_cons, List.mem_singleton, List.not_mem_nil, or_false, not_or]
          exact ⟨b1, b2⟩
      · cases r₂ with
        | error e => exact hr₂
        | ok fl₂ =>
          cases fl₂ with
          | ret r =>
            obtain ⟨rfl, h', tk, m, rfl, hS', hk'⟩ := hr₂
            repeat (any_goals (first | assumption | wp_step))
            exact h _ _ _ hS' hk'
          | _ => exact hr₂.elim
    | _ => exact hr.elim
theorem strs_key {es : Array (Int × Value)} (g : ∀ e ∈ es.toList, GoodS w e) : ∀ v ∈ es.toList.map (·.2), ∃ x t, v = Value.str x t := fun v hv => by
  obtain ⟨e, he, rfl⟩ := List.mem_map.mp hv
  obtain ⟨x, t, h, _⟩ := g e he
  exact ⟨x, t, h⟩
end
/-! ### how many -/
theorem fewer_of_twice : ∀ l : List Str, ¬ l.Nodup → ∃ m : List Str, m.length < l.length ∧ ∀ y ∈ l, y ∈ m
  | [], h => absurd List.nodup_nil h
  | x :: l, h => by
    by_cases hx : x ∈ l
    · exact ⟨l, Nat.lt_succ_self _, fun y hy => (List.mem_cons.mp hy).elim (fun e => e ▸ hx) id⟩
    · have hn : ¬ l.Nodup := fun z => h (List.nodup_cons.mpr ⟨hx, z⟩)
      obtain ⟨m, h1, h2⟩ := fewer_of_twice l hn
      refine ⟨x :: m, Nat.succ_lt_succ h1, fun y hy => ?_⟩
      rcases List.mem_cons.mp hy with rfl | hy
      · exact List.mem_cons_self ..
      · exact List.mem_cons_of_mem _ (h2 y hy)
theorem nodup_le : ∀ (l m : List Str), l.Nodup → (∀ y ∈ l, y ∈ m) → l.length ≤ m.length
  | [], _, _, _ => Nat.zero_le _
  | x :: l, m, hn, hm => by
    obtain ⟨a, b, rfl⟩ := List.append_of_mem (hm x (List.mem_cons_self ..))
    obtain ⟨h1, h2⟩ := List.nodup_cons.mp hn
    have z := nodup_le l (a ++ b) h2 fun y hy => by
      have q := hm y (List.mem_cons_of_mem _ hy)
      rcases List.mem_append.mp q with q | q
      · exact List.mem_append_left _ q
      · rcases List.mem_cons.mp q with rfl | q
        · exact absurd hy h1
        · exact List.mem_append_right _ q
    rw [List.length_append] at z ⊢
    rw [List.length_cons, List.length_cons]
    omega
theorem count_iff {ks xs : List Str} (hn : ks.Nodup) (hm : ∀ k, k ∈ ks ↔ k ∈ xs) : ks.length = xs.length ↔ xs.Nodup := by
  refine ⟨fun e => ?_, fun h => ?_⟩
  · by_cases h : xs.Nodup
    · exact h
    · obtain ⟨m, h1, h2⟩ := fewer_of_twice xs h
      have z := nodup_le ks m hn fun y hy => h2 y ((hm y).1 hy)
      omega
  · have a := nodup_le ks xs hn fun y hy => (hm y).1 hy
    have b := nodup_le xs ks h fun y hy => (hm y).2 hy
    omega
theorem SetS.count {w : World} {h : Heap} {a : Addr} {xs : List Str} {n : Nat} (R : SetS w h a (fun j => decide (j ∈ xs)) n) : n ≤ xs.length ∧ (n = xs.length ↔ xs.Nodup) := by
  obtain ⟨o, es, ep, t, ho, hx, hd, g, nd, hm, hb, hf, hn, _⟩ := R
  have hm' : ∀ k, k ∈ es.toList.map keyS ↔ k ∈ xs := fun k => by
    rw [← hm k, decide_eq_true_eq]
  have e : (es.toList.map keyS).length = n := by
    rw [List.length_map, Array.length_toList]
    exact hn
  have c := count_iff nd hm'
  rw [e] at c
  refine ⟨?_, c⟩
  rw [← e]
  exact nodup_le _ _ nd fun y hy => (hm' y).1 hy
/-! ### as tracked things -/
def SetSO (w : World) (a : Addr) (S : Str → Bool) (n : Nat) : HO := .ext fun h => SetS w h a S n
theorem setSO_new {w : World} {P : Program} {H : Hp} {h : Heap} {a : Addr} {S : Str → Bool} {n : Nat} (R : SetS w h a S n) : ObjOk P w H h a (SetSO w a S n) := by
  have ⟨o, _, _, _, ho, _⟩ := R
  exact ⟨R, ⟨o, ho⟩, fun h1 h2 p k => SetS.at p k⟩
section
variable {X : Cx}
theorem setSO_get {pins : List (Addr × Obj)} {σ : St} {H : Hp} {s : Shared} {a : Addr} {S : Str → Bool} {n : Nat} (I : Inv X pins σ H s) (ha : H a = some (SetSO X.w a S n)) : SetS X.w s.heap a S n := (I.hok a _ ha).1
theorem vals_strs_at {xs : List Str} {us : List Value} (r : Vals (xs.map V.str) us) (i : Nat) (v : Value) (e : us[i]? = some v) : ∃ x t, xs[i]? = some x ∧ v = .str x t := by
  have hl : i < us.length := (List.getElem?_eq_some_iff.mp e).1
  have hx : i < xs.length := by
    have z := r.length
    rw [List.length_map] at z
    omega
  have q : (xs.map V.str)[i]? = some (V.str xs[i]) := by
    rw [List.getElem?_map, List.getElem?_eq_getElem hx]
    rfl
  obtain ⟨u, h1, t, h2⟩ := Vals.get r q
  rw [e] at h1
  exact ⟨xs[i], t, List.getElem?_eq_getElem hx, by rw [Option.some.inj h1]; exact h2⟩
/-- set(l), l a list of texts -/
def rSetS (K : PySem.W.Frag) (w : World) : List V → Hp → VK → Prop := fun xs H Q => ∃ (l : Addr) (ys : List Str), xs = [.ref l] ∧ SqL K H l (ys.map V.str) ∧ ys.length ≤ 1000 ∧
  ∀ (p : Addr) (m : Nat), H p = none → m ≤ ys.length → (m = ys.length ↔ ys.Nodup) → Q (.ref p) (upd H p (SetSO w p (fun j => decide (j ∈ ys)) m))
theorem cr_setS (hc : X.calm = true) : CallR X (.type "set") (rSetS X.K X.w) := by
  intro pins s σ H xs us Q I r h
  obtain ⟨l, ys, rfl, hs, hz, q⟩ := h
  rw [Vals.ref1 r]
  obtain ⟨its, rv, pl, _⟩ := I.list hs
  have hsz : its.toArray.size = ys.length := by
    rw [List.size_toArray, ← rv.length, List.length_map]
  refine setS_call ys (I.ok.hd hc) pl.isList hsz (fun i v e => vals_strs_at rv i v (by simpa using e)) (Nat.lt_of_le_of_lt (Nat.succ_le_succ hz) (by decide)) fun h' tk m R k => ?_
  obtain ⟨c1, c2⟩ := R.count
  have hn := I.hok.fresh (Nat.le_refl s.heap.objs.size)
  exact ⟨.ref s.heap.objs.size, upd H s.heap.objs.size (SetSO X.w s.heap.objs.size (fun j => decide (j ∈ ys)) m), I.laid (t' := tk) k (Nat.le_refl _) (setSO_new R), rfl, q _ m hn c1 c2⟩
/-- len(s), s such a set -/
def rLenS (w : World) : List V → Hp → VK → Prop := fun xs H Q => ∃ (a : Addr) (S : Str → Bool) (n : Nat), xs = [.ref a] ∧ H a = some (SetSO w a S n) ∧ Q (.int n) H
theorem cr_lenS : CallR X (.builtin "len") (rLenS X.w) := by
  intro pins s σ H xs us Q I r h
  obtain ⟨a, S, n, rfl, ha, q⟩ := h
  rw [Vals.ref1 r]
  obtain ⟨o, es, ep, t, ho, hex, hd, _, _, _, hb, hf, hn, _⟩ := setSO_get I ha
  have hsmall : scanBound < 2 ^ 62 := by decide
  exact call_len_set ho hex hd hf (by omega) ⟨.int n, H, I.tok _, ⟨_, by rw [hn]⟩, q⟩
end
end Eld
end L2

set_option Elab.async false
set_option linter.all false
set_option maxRecDepth 100000
set_option maxHeartbeats 4000000
/-! ## sorted(s) of a set of texts; {elt for a in .. for b in ..} of texts -/
namespace L2
namespace Eld
open PySem PySem.Spec PyProof.Rows PySem.EldX
theorem strsAre_of_all : ∀ (vs : List Value), (∀ v ∈ vs, ∃ x t, v = Value.str x t) → ∃ ys : List Str, StrsAre vs ys
  | [], _ => ⟨[], .nil⟩
  | v :: vs, h => by
    obtain ⟨x, t, rfl⟩ := h v (List.mem_cons_self ..)
    obtain ⟨ys, hy⟩ := strsAre_of_all vs fun u hu => h u (List.mem_cons_of_mem _ hu)
    exact ⟨x :: ys, .cons x t hy⟩
theorem sort_tree_strs {P : Program} {w : World} {A : Around} {E : Value → Shared → Prop} {s : Shared} {a : Addr} {vs : List Value} {zs : List Str} {n : Nat} {Q : Fin → Shared → Prop} (ho : s.heap.get? a = some (seqObj "list" vs.toArray n)) (hS : StrsAre vs zs) (h64 : vs.length < 64)
    (h : ∀ (out : Array Value) (ys : List Str), StrsAre out.toList ys → ys.Perm zs → sortedS ys = true → Q (.done (.ret .none)) { s with heap := sortedHeap s.heap a vs out }) :
    wpAny (model P w) A (Builtin.«list.sort» ⟨[.ref a], []⟩) Q E s :=
  list_sort_treeK strKind_oneLt ho hS.keysOf (fun v₁ v₂ rest e => keyKind_strs (by rw [← e]; exact hS)) h64 fun st' hp hs => by
    obtain ⟨ys, g1, g2, g3⟩ := sorted_out_str hS hp hs
    exact h _ ys g1 g2 g3
theorem strsAre_keys : ∀ {vs : List Value} {ys : List Str}, StrsAre vs ys → vs.map (fun v => keyS (0, v)) = ys
  | _, _, .nil => rfl
  | _, _, .cons x t h => by
    rw [List.map_cons, strsAre_keys h]
    rfl
section
variable {P : Program} {w : World} {A : Around} {E : Value → Shared → Prop} {s : Shared} {a : Addr} {S : Str → Bool} {n : Nat}
theorem sorted_setS {Q : Value → Shared → Prop} (R : SetS w s.heap a S n) (hh : A.handled = none) (h64 : n < 64)
    (hQ : ∀ s' p (out : Array Value) (c : Nat) (ys : List Str), (∀ b o, s.heap.get? b = some o → s'.heap.get? b = some o) → s'.gens = s.gens → s'.os = s.os → s.heap.objs.size ≤ p →
      s'.heap.get? p = some (seqObj "list" out c) → StrsAre out.toList ys → sortedS ys = true → ys.Nodup → (∀ k, k ∈ ys ↔ S k = true) → ys.length = n → Q (.ref p) s') :
    wpAny (model P w) A (call (.builtin "sorted") [.ref a]) Q E s := by
  obtain ⟨o, es, ep, t, ho, hex, hd, g, nd, hm, hb, hf, hn, hr, hl⟩ := R
  refine Calls.call_function_entry kind_sorted plain_sorted entry_sorted (args_sorted1 _) ?_
  unfold Builtin.«sorted»
  refine wpAny_bind (m := checkCount "sorted" 1 1 _) (wpAny_pure ?_)
  refine wpAny_bind (collect_set (A := A.in1) hh ⟨o, ho, hex.1, hd⟩ hf hb hr hl fun s1 vs k1 hz g1 o1 pm => ?_)
  have vl : vs.length = n := by
    rw [pm.length_eq, List.length_map, Array.length_toList]
    exact hn
  obtain ⟨zs, hS⟩ := strsAre_of_all vs fun v hv => strs_key g v (pm.mem_iff.mp hv)
  have pk : zs.Perm (es.toList.map keyS) := by
    have q := pm.map fun v => keyS (0, v)
    rw [List.map_map, strsAre_keys hS] at q
    exact q
  refine wpAny_bind (wpAny_newList ?_ (by rw [vl, sizeLine_eq]; omega))
  have hoL : (s1.heap.push (seqObj "list" vs.toArray 0)).get? s1.heap.objs.size = some (seqObj "list" vs.toArray 0) := Heap.get?_push_size _ rfl
  refine wpAny_bind (wpAny_holding (wpAny_call_entry slot_list_sort ⟨_, hoL, rfl⟩ entry_list_sort (sort_tree_strs hoL hS (by rw [vl]; exact h64) fun out ys a1 a2 a3 => ⟨_, rfl, ?_⟩) (args_list_sort _)))
  obtain ⟨c, hc⟩ := sortedHeap_at (vs := vs) (out := out) hoL
  have pn : ys.Perm (es.toList.map keyS) := a2.trans pk
  refine wpAny_pure ⟨_, rfl, hQ _ s1.heap.objs.size out c ys (fun b u e => ?_) g1 o1 hz hc a1 a3 (pn.nodup_iff.mpr nd) (fun k => by rw [pn.mem_iff, ← hm k]) ?_⟩
  · have q := k1 b u e
    have lt := Heap.lt_size q
    show (sortedHeap (s1.heap.push (seqObj "list" vs.toArray 0)) s1.heap.objs.size vs out).get? b = some u
    rw [sortedHeap_old (Nat.ne_of_lt lt) (by rw [size_push']; exact Nat.lt_succ_of_lt lt)]
    exact Heap.get?_push_of_some _ q
  · rw [pn.length_eq, List.length_map, Array.length_toList]
    exact hn
end
/-- sorted(s), s a set of texts -/
def rSortedS' (w : World) : List V → Hp → VK → Prop := fun xs H Q => ∃ (a : Addr) (S : Str → Bool) (n : Nat), xs = [.ref a] ∧ H a = some (SetSO w a S n) ∧ n < 64 ∧
  ∀ (ys : List Str) (p : Addr), sortedS ys = true → ys.Nodup → (∀ k, k ∈ ys ↔ S k = true) → ys.length = n → H p = none → Q (.ref p) (upd H p (.lst (ys.map V.str)))
section
variable {X : Cx}
theorem cr_sortedSetS (hc : X.calm = true) : CallR X (.builtin "sorted") (rSortedS' X.w) := by
  intro pins s σ H xs us Q I r h
  obtain ⟨a, S, n, rfl, ha, h64, q⟩ := h
  rw [Vals.ref1 r]
  refine sorted_setS (setSO_get I ha) (I.ok.hd hc) h64 fun s' p out c ys k g1 o1 hp hout a1 a2 a3 a4 a5 => ?_
  have hlen : (ys.map V.str).length ≤ sizeLine := by
    rw [List.length_map, a5, sizeLine_eq]
    omega
  have hn : H p = none := I.hok.fresh hp
  have J : Inv X pins σ (upd H p (.lst (ys.map V.str))) { s with heap := s'.heap, gens := s'.gens, drawn := s'.drawn, toks := s'.toks } :=
    I.call (ch := []) (Un.laid k hp hn) (I.hok.laid k hp (show ObjOk X.prog X.w _ _ p (.lst (ys.map V.str)) from ⟨hlen, out.toList, c, vals_of_strs a1, by rw [Array.toArray_toList]; exact hout⟩)) (by rw [g1]; exact I.bare) (fun _ z => nomatch z)
  have e : s' = { s with heap := s'.heap, gens := s'.gens, drawn := s'.drawn, toks := s'.toks } := by
    cases s'
    cases s
    cases o1
    rfl
  rw [e]
  exact ⟨.ref p, _, J, rfl, q ys p a2 a3 a4 a5 hn⟩
end
end Eld
end L2

set_option Elab.async false
set_option linter.all false
set_option maxRecDepth 100000
set_option maxHeartbeats 4000000
/-! ## a comprehension's clauses without tests, one rule for each of them; sets of texts made of two clauses -/
namespace L2
namespace Eld
open PySem PySem.Spec PyProof.Rows PySem.EldX
/-- no error comes -/
abbrev noE : Value → Shared → Prop := fun _ _ => False
theorem wpAny_ofNo {α : Type} {M : Model} {A : Around} {t : Sem α} {Q : α → Shared → Prop} {E : Value → Shared → Prop} {s : Shared} (h : wpAny M A t Q noE s) : wpAny M A t Q E s := wpAny_mono h (fun _ _ q => q) fun _ _ z => z.elim
/-- what the first slots know the second know -/
structure Knows (σ σ' : St) : Prop where
  len : σ.length = σ'.length
  has : ∀ (j : Nat) v, σ[j]? = some (some v) → σ'[j]? = some (some v)
theorem Knows.rfl' {σ : St} : Knows σ σ := ⟨rfl, fun _ _ h => h⟩
theorem Knows.trans {σ1 σ2 σ3 : St} (a : Knows σ1 σ2) (b : Knows σ2 σ3) : Knows σ1 σ3 := ⟨a.len.trans b.len, fun j v h => b.has j v (a.has j v h)⟩
theorem Knows.wiped {σ : St} {vs : List Nat} : Knows (wipe σ vs) σ := ⟨wipe_length σ vs, fun _ _ h => (wipe_some h).1⟩
theorem Knows.back {σ σ2 : St} {vs : List Nat} (h : wipe σ2 vs = wipe σ vs) : Knows (wipe σ vs) σ2 := by
  rw [← h]
  exact .wiped
theorem Knows.sub {σ σ2 : St} {vs vs1 : List Nat} (h : wipe σ2 vs = wipe σ vs) (hv : ∀ i ∈ vs1, i ∈ vs) : Knows (wipe σ vs) (wipe σ2 vs1) := by
  refine ⟨by rw [← h, wipe_length, wipe_length], fun j v e => ?_⟩
  rw [← h] at e
  obtain ⟨e1, e2⟩ := wipe_some e
  rw [wipe_out fun z => e2 (hv j z)]
  exact e1
/-- one turn of a clause: each item is stored, then body runs -/
abbrev clTurn (node : Expr) (k : Nat) (tg ie : Expr) (it acc : Value) (env : Env) (body : Sem Unit) : Sem Fin := do
  standAt ie.pos
  match ← pyNext it with
  | none => pure (.done .next)
  | some v => do
    letOwnedTupleGo tg it v
    assign tg env v
    body
    again (.compLoop node k it acc env)
section
variable {prog : Program} {w : World} {A : Around} {R : Result → Shared → Prop} {s : Shared} {node tg ie : Expr} {k : Nat} {it acc : Value} {env : Env} {body : Sem Unit}
theorem cl_loop (hu : A.under (.compLoop node k it acc env) = A) (hd : (model prog w).den (.compLoop node k it acc env) = (compTurn node k it acc env).onRaise fun x => do noteFrame x env; theTreesLotGoes x) (hq : (Code.compLoop node k it acc env).quiet = true) (eq : compTurn node k it acc env = clTurn node k tg ie it acc env body) (J : Nat → Shared → Prop)
    (turn : ∀ n s, J n s → wpAny (model prog w) A (pyNext it) (fun r s1 => (r = none ∧ R (.ok .next) s1) ∨ ∃ v, r = some v ∧ wpAny (model prog w) A (letOwnedTupleGo tg it v) (fun _ s2 =>
      wpAny (model prog w) A (assign tg env v) (fun _ s3 => wpAny (model prog w) A body (fun _ s4 => ∃ m, m < n ∧ J m s4) noE s3) noE s2) noE s1) noE s)
    (n : Nat) (h : J n s) : codeAny (model prog w) A (.compLoop node k it acc env) R s := by
  refine codeAny_loop hq J (fun n s hJ => ?_) n h
  rw [hu, hd]
  refine wpAny_noted ?_
  rw [eq]
  refine wpAny_bind (wpAny_standAt (wpAny_bind (thnF (turn n s hJ) fun r s1 h1 => ?_)))
  rcases h1 with ⟨rfl, q⟩ | ⟨v, rfl, q⟩
  · exact wpAny_pure q
  · refine wpAny_bind (thnF q fun _ s2 h2 => wpAny_bind (thnF h2 fun _ s3 h3 => wpAny_bind (thnF h3 fun _ s4 h4 => ?_)))
    exact wpAny_pure ⟨rfl, h4⟩
end
/-- a clause's loop over what its iterator tells -/
theorem cl_run {X : Cx} {pins : List (Addr × Obj)} {node tg ie : Expr} {k : Nat} {it : Addr} {acc : Value} {body : Sem Unit} {R : Result → Shared → Prop} {fp : List Addr} {tn : Nat → Heap → Prop} {J : It} {g : TG} {σ : St} {H : Hp} {s : Shared} {m : Nat} {W : Nat → Nat → Hp → Prop} {Done : Hp → Prop}
    (hxe : ∀ e s, X.xe e s → False) (hu : X.A.under (.compLoop node k (.ref it) acc X.env) = X.A) (hd : (model X.prog X.w).den (.compLoop node k (.ref it) acc X.env) = (compTurn node k (.ref it) acc X.env).onRaise fun x => do noteFrame x X.env; theTreesLotGoes x)
    (hq : (Code.compLoop node k (.ref it) acc X.env).quiet = true) (eq : compTurn node k (.ref it) acc X.env = clTurn node k tg ie (.ref it) acc X.env body) (hc : X.calm = true) (T : Turn X.prog X.w X.K tg J fp it tn) (pg : PG X tg g)
    (fok : ∀ σ' H' s', Inv X pins σ' H' s' → (∀ b ∈ fp, H' b = none) → ∀ b ∈ fp, FpOk X pins H' b)
    (step : ∀ i m H, W i m H → (J.stop i H ∧ Done H) ∨ (J.go i H ∧ ∃ Nx : Hp → Prop, (∀ H', Nx H' → ∃ m', m' < m ∧ W (i + 1) m' H') ∧ ∀ x H', J.yld i H x H' → ∃ Mid : St → Hp → Prop, g x σ H' Mid ∧ ∀ σ2 H2, Mid σ2 H2 →
      ∀ more s2, Inv X (pins ++ more) σ2 H2 s2 → wpAny (model X.prog X.w) X.A body (fun _ s3 => ∃ σ3 H3, Inv X (pins ++ more) σ3 H3 s3 ∧ Knows σ σ3 ∧ Nx H3) noE s2))
    (done : ∀ H' s', Inv X pins σ H' s' → Done H' → R (.ok .next) s') (I : Inv X pins σ H s) (t0 : tn 0 s.heap) (n0 : ∀ b ∈ fp, H b = none) (w0 : W 0 m H) :
    codeAny (model X.prog X.w) X.A (.compLoop node k (.ref it) acc X.env) R s := by
  refine cl_loop hu hd hq eq (fun n s' => ∃ i H', Inv X pins σ H' s' ∧ tn i s'.heap ∧ (∀ b ∈ fp, H' b = none) ∧ W i n H') (fun n s5 hJ => ?_) m ⟨0, H, I, t0, n0, w0⟩
  obtain ⟨i, G, IG, tG, nG, wG⟩ := hJ
  have okG := fok _ _ _ IG nG
  rcases step i n G wG with ⟨stop, d⟩ | ⟨go, Nx, hNx, st⟩
  · exact thnF (T.done X rfl rfl rfl hc i pins s5 σ G noE IG okG tG stop) fun r s6 ⟨hr, I6⟩ => .inl ⟨hr, done _ _ I6 d⟩
  · refine thnF (T.item X rfl rfl rfl hc i pins s5 σ G noE IG okG tG go) fun r s6 ⟨u, hr, h6⟩ => .inr ⟨u, hr, thnF h6 fun _ s7 ⟨x, G7, I7, rx, y7, t7, n7⟩ => ?_⟩
    have P7 := I7.pinned (fok _ _ _ I7 n7) (T.obj _ _ t7)
    obtain ⟨Mid, gm, bd⟩ := st x G7 y7
    refine wpAny_mono (pg.run (pins ++ pinsAt fp s7.heap) s7 σ G7 x u _ P7 rx gm) (fun _ s8 ⟨σ8, G8, I8, q8⟩ => ?_) fun e s8 z => ?_
    · refine thnF (bd σ8 G8 q8 _ s8 I8) fun _ s9 ⟨σ9, G9, I9, kn, nx⟩ => ?_
      obtain ⟨m', hm, w'⟩ := hNx G9 nx
      have held : ∀ b ∈ fp, ∀ o, s7.heap.get? b = some o → s9.heap.get? b = some o ∧ G9 b = none := fun b hb o e =>
        have z := I9.pin (b, o) (List.mem_append_right _ (List.mem_append_right _ (mem_pinsAt hb e)))
        ⟨z.1, z.2.1⟩
      refine ⟨m', hm, i + 1, G9, (I9.unpinned (pins := pins)).weak kn.len kn.has, T.keep _ _ _ t7 fun b hb o e => (held b hb o e).1, fun b hb => ?_, w'⟩
      obtain ⟨o, e, _⟩ := T.obj _ _ t7 b hb
      exact (held b hb o e).2
    · exact (hxe e s8 z).elim
/-! ### {elt for tg in iter for tg1 in iter1} -/
section
variable {prog : Program} {w : World} {A : Around} {R : Result → Shared → Prop} {s : Shared} {elt t0 i0 t1 i1 : Expr} {scope : Scope} {pos : Pos} {it acc : Value} {env : Env}
abbrev sc2 (elt t0 i0 t1 i1 : Expr) (scope : Scope) (pos : Pos) : Expr := .SetComp elt [⟨t0, i0, [], 0⟩, ⟨t1, i1, [], 0⟩] scope pos
abbrev bodyOut (elt t0 i0 t1 i1 : Expr) (scope : Scope) (pos : Pos) (acc : Value) (env : Env) : Sem Unit := do
  let x ← eval i1 env
  standAt i1.pos
  let x ← foldedSetIterable i1 env x
  let _ ← runOwn (.compStart (sc2 elt t0 i0 t1 i1 scope pos) 1 (← holding [x] (pyIter x)) acc env) env
abbrev bodyIn (elt : Expr) (acc : Value) (env : Env) : Sem Unit := do
  let v ← eval elt env
  standAt elt.pos
  let _ ← call (.builtin "set.add") [acc, v]
theorem turn_out : compTurn (sc2 elt t0 i0 t1 i1 scope pos) 0 it acc env = clTurn (sc2 elt t0 i0 t1 i1 scope pos) 0 t0 i0 it acc env (bodyOut elt t0 i0 t1 i1 scope pos acc env) := by
  first
    | rfl
    | (unfold compTurn clTurn bodyOut
       simp
       refine congrArg _ (funext fun _ => congrArg _ (funext fun r => ?_))
       cases r <;> simp)
theorem turn_in : compTurn (sc2 elt t0 i0 t1 i1 scope pos) 1 it acc env = clTurn (sc2 elt t0 i0 t1 i1 scope pos) 1 t1 i1 it acc env (bodyIn elt acc env) := by
  first
    | rfl
    | (unfold compTurn clTurn bodyIn
       simp
       refine congrArg _ (funext fun _ => congrArg _ (funext fun r => ?_))
       cases r <;> simp)
end
end Eld
end L2

set_option Elab.async false
set_option linter.all false
set_option maxRecDepth 100000
set_option maxHeartbeats 4000000
namespace L2
namespace Eld
open PySem PySem.Spec PyProof.Rows PySem.EldX
/-- s.add of a text, s tracked -/
theorem addS_ok {X : Cx} {pins : List (Addr × Obj)} {σ : St} {H : Hp} {s : Shared} {E : Value → Shared → Prop} {D : Addr} {S : Str → Bool} {n : Nat} {x : Str} {t : Tok} {Q : Value → Shared → Prop} (I : Inv X pins σ H s) (hD : H D = some (SetSO X.w D S n)) (room : n + 1 < scanBound)
    (h : ∀ s', Inv X pins σ (upd H D (SetSO X.w D (fun j => S j || decide (j = x)) (if S x = true then n else n + 1))) s' → Q .none s') : wpAny (model X.prog X.w) X.A (call (.builtin "set.add") [.ref D, .str x t]) Q E s := by
  refine setS_add (setSO_get I hD) room fun h' sb fresh => ?_
  obtain ⟨o, hfresh⟩ : ∃ u, h'.get? D = some u := by
    obtain ⟨o, es, ep, tb, ho, _⟩ := fresh
    exact ⟨o, ho⟩
  exact h _ (I.write (e := D) (t' := s.toks + 1) (by rw [hD]; trivial) (.inl rfl) (fun b u hb hu => (sb.2 b hb).trans hu) ⟨o, hfresh⟩ (setSO_new fresh))
section
variable {prog : Program} {w : World} {A : Around} {R : Result → Shared → Prop} {s : Shared} {elt t0 i0 t1 i1 : Expr} {scope : Scope} {pos : Pos} {it acc : Value} {env : Env}
/-- the second clause begins -/
theorem sc2_start (h1 : codeAny (model prog w) A (.compLoop (sc2 elt t0 i0 t1 i1 scope pos) 1 it acc env) R s)
    (h2 : wpAny (model prog w) A (pyIter it) (fun it' s' => codeAny (model prog w) A (.compLoop (sc2 elt t0 i0 t1 i1 scope pos) 1 it' acc env) R s') noE s) :
    codeAny (model prog w) A (.compStart (sc2 elt t0 i0 t1 i1 scope pos) 1 it acc env) R s := by
  refine codeAny_of_tree ?_
  show wpAny _ _ ((compStart (sc2 elt t0 i0 t1 i1 scope pos) 1 it acc env).onRaise (fun x => do noteFrame x env; standAt theWindowsPlace)) _ _ s
  refine wpAny_notedAt ?_
  unfold compStart
  show wpAny _ _ (ask >>= _) _ _ s
  refine wpAny_bind (wpAny_askSetting (wpAny_ite ?_))
  split
  · first
      | exact wpAny_pure (And.intro rfl h1)
      | exact wpAny_bind (wpAny_pure (wpAny_pure (And.intro rfl h1)))
  · refine wpAny_bind (wpAny_rule ?_)
    show wpAny _ _ (standAt i1.pos >>= _) _ _ s
    exact wpAny_bind (wpAny_standAt (wpAny_bind (thnF h2 fun it' s' h' => wpAny_pure (And.intro rfl h'))))
end
/-- {elt for tg in iter for tg1 in iter1}: elt a text; vs the block's names, vs1 those of the second target -/
def tSc2 (w : World) (wi : TI) (g : TG) (wi1 : TI) (g1 : TG) (te : TE) (vs vs1 : List Nat) : TE := fun σ H Q => wi σ H fun J H1 => ∀ D, H1 D = none →
  ∃ W : Nat → Nat → Hp → Prop, (∃ m, W 0 m (upd H1 D (SetSO w D (fun _ => false) 0))) ∧ ∀ i m G, W i m G → (J.stop i G ∧ Q (.ref D) G) ∨ (J.go i G ∧
    ∃ Nx : Hp → Prop, (∀ G', Nx G' → ∃ m', m' < m ∧ W (i + 1) m' G') ∧ ∀ x G', J.yld i G x G' → g x (wipe σ vs) G' fun σ2 H2 => wipe σ2 vs = wipe σ vs ∧ wi1 σ2 H2 fun J1 H4 =>
      ∃ W1 : Nat → Nat → Hp → Prop, (∃ m, W1 0 m H4) ∧ ∀ j k G, W1 j k G → (J1.stop j G ∧ Nx G) ∨ (J1.go j G ∧
        ∃ Nx1 : Hp → Prop, (∀ G', Nx1 G' → ∃ k', k' < k ∧ W1 (j + 1) k' G') ∧ ∀ x G', J1.yld j G x G' → g1 x (wipe σ2 vs1) G' fun σ3 H5 => wipe σ3 vs1 = wipe σ2 vs1 ∧ te σ3 H5 fun y H6 =>
          ∃ (c : Str) (S : Str → Bool) (n : Nat), y = .str c ∧ H6 D = some (SetSO w D S n) ∧ n + 1 < scanBound ∧ Nx1 (upd H6 D (SetSO w D (fun j => S j || decide (j = c)) (if S c = true then n else n + 1)))))
section
variable {X : Cx}
theorem pe_sc2 {elt tg iter tg1 iter1 : Expr} {scope : Scope} {own : List (Str × Nat)} {vs1 : List Nat} {pos : Pos} {wi wi1 : TI} {g g1 : TG} {te : TE} (hc : X.calm = true) (hN : X.N.Nodup) (hi : PI X tg iter wi) (ok : BlkOk X.N X.env.scope scope own) (hv : ∀ i ∈ vs1, i ∈ own.map (·.2))
    (hg : ∀ (s : Shared) (H : Hp) (C : Addr) (cl : List (Str × Addr)) (fp : List Addr), PG (X.blk s H scope (compEnvC scope cl C X.env) fp) tg g)
    (hi1 : ∀ (s : Shared) (H : Hp) (C : Addr) (cl : List (Str × Addr)) (fp : List Addr), PI (X.blk s H scope (compEnvC scope cl C X.env) fp) tg1 iter1 wi1)
    (hg1 : ∀ (s : Shared) (H : Hp) (C : Addr) (cl : List (Str × Addr)) (fp : List Addr), PG (X.blk s H scope (compEnvC scope cl C X.env) fp) tg1 g1)
    (he : ∀ (s : Shared) (H : Hp) (C : Addr) (cl : List (Str × Addr)) (fp : List Addr), PE (X.blk s H scope (compEnvC scope cl C X.env) fp) elt te)
    (hs : ∀ x, foldedSetIterable iter X.env x = pure x := by intro _; rfl) (hs1 : ∀ env x, foldedSetIterable iter1 env x = pure x := by intro _ _; rfl) :
    PE X (sc2 elt tg iter tg1 iter1 scope pos) (tSc2 X.w wi g wi1 g1 te (own.map (·.2)) vs1) := by
  refine ⟨fun pins s σ H Q I h => ?_⟩
  rw [PpSet.eval_SetComp]
  have hfree : ∀ y ∈ scope.names, y.2 = .free → ∃ c, X.env.cells.lookup y.1 = some c := fun y hy e => (ok.free y hy e).elim (fun k => I.ok.has _ (.inl k)) fun k => I.ok.has _ (.inr k)
  refine wpAny_comprehension_free rfl hs (closure_ok hfree) ok.kind (fun y hy e => by rw [ok.uniq y hy, e]) (thn (hi.run pins s σ H _ I h) fun xv s1 hx => thn hx fun itv s2 h2 => ?_)
  obtain ⟨it, fp, tn, J, H2, rfl, I2, T, t2, f2, q⟩ := h2
  refine PpSet.newSet_ok (newEnv_comp ?_)
  obtain ⟨W, ⟨m0, w0⟩, step⟩ := q s2.heap.objs.size (I2.hok.fresh (Nat.le_refl _))
  -- the new set
  have old3 : ∀ b o, s2.heap.get? b = some o → (s2.heap.push { cls := .type "set", dict := none, data := .set #[] 0 (.fresh 0 0 (!X.w.params.followText "set-order")) }).get? b = some o := fun b o e => Heap.get?_push_of_some _ e
  have I3 : Inv X pins σ (upd H2 s2.heap.objs.size (SetSO X.w s2.heap.objs.size (fun _ => false) 0)) { s2 with heap := s2.heap.push { cls := .type "set", dict := none, data := .set #[] 0 (.fresh 0 0 (!X.w.params.followText "set-order")) } } :=
    I2.laid (t' := s2.toks) old3 (Nat.le_refl _) (setSO_new (setS_new_at (Heap.get?_push_size _ rfl)))
  have small : ∀ b ∈ fp, b < s2.heap.objs.size := fun b hb => let ⟨o, e, _⟩ := T.obj _ _ t2 b hb; Heap.lt_size e
  have fp3 : ∀ b ∈ fp, FpOk X pins (upd H2 s2.heap.objs.size (SetSO X.w s2.heap.objs.size (fun _ => false) 0)) b ∧ b < (s2.heap.push { cls := .type "set", dict := none, data := .set #[] 0 (.fresh 0 0 (!X.w.params.followText "set-order")) }).objs.size := fun b hb => by
    refine ⟨⟨?_, (f2 b hb).2⟩, by rw [Heap.size_push]; exact Nat.lt_succ_of_lt (small b hb)⟩
    rw [upd_ne (Nat.ne_of_lt (small b hb))]
    exact (f2 b hb).1
  generalize hD : s2.heap.objs.size = D at w0 step I3 fp3 ⊢
  generalize hs3 : ({ s2 with heap := s2.heap.push { cls := .type "set", dict := none, data := .set #[] 0 (.fresh 0 0 (!X.w.params.followText "set-order")) } } : Shared) = s3 at I3 ⊢
  have e3 : s3.heap = s2.heap.push { cls := .type "set", dict := none, data := .set #[] 0 (.fresh 0 0 (!X.w.params.followText "set-order")) } := by rw [← hs3]
  rw [← e3] at fp3
  have t3 : tn 0 s3.heap := T.keep _ _ _ t2 fun b _ o e => by rw [e3]; exact old3 b o e
  generalize hH3 : upd H2 D (SetSO X.w D (fun _ => false) 0) = H3 at w0 I3 fp3
  have I4 := block_start I3 ok hN fp3
  have pg := hg s3 H3 s3.heap.objs.size (cellsFrom (s3.heap.objs.size + 1) scope.names (cloFrom X.env.cells scope.names [])) fp
  have pe := he s3 H3 s3.heap.objs.size (cellsFrom (s3.heap.objs.size + 1) scope.names (cloFrom X.env.cells scope.names [])) fp
  have pi1 := hi1 s3 H3 s3.heap.objs.size (cellsFrom (s3.heap.objs.size + 1) scope.names (cloFrom X.env.cells scope.names [])) fp
  have pg1 := hg1 s3 H3 s3.heap.objs.size (cellsFrom (s3.heap.objs.size + 1) scope.names (cloFrom X.env.cells scope.names [])) fp
  show codeAny _ _ (.compStart (sc2 elt tg iter tg1 iter1 scope pos) 0 (.ref it) (.ref D) (compEnvC scope (cellsFrom (s3.heap.objs.size + 1) scope.names (cloFrom X.env.cells scope.names [])) s3.heap.objs.size X.env)) (compPost (model X.prog X.w) X.A X.xe none _ (.ref D) s3.heap.objs.size) { s3 with heap := pushCells (s3.heap.push { cls := .type "dict", data := .dict #[] }) scope.names }
  generalize hce : compEnvC scope (cellsFrom (s3.heap.objs.size + 1) scope.names (cloFrom X.env.cells scope.names [])) s3.heap.objs.size X.env = ce at I4 pg pe pi1 pg1 ⊢
  have cL : ce.locals = s3.heap.objs.size := by rw [← hce]; rfl
  generalize hs4 : ({ s3 with heap := pushCells (s3.heap.push { cls := .type "dict", data := .dict #[] }) scope.names } : Shared) = s4 at I4 ⊢
  have t4 : tn 0 s4.heap := T.keep _ _ _ t3 fun b _ o e => by rw [← hs4]; exact pushCells_keeps _ _ _ _ (Heap.get?_push_of_some _ e)
  have inblk : ∀ (σ' : St) (G : Hp) (s' : Shared), Inv (X.blk s3 H3 scope ce fp) [] σ' G s' → (∀ b ∈ fp, G b = none) → ∀ b ∈ fp, FpOk (X.blk s3 H3 scope ce fp) [] G b := fun σ' G s' IG hn b hb =>
    ⟨hn b hb, (IG.ok.exf b hb).1, IG.ok.exfs b hb, .inl hb, fun x c e => (IG.ok.exf b hb).2 x c e, fun p hp => absurd (show p ∈ ([] : List (Addr × Obj)) ++ [] from hp) (by simp)⟩
  have loop : codeAny (model X.prog X.w) X.A (.compLoop (sc2 elt tg iter tg1 iter1 scope pos) 0 (.ref it) (.ref D) ce) (compPost (model X.prog X.w) X.A X.xe none (EP X pins σ Q) (.ref D) s3.heap.objs.size) s4 := by
    refine cl_run (X := X.blk s3 H3 scope ce fp) (W := W) (σ := wipe σ (own.map (·.2))) (Done := fun G => Q (.ref D) G) (fun _ _ z => z) rfl rfl rfl turn_out hc T pg inblk (fun i m G wG => ?_) (fun G s' IG d => ?_) I4 t4 (fun b hb => (fp3 b hb).1.1) w0
    · rcases step i m G wG with ⟨stop, d⟩ | ⟨go, Nx, hNx, st⟩
      · exact .inl ⟨stop, d⟩
      · refine .inr ⟨go, Nx, hNx, fun x G' y => ?_⟩
        refine ⟨_, st x G' y, fun σ2 H5 ⟨hw, hw1⟩ => ?_⟩
        intro more s5 I5
        refine wpAny_bind (thnF (pi1.run _ s5 σ2 H5 _ I5 hw1) fun xv s6 h6 => ?_)
        refine wpAny_bind (wpAny_standAt (wpAny_bind (wpAny_of_eq (hs1 ce xv) (wpAny_bind (wpAny_holding (thnF h6 fun itv s7 h7 => ?_))))))
        obtain ⟨it1, fp1, tn1, J1, H7, rfl, I7, T1, t7, f7, W1, ⟨m1, w1⟩, step1⟩ := h7
        have kn : Knows (wipe σ (own.map (·.2))) (wipe σ2 vs1) := Knows.sub hw hv
        have inner : codeAny (model X.prog X.w) X.A (.compLoop (sc2 elt tg iter tg1 iter1 scope pos) 1 (.ref it1) (.ref D) ce) (fun r s' => ∃ f, r = .ok f ∧ ∃ σ3 G3, Inv (X.blk s3 H3 scope ce fp) ([] ++ more) σ3 G3 s' ∧ Knows (wipe σ (own.map (·.2))) σ3 ∧ Nx G3) s7 := by
          refine cl_run (X := X.blk s3 H3 scope ce fp) (W := W1) (σ := wipe σ2 vs1) (Done := Nx) (fun _ _ z => z) rfl rfl rfl turn_in hc T1 pg1 (fun σ' G s' IG hn b hb => ⟨hn b hb, (f7 b hb).2⟩) (fun j k G wG => ?_) (fun G s' IG d => ⟨_, rfl, _, G, IG, kn, d⟩) (I7.weak (wipe_length _ _) fun j v e => (wipe_some e).1) t7 (fun b hb => (f7 b hb).1) w1
          rcases step1 j k G wG with ⟨stop, d⟩ | ⟨go, Nx1, hNx1, st1⟩
          · exact .inl ⟨stop, d⟩
          · refine .inr ⟨go, Nx1, hNx1, fun x G' y => ?_⟩
            refine ⟨_, st1 x G' y, fun σ3 H8 ⟨hw3, q3⟩ => ?_⟩
            intro more1 s8 I8
            refine wpAny_bind (thnF (pe.run _ s8 σ3 H8 _ I8 q3) fun v s9 ⟨yv, H9, I9, ry, c, S, n, ey, hS, room, nx⟩ => ?_)
            subst ey
            obtain ⟨tk, rfl⟩ := ry
            refine wpAny_bind (wpAny_standAt (wpAny_bind (addS_ok (X := X.blk s3 H3 scope ce fp) I9 hS room fun s10 I10 => ?_)))
            exact wpAny_pure ⟨σ3, _, I10, Knows.back hw3, nx⟩
        refine wpAny_bind (wpAny_runOwn ?_)
        rw [Around.mark_none]
        refine codeAny_mono (sc2_start inner (T1.self X.A 0 _ _ _ t7 inner)) fun r s' hr => ?_
        obtain ⟨f, rfl, fin⟩ := hr
        first
          | exact wpAny_pure fin
          | exact wpAny_pure (wpAny_pure fin)
          | exact wpAny_bind (wpAny_pure (wpAny_pure fin))
    · -- the block ends: back to the def
      have back : Inv X pins σ G s' := I3.call' (ch := fp) IG.os IG.base IG.hok IG.bare fun b hb => ⟨(fp3 b hb).1.2.2.2.1, (fp3 b hb).1.2.1, (fp3 b hb).1.2.2.2.2.1, (fp3 b hb).1.2.2.2.2.2⟩
      have gone : G s3.heap.objs.size = none := by
        have z : G ce.locals = none := IG.free
        rwa [cL] at z
      obtain ⟨mm, ns, _⟩ := IG.loc
      have ns : s'.heap.Ns ce.locals mm := ns
      rw [cL] at ns
      obtain ⟨f0, f1, f2', f3, f4, f5⟩ := I3.fpOk (Nat.le_refl _) gone
      exact ⟨mm, ns, fun h'' sb => ⟨.ref D, G, back.turned (t' := s'.toks) (fun b o hb e => (sb.2 b hb).trans e) f0 f1 f3 f4 f5, rfl, d⟩⟩
  exact PpSet.codeAny_compStart_set loop (T.self X.A 0 _ _ _ t4 loop)
end
end Eld
end L2

set_option Elab.async false
set_option linter.all false
set_option maxRecDepth 100000
set_option maxHeartbeats 4000000
/-! ## == and != by a text's own __eq__, both answers; tuples of such things -/
namespace L2
namespace Eld
open PySem PySem.Spec PyProof.Rows PySem.EldX
/-- == of x and y tells b -/
abbrev Eqd := V → V → Hp → Bool → Prop
def EqB (X : Cx) (n : Nat) (D : Eqd) : Prop :=
  ∀ (A : Around) (pins : List (Addr × Obj)) (s : Shared) (σ : St) (H : Hp) (x y : V) (u v : Value) (b : Bool), Sub X n A → Inv X pins σ H s → RelV x u → RelV y v → D x y H b →
    wpAny (model X.prog X.w) A (eqBool u v) (fun r s' => r = b ∧ Inv X pins σ H s') X.xe s
def RcB (X : Cx) (n : Nat) (op : CmpOp) (D : Eqd) : Prop :=
  ∀ (A : Around) (pins : List (Addr × Obj)) (s : Shared) (σ : St) (H : Hp) (x y : V) (u v : Value) (b : Bool), Sub X n A → Inv X pins σ H s → RelV x u → RelV y v → D x y H b →
    wpAny (model X.prog X.w) A (richCompare op u v) (fun r s' => r = .bool b ∧ Inv X pins σ H s') X.xe s
/-- the own __eq__ of the class at C, at f; no own __ne__ -/
structure OwnE (K : PySem.W.Frag) (C f : Addr) : Prop where
  eq : PySem.W.findIn K (.ref C) "__eq__" = some (some (.ref f))
  fn : PySem.W.isFn K (.ref f) = true
  ne : PySem.W.findIn K (.ref C) "__ne__" = some (some (.builtin "object.__ne__"))
  ob : PySem.W.subIn K (.ref C) (.type "object") = some true
/-- what the own __eq__ promises: R tells the answer -/
def spEqB (R : Addr → V → Hp → Bool → Prop) : Sp := fun vs H Q _ => ∃ (a : Addr) (y : V) (b : Bool), vs = [.ref a, y] ∧ R a y H b ∧ Q (.bl b) H
/-- x an instance of the class at C, y anything whose type is no kind of it -/
def DIn (K : PySem.W.Frag) (C : Addr) (R : Addr → V → Hp → Bool → Prop) : Eqd := fun x y H b => ∃ (a dx : Addr) (fs : List (Str × V)) (t : Value), x = .ref a ∧ H a = some (.ins C dx fs) ∧ TyX K H y t ∧ PySem.W.notFirst K C t = true ∧ R a y H b
/-- a slot of the library's, found at an own class, called by its name -/
theorem bound_slot {M : Model} {A : Around} {E : Value → Shared → Prop} {s : Shared} {K : PySem.W.Frag} {C x : Addr} {ox : Obj} {od : Option Obj} {name : Str} {id : String} {args : List Value} {Q : Option Value → Shared → Prop} (kin : K.In s.heap) (inst : PySem.W.InstAt s.heap x ox C od)
    (found : PySem.W.findIn K (.ref C) name = some (some (.builtin id))) (bnd : ∀ self, bindSpecial (.builtin id) self = pure (.builtin id, [self])) (h : wpAny M A (call (.builtin id) (.ref x :: args)) (fun v => Q (some v)) E s) :
    wpAny M A (callSpecialIfBound? (.ref x) name args) Q E s := by
  have last : wpAny M A (call (.builtin id) ([.ref x] ++ args) >>= fun v => pure (some v)) Q E s := wpAny_bind (wpAny_mono h (fun _ _ q => wpAny_pure q) fun _ _ e => e)
  simp only [callSpecialIfBound?, bindSpecialIfBound?]
  refine wpAny_holding (wpAny_bind (wpAny_bind (wpAny_bind (inst.type.here ((PySem.W.looks_findIn kin found).here ?_)))))
  simp only [bnd]
  refine wpAny_bind (wpAny_askSetting (wpAny_ite ?_))
  split
  · exact wpAny_bind (wpAny_pure (wpAny_pure last))
  · exact wpAny_tryCatch (wpAny_bind (wpAny_pure (wpAny_pure last)))
/-- a comparison that its left side answers, the right one's type being no kind of the left one's -/
theorem rc_try {M : Model} {A : Around} {E : Value → Shared → Prop} {s : Shared} {K : PySem.W.Frag} {C x : Addr} {ox : Obj} {od : Option Obj} {op : CmpOp} {b t : Value} {Q : Value → Shared → Prop} (hu : A.units < cLine) (kin : K.In s.heap) (inst : PySem.W.InstAt s.heap x ox C od)
    (ty : PySem.W.Looks M s.heap (typeOf b) t) (nf : PySem.W.notFirst K C t = true) (one : wpAny M A (tryCompare (.ref x) (cmpInfo op).2.1 b) (fun r s' => ∃ v, r = some v ∧ Q v s') E s) : wpAny M A (richCompare op (.ref x) b) Q E s := by
  unfold richCompare
  simp only [oneThing_ref]
  refine wpAny_holding (wpAny_bind (wpAny_cRoomFor hu (wpAny_bind (inst.type.here (wpAny_bind (ty.here ?_))))))
  by_cases same : t = .ref C
  · subst same
    rw [if_neg (by simp)]
    refine wpAny_bind (wpAny_pure ?_)
    rw [if_neg Bool.false_ne_true]
    refine wpAny_bind (wpAny_mono one (fun r s' z => ?_) fun _ _ e => e)
    obtain ⟨v, rfl, q⟩ := z
    exact wpAny_pure q
  · have no : PySem.W.subIn K t (.ref C) = some false := by
      rcases Bool.or_eq_true_iff.mp nf with e | e
      · exact absurd (beq_iff_eq.mp e) same
      · exact beq_iff_eq.mp e
    rw [if_pos (by simpa using fun e => same e.symm)]
    refine wpAny_bind ((PySem.W.looks_subIn kin no).here ?_)
    rw [if_neg Bool.false_ne_true]
    refine wpAny_bind (wpAny_mono one (fun r s' z => ?_) fun _ _ e => e)
    obtain ⟨v, rfl, q⟩ := z
    exact wpAny_pure q
section
variable {X : Cx} {n : Nat} {CX : CXT} {C f : Addr} {fd : FuncData} {ps : List Str} {R : Addr → V → Hp → Bool → Prop} {E : XK}
/-- the call of the own __eq__ -/
theorem own_call (F : FnOk X.prog X.w X.K X.mg X.base CX n f fd ps (spEqB R)) (hb : Binds X.K fd ps []) (hx : Passes CX X E) {A : Around} {pins : List (Addr × Obj)} {s : Shared} {σ : St} {H : Hp} {a : Addr} {y : V} {v : Value} {b : Bool} (sb : Sub X n A) (I : Inv X pins σ H s) (ry : RelV y v) (r : R a y H b) :
    wpAny (model X.prog X.w) A (call (.ref f) [.ref a, v]) (fun z s' => z = .bool b ∧ Inv X pins σ H s') X.xe s := by
  have sp : spEqB R [.ref a, y] H (fun z H' => z = .bl b ∧ H' = H) E := ⟨a, y, b, rfl, r, rfl, rfl⟩
  have e0 : Env0 X.prog X.w X.K X.mg X.base A X.stack s H := by
    have e := I.env0
    exact ⟨by rw [sb.fr]; exact e.frames, e.mod, e.bs, e.bsz, e.funs, e.frf, e.hok, e.bare⟩
  have hl := F.len _ _ _ _ sp
  have bd : BindsTo s fd ⟨[.ref a, v], []⟩ (ps.zip ([.ref a, v] ++ [])) := hb s [.ref a, v] I.kIn (by simpa using hl)
  rw [List.append_nil] at bd
  refine wpAny_call (codeAny_mono (F.run A X.stack s H ⟨[.ref a, v], []⟩ [.ref a, v] [.ref a, y] _ E sb.room e0 bd (.cons rfl (.cons ry .nil)) sp) fun r s' hq => ?_)
  rcases r with e | fl
  · exact hx pins σ H s e s' I hq
  · cases fl with
    | ret w =>
      obtain ⟨z, H', I', rz, ez, eH⟩ := I.after hq
      subst ez eH
      exact ⟨rz, I'⟩
    | next => exact hq.elim
    | brk => exact hq.elim
    | cont => exact hq.elim
theorem rcB_own (F : FnOk X.prog X.w X.K X.mg X.base CX n f fd ps (spEqB R)) (O : OwnE X.K C f) (hb : Binds X.K fd ps []) (hx : Passes CX X E) : RcB X n .Eq (DIn X.K C R) := by
  intro A pins s σ H x y u v b sb I rx ry d
  obtain ⟨a, dx, fs, t, rfl, ha, ty, nf, r⟩ := d
  cases rx
  obtain ⟨mA, J, _⟩ := ins_get I.hok ha
  obtain ⟨od, J, _⟩ := J.look
  obtain ⟨m, hF⟩ := I.fr
  obtain ⟨P, Z, p, _⟩ := kit_of I ry ty
  refine PySem.W.cmp_K (op := .Eq) (tb := t) sb.room.units0 hF I.ok.mod.kin J (Z.ty _ _ I.kIn p) nf O.eq O.fn ?_
  refine wpAny_mono (own_call F hb hx sb I ry r) (fun z s' hz => ?_) fun _ _ z => z
  obtain ⟨rfl, I'⟩ := hz
  exact ⟨rfl, I'⟩
/-- != asks the own __eq__ and turns its answer about -/
theorem rcB_ownNe (F : FnOk X.prog X.w X.K X.mg X.base CX n f fd ps (spEqB R)) (O : OwnE X.K C f) (hb : Binds X.K fd ps []) (hx : Passes CX X E) : RcB X (n + 1) .NotEq (fun x y H b => DIn X.K C R x y H (!b)) := by
  intro A pins s σ H x y u v b sb I rx ry d
  obtain ⟨a, dx, fs, t, rfl, ha, ty, nf, r⟩ := d
  cases rx
  obtain ⟨mA, J, _⟩ := ins_get I.hok ha
  obtain ⟨od, J, _⟩ := J.look
  obtain ⟨P, Z, p, _⟩ := kit_of I ry ty
  have kin := I.kIn
  have sub : PySem.W.Looks (model X.prog X.w) s.heap (isInstance (.ref a) (.type "object")) true := J.type.andThen (PySem.W.looks_subIn kin O.ob)
  refine rc_try (C := C) (t := t) sb.room.units0 kin J (Z.ty _ _ kin p) nf ?_
  unfold tryCompare
  refine wpAny_bind (bound_slot (id := "object.__ne__") kin J O.ne PySem.F.cmp_object.ne.bind (wpAny_call (codeAny_call_builtin PySem.F.cmp_object.ne.plain PySem.F.cmpEntry_ne (PySem.W.check_slot PySem.F.cmpKind_ne PySem.F.cmpSplit_ne sub (PySem.F.cmpArgs_ne _ _) ?_))))
  unfold Builtin.«object.__ne__»
  have ask := own_call (A := A.in1) F hb hx ⟨sb.room.in1, sb.fr⟩ I ry r
  refine wpAny_bind (wpAny_of_eq (a := ((Value.ref a : Value), [v])) (by first | rfl | (simp only [Builtin.slotArgs]; rfl)) ?_)
  refine wpAny_bind (wpAny_cRoomFor sb.room.in1.units0 (wpAny_bind (PySem.W.ifBound_K kin J O.eq O.fn (wpAny_mono ask (fun z s' hz => ?_) fun _ _ e => e))))
  obtain ⟨rfl, I'⟩ := hz
  refine wpAny_bind (wpAny_truthy_bool (wpAny_pure ?_))
  rw [Bool.not_not]
  exact wpAny_pure ⟨_, rfl, rfl, I'⟩
end
/-! ### as expressions, and inside a tuple -/
section
variable {X : Cx} {n : Nat} {D : Eqd} {op : CmpOp}
def rEqB (D : Eqd) : R2 := fun x y H Q => ∃ b, D x y H b ∧ Q (.bl b) H
theorem op_rcB (h : RcB X n op D) (hr : Room n X.A) (he : ∀ u v, compareOp op u v = richCompare op u v := by intro _ _; rfl) : OpR X (compareOp op) (rEqB D) := by
  intro pins s σ H x y u v Q I rx ry hq
  obtain ⟨b, d, q⟩ := hq
  rw [he]
  refine wpAny_mono (h X.A pins s σ H x y u v b ⟨hr, rfl⟩ I rx ry d) (fun r s' z => ?_) fun _ _ e => e
  obtain ⟨rfl, I'⟩ := z
  exact ⟨.bl b, H, I', rfl, q⟩
/-- inside a list or tuple: the very same object, or what D says -/
def DId (D : Eqd) : Eqd := fun x y H b => (∃ a c : Addr, x = .ref a ∧ y = .ref c ∧ ((a = c ∧ b = true) ∨ (a ≠ c ∧ D x y H b)))
theorem eqB_of (h : RcB X n .Eq D) : EqB X n (DId D) := by
  intro A pins s σ H x y u v b sb I rx ry d
  obtain ⟨a, c, rfl, rfl, d⟩ := d
  cases rx
  cases ry
  rcases d with ⟨rfl, rfl⟩ | ⟨ne, d⟩
  · exact SeqAt.EqAt.same (A := A) (s := s) (.ref a) X.prog X.w X.xe _ ⟨rfl, I⟩
  · refine GQ.eqBool_refG ne (wpAny_mono (h A pins s σ H (.ref a) (.ref c) _ _ b sb I rfl rfl d) (fun r s' z => ?_) fun _ _ e => e)
    exact ⟨b, z.1, rfl, z.2⟩
theorem eqB_flat : EqB X 0 (fun x y _ b => flatV x = true ∧ flatV y = true ∧ eqV x y = b) := by
  intro A pins s σ H x y u v b sb I rx ry d
  obtain ⟨fx, fy, e⟩ := d
  have q := eqAt_V (A := A) (s := s) rx ry fx fy
  rw [e] at q
  exact q X.prog X.w X.xe _ ⟨rfl, I⟩
/-- item by item, as far as it goes; then the lengths -/
inductive EqL (D : Eqd) (H : Hp) : List V → List V → Bool → Prop
  | nil : EqL D H [] [] true
  | left {y : V} {ys : List V} : EqL D H [] (y :: ys) false
  | right {x : V} {xs : List V} : EqL D H (x :: xs) [] false
  | go {x y : V} {xs ys : List V} {b : Bool} : D x y H true → EqL D H xs ys b → EqL D H (x :: xs) (y :: ys) b
  | stop {x y : V} {xs ys : List V} : D x y H false → EqL D H (x :: xs) (y :: ys) false
end
end Eld
end L2

set_option Elab.async false
set_option linter.all false
set_option maxRecDepth 100000
set_option maxHeartbeats 4000000
/-! ## == of two tuples whose items are equal, or not, by EqL -/
namespace L2
namespace Eld
open PySem PySem.Spec PyProof.Rows PySem.EldX PySem.SeqAt
open AutoSeq1 (wpAny_loadPart')
open MeetsSeq MeetsSeq2 MeetsSeq3 SeqRoads2
section
variable {X : Cx} {n : Nat} {D : Eqd}
theorem tup_walk (h : EqB X n D) {A : Around} (sb : Sub X (n + 1) A) {pins : List (Addr × Obj)} {σ : St} {H : Hp} {xs ys : List V} {b : Bool} {R : Result → Shared → Prop} {l m : Addr} {its its2 : List Value} {k k2 : Nat} {dd dd2 : Option Addr} {sl sl2 : Array (Option Value)} {s : Shared}
    (eq : EqL D H xs ys b) (rx : Vals xs its) (ry : Vals ys its2) (I : Inv X pins σ H s) (hl : s.heap.get? l = some { cls := .type "tuple", dict := dd, data := .seq its.toArray k, slots := sl }) (hm : s.heap.get? m = some { cls := .type "tuple", dict := dd2, data := .seq its2.toArray k2, slots := sl2 })
    (hE : ∀ e s', X.xe e s' → R (.error e) s') (fin : ∀ s', Inv X pins σ H s' → R (.ok (.ret (.bool b))) s') :
    wpAny (model X.prog X.w) A.in1 (Builtin.«tuple.__eq__» ⟨[.ref l, .ref m], []⟩) (GQ.FinOf X.prog X.w A R) (fun e s' => R (.error e) s') s := by
  have f2 := AutoSeq1.sub_tuple_tuple
  have I0 := I
  obtain ⟨hp, g, d, tk, os⟩ := s
  wp_walk using wpAny_loadPart' hl, wpAny_loadPart' hm, wpAny_forIn_list _ (fun rest a s' => a.1 = none ∧ ∃ (xs' ys' : List V) (us vs : List Value), rest = us.zip vs ∧ Vals xs' us ∧ Vals ys' vs ∧ EqL D H xs' ys' b ∧ its.length + vs.length = its2.length + us.length ∧ Inv X pins σ H s') _
  case turn =>
    rintro ⟨u, v⟩ rest a s' ⟨ha, xs', ys', us, vs, hz, r1, r2, e, len, J⟩
    cases r1 with
    | nil => cases hz
    | @cons x xs2 u1 us1 q1 t1 =>
      cases r2 with
      | nil => cases hz
      | @cons y ys2 v1 vs1 q2 t2 =>
        rw [List.zip_cons_cons] at hz
        injection hz with hz1 hz2
        injection hz1 with e1 e2
        subst e1 e2
        cases e with
        | go d1 d2 =>
          refine wpAny_bind (wpAny_mono (h A.in1 pins s' σ H x y u v true sb.in1 J q1 q2 d1) (fun r s2 z => ?_) fun e s2 z => hE e s2 z)
          obtain ⟨rfl, J2⟩ := z
          wp_walk
          exact ⟨rfl, _, _, us1, vs1, hz2, t1, t2, d2, by simp only [List.length_cons] at len; omega, J2⟩
        | stop d1 =>
          refine wpAny_bind (wpAny_mono (h A.in1 pins s' σ H x y u v false sb.in1 J q1 q2 d1) (fun r s2 z => ?_) fun e s2 z => hE e s2 z)
          obtain ⟨rfl, J2⟩ := z
          have q := fin s2 J2
          wp_walk
          exact q
  case fin =>
    rintro ⟨a1, a2⟩ s' ⟨ha, xs', ys', us, vs, hz, r1, r2, e, len, J⟩
    simp only at ha
    subst ha
    have q := fin s' J
    have hb : (its.toArray.size == its2.toArray.size) = b := by
      rw [List.size_toArray, List.size_toArray]
      cases r1 with
      | nil =>
        cases r2 with
        | nil =>
          cases e
          simp only [List.length_nil, Nat.add_zero] at len
          simp [len]
        | cons _ _ =>
          cases e
          simp only [List.length_nil, List.length_cons] at len
          simp only [beq_eq_false_iff_ne]
          omega
      | cons _ _ =>
        cases r2 with
        | nil =>
          cases e
          simp only [List.length_nil, List.length_cons] at len
          simp only [beq_eq_false_iff_ne]
          omega
        | cons _ _ => cases hz
    wp_walk
    show R (.ok (.ret (.bool (its.toArray.size == its2.toArray.size)))) s'
    rw [hb]
    exact q
  case h =>
    exact ⟨rfl, xs, ys, its, its2, by simp, rx, ry, eq, by omega, I0⟩
/-- == of tuples -/
def DTu (K : PySem.W.Frag) (D : Eqd) : Eqd := fun x y H b => ∃ (a c : Addr) (xs ys : List V), x = .ref a ∧ y = .ref c ∧ SqT K H a xs ∧ SqT K H c ys ∧ EqL D H xs ys b
theorem rcB_tup (h : EqB X n D) : RcB X (n + 1) .Eq (DTu X.K D) := by
  intro A pins s σ H x y u v b sb I rx ry d
  obtain ⟨a, c, xs, ys, rfl, rfl, ha, hc, eq⟩ := d
  cases rx
  cases ry
  obtain ⟨its, r1, ⟨⟨cls, dd, data, sl⟩, ho, k1, n1, k2⟩, z⟩ := I.tuple ha
  obtain ⟨its2, r2, ⟨⟨cls2, dd2, data2, sl2⟩, ho2, k3, n2, k4⟩, z2⟩ := I.tuple hc
  simp only at k1 k2 k3 k4
  subst k1 k2 k3 k4
  refine wpAny_richCompare_same_room (op := .Eq) ⟨_, ho, rfl⟩ ⟨_, ho2, rfl⟩ PySem.F.slot_tuple_eq (GQ.call_here PySem.F.slot_tuple_eq ⟨_, ho, rfl⟩ PySem.F.entry_tuple_eq (PySem.F.args_tuple_eq_2 _ _) ?_) sb.room.units0
  exact tup_walk h sb eq r1 r2 I ho ho2 (fun _ _ z => z) fun s' J => ⟨(fun z => nomatch z), rfl, J⟩
end
end Eld
end L2

set_option Elab.async false
set_option linter.all false
set_option maxRecDepth 100000
set_option maxHeartbeats 4000000
/-! ## len by an own __len__; a statement that is never reached -/
namespace L2
namespace Eld
open PySem PySem.Spec PyProof.Rows PySem.EldX
section
variable {X : Cx} {n : Nat} {CX : CXT} {C f : Addr} {fd : FuncData} {ps : List Str} {sp : Sp} {E : XK}
def rLenOwn (C : Addr) (sp : Sp) (E : XK) : List V → Hp → VK → Prop := fun xs H Q => ∃ (a dx : Addr) (fs : List (Str × V)), xs = [.ref a] ∧ H a = some (.ins C dx fs) ∧
  sp [.ref a] H (fun v H' => ∃ i : Int, v = .int i ∧ (0 ≤ i ∧ i < 2 ^ 63) ∧ Q (.int i) H') E
theorem call_lenOwn (hs : PySem.W.findIn X.K (.ref C) "__len__" = some (some (.ref f))) (hf : PySem.W.isFn X.K (.ref f) = true) (F : FnOk X.prog X.w X.K X.mg X.base CX n f fd ps sp) (hr : Room (n + 1) X.A) (hb : Binds X.K fd ps []) (hx : Passes CX X.nox E) :
    CallR X (.builtin "len") (rLenOwn C sp E) := by
  intro pins s σ H xs us Q I r h
  obtain ⟨a, dx, fs, rfl, ha, q⟩ := h
  rw [Vals.ref1 r]
  obtain ⟨mA, J, _⟩ := ins_get I.hok ha
  obtain ⟨od, J, _⟩ := J.look
  obtain ⟨m, hF⟩ := I.fr
  have hl := F.len _ _ _ _ q
  have bd := hb s [Value.ref a] I.kIn (by simpa using hl)
  rw [List.append_nil] at bd
  refine PySem.W.len_K hF I.ok.mod.kin J hs hf (wpAny_call (codeAny_mono (F.run X.A.in1 X.stack s H ⟨[.ref a], []⟩ [.ref a] [.ref a] _ E hr.in1 I.env0.in1 bd (.cons rfl .nil) q) fun r s' hq => ?_))
  rcases r with e | fl
  · exact (hx pins σ H s e s' (I.wish _) hq).elim
  · cases fl with
    | ret u =>
      obtain ⟨v, H', I', rv, i, rfl, hi, q'⟩ := I.after hq
      obtain ⟨t, rfl⟩ := rv
      exact ⟨hi, .int i, H', I'.tok _, ⟨_, rfl⟩, q'⟩
    | next => exact hq.elim
    | brk => exact hq.elim
    | cont => exact hq.elim
/-- a statement that no reading reaches -/
theorem ps_dead (st : Stmt) : PS X st (fun _ _ _ => False) := ⟨fun _ _ _ _ _ _ h => h.elim⟩
theorem pss_dead (sts : List Stmt) : PSs X sts (fun _ _ _ => False) := ⟨fun _ _ _ _ _ _ h => h.elim⟩
theorem pe_dead (e : Expr) : PE X e (fun _ _ _ => False) := ⟨fun _ _ _ _ _ _ h => h.elim⟩
end
end Eld
end L2

set_option Elab.async false
set_option linter.all false
set_option maxRecDepth 100000
set_option maxHeartbeats 4000000
/-! ## ascending lists of texts -/
namespace L2
namespace Eld
open PySem PySem.Spec PyProof.Rows PySem.EldX
theorem str_ext {a b : Str} (h : a.cps.toList = b.cps.toList) : a = b := by
  obtain ⟨⟨x⟩⟩ := a
  obtain ⟨⟨y⟩⟩ := b
  cases (show x = y from h)
  rfl
theorem list_lt_asymm' : ∀ {x y : List Nat}, x < y → ¬ y < x := fun h h' => absurd (List.lt_trans h h') (List.lt_irrefl _)
theorem list_eq_of_not_lt : ∀ (x y : List Nat), ¬ x < y → ¬ y < x → x = y
  | [], [], _, _ => rfl
  | [], b :: y, h, _ => absurd (List.nil_lt_cons b y) h
  | a :: x, [], _, h => absurd (List.nil_lt_cons a x) h
  | a :: x, b :: y, h1, h2 => by
    rcases Nat.lt_trichotomy a b with l | rfl | l
    · exact absurd (List.cons_lt_cons_iff.mpr (.inl l)) h1
    · rw [list_eq_of_not_lt x y (fun z => h1 (List.cons_lt_cons_iff.mpr (.inr ⟨rfl, z⟩))) fun z => h2 (List.cons_lt_cons_iff.mpr (.inr ⟨rfl, z⟩))]
    · exact absurd (List.cons_lt_cons_iff.mpr (.inl l)) h2
/-- not above -/
def LeS (a b : Str) : Prop := ltCps b.cps.toList a.cps.toList = false
theorem LeS.anti {a b : Str} (h : LeS a b) (h' : LeS b a) : a = b := by
  unfold LeS at h h'
  rw [ltCps_eq] at h h'
  exact str_ext (list_eq_of_not_lt _ _ (of_decide_eq_false h') (of_decide_eq_false h))
theorem LeS.trans {a b c : Str} (h : LeS a b) (h' : LeS b c) : LeS a c := by
  unfold LeS at h h' ⊢
  rw [ltCps_eq] at h h' ⊢
  have h := of_decide_eq_false h
  have h' := of_decide_eq_false h'
  refine decide_eq_false fun z => ?_
  have l1 : a.cps.toList ≤ b.cps.toList := h
  have l2 : b.cps.toList ≤ c.cps.toList := h'
  exact (List.le_trans l1 l2) z
theorem pairwise_of_sortedS : ∀ (l : List Str), sortedS l = true → l.Pairwise LeS
  | [], _ => .nil
  | x :: l, h => by
    have key : ∀ (x : Str) (l : List Str), risingS x l = true → (x :: l).Pairwise LeS := by
      intro x l
      induction l generalizing x with
      | nil => intro _; exact List.pairwise_singleton _ _
      | cons y l ih =>
        intro h
        have h : (!ltCps y.cps.toList x.cps.toList && risingS y l) = true := h
        rw [Bool.and_eq_true, Bool.not_eq_true'] at h
        have p := ih y h.2
        refine List.Pairwise.cons (fun z hz => ?_) p
        rcases List.mem_cons.mp hz with rfl | hz
        · exact h.1
        · exact LeS.trans h.1 ((List.pairwise_cons.mp p).1 z hz)
    exact key x l h
/-- an ascending list is told by its members -/
theorem sorted_eq : ∀ {xs ys : List Str}, xs.Perm ys → sortedS xs = true → sortedS ys = true → xs = ys := by
  intro xs ys p h h'
  exact p.eq_of_pairwise (le := LeS) (fun a b _ _ q q' => LeS.anti q q') (pairwise_of_sortedS xs h) (pairwise_of_sortedS ys h')
theorem sorted_mem_eq {xs ys : List Str} (n : xs.Nodup) (n' : ys.Nodup) (m : ∀ x, x ∈ xs ↔ x ∈ ys) (h : sortedS xs = true) (h' : sortedS ys = true) : xs = ys :=
  sorted_eq ((List.perm_ext_iff_of_nodup n n').mpr m) h h'
end Eld
end L2

set_option Elab.async false
set_option linter.all false
set_option maxRecDepth 100000
set_option maxHeartbeats 4000000
/-! ## list(reversed(l)), d.update(e), y = {..} -/
namespace RT
open PySem PySem.Spec PyProof.Rows PySem.W
section
variable {prog : Program} {w : World} {A : Around} {E : Value → Shared → Prop} {s : Shared}
theorem call_list_rev {it l : Addr} {items : Array Value} {Q : Value → Shared → Prop} (hh : A.handled = none) (hit : s.heap.IsRevIter it l ((items.size : Int) - 1)) (hl : s.heap.IsList l items) (hne : l ≠ it) (hn : items.size ≤ sizeLine)
    (hQ : ∀ (h' : Heap) (tk : Nat) (acc : Array Value) c', (∀ b o, b ≠ it → s.heap.get? b = some o → h'.get? b = some o) → h'.get? s.heap.objs.size = some { cls := .type "list", dict := none, data := .seq acc c', slots := #[] } → ItemsOf (fun i v => items[items.size - 1 - i]? = some v) acc items.size → Q (.ref s.heap.objs.size) { s with heap := h', toks := tk }) :
    wpAny (model prog w) A (call (.type "list") [.ref it]) Q E s := by
  refine callType_codes (Q₁ := fun obj s₁ => obj = .ref s.heap.objs.size ∧ s₁ = { s with heap := s.heap.push { cls := .type "list", data := .seq #[] } }) PySem.F.called_list (PySem.F.typeCall_list_1 _) PySem.F.entry_list_init
    (code_list_new _ ⟨rfl, rfl⟩) fun obj s₁ h₁ => ?_
  obtain ⟨rfl, rfl⟩ := h₁
  have hS : (s.heap.push { cls := .type "list", data := .seq #[] }).get? s.heap.objs.size = some { cls := .type "list", data := .seq #[] } := Heap.get?_push_size _ rfl
  obtain ⟨oi, hoi, _⟩ := id hit
  obtain ⟨ol, hol, _⟩ := id hl
  have hSi : s.heap.objs.size ≠ it := Nat.ne_of_gt (Heap.lt_size hoi)
  have hSl : s.heap.objs.size ≠ l := Nat.ne_of_gt (Heap.lt_size hol)
  have hSf : s.heap.objs.size ∉ [it, l] := by simp only [List.mem_cons, List.not_mem_nil, or_false, not_or]; exact ⟨hSi, hSl⟩
  have hh1 : A.in1.in1.handled = none := hh
  have W := (Walks.listRev (prog := prog) (w := w) (A := A.in1.in1) hh1 it l hne items).toS
  refine ⟨⟨_, hS, rfl⟩, PySem.F.args_list_init_2 _ _, ?_⟩
  show wpAny _ _ (do let old ← Builtin.List.listItems (.ref s.heap.objs.size); Builtin.List.listUpdate (.ref s.heap.objs.size) (fun _ => #[]); letGo old.toList.reverse; Builtin.List.listExtendWith (.ref s.heap.objs.size) (.ref it) .none) _ _ _
  refine wpAny_bind ?_
  unfold Builtin.List.listItems
  refine wpAny_bind (wpAny_seqItems hS rfl (wpAny_pure ?_))
  show wpAny _ _ (updateSeq s.heap.objs.size (fun _ => #[]) >>= fun _ => letGo (#[] : Array Value).toList.reverse >>= fun _ => Builtin.List.listExtendWith (.ref s.heap.objs.size) (.ref it) .none) _ _ _
  refine wpAny_bind (wpAny_updateSeq hS rfl ?_)
  have hS₁ := Heap.get?_update_self (Obj.mapSeq (fun _ => (#[] : Array Value))) hS rfl
  have oth : ∀ b o, b ≠ s.heap.objs.size → s.heap.get? b = some o → ((s.heap.push { cls := .type "list", data := .seq #[] }).update s.heap.objs.size (Obj.mapSeq (fun _ => (#[] : Array Value)))).get? b = some o :=
    fun b o hb e => (Heap.get?_update_other _ _ (Ne.symm hb)).trans (Heap.get?_push_of_some _ e)
  refine wpAny_bind (wpAny_letGo ?_)
  generalize hG : (s.heap.push { cls := .type "list", data := .seq #[] }).update s.heap.objs.size (Obj.mapSeq (fun _ => (#[] : Array Value))) = G at hS₁ oth ⊢
  have hit1 : G.IsRevIter it l ((items.size : Int) - 1) := hit.at fun o e => oth _ o (Ne.symm hSi) e
  have hl1 : G.IsList l items := hl.at fun o e => oth _ o (Ne.symm hSl) e
  have hT : ({ s with heap := G } : Shared).TypeIs (.ref it) "list_reverseiterator" := Heap.IsRevIter.typeIs (s := { s with heap := G }) hit1
  have h1 : Builtin.List.listSameRef (.ref s.heap.objs.size) (.ref it) = false := by simp [Builtin.List.listSameRef, hSi]
  unfold Builtin.List.listExtendWith
  refine wpAny_bind (wpAny_typeOf hT ?_)
  rw [if_neg (by rw [h1]; decide)]
  refine wpAny_bind (wpAny_pyIter_revIter (s := { s with heap := G }) hit1 ?_)
  refine wpAny_bind (wpAny_holding ?_)
  unfold Builtin.List.listLengthHint
  refine wpAny_bind (wpAny_specialOf hT nolen_lri ?_)
  show wpAny _ _ (specialOf (Value.ref it) (Str.ofString "__length_hint__") >>= _) _ _ _
  refine wpAny_bind (wpAny_specialOf hT hint_lri ?_)
  generalize hid : ("list_reverseiterator.__length_hint__" : String) = id0
  wp_delta
  rw [show splitId id0 = some ("list_reverseiterator", "__length_hint__") from by subst hid; decide +kernel]
  subst hid
  refine wpAny_bind (wpAny_isInstance (b := true) hT (by rw [isSubtype_type]; kernel_rfl) ?_)
  refine wpAny_pure ?_
  rw [if_neg (by decide)]
  have e0 : ((items.size : Nat) : Int) - 1 - ((0 : Nat) : Int) = (items.size : Int) - 1 := by omega
  refine wpAny_pure ⟨plainId_quiet F.plain_extend_loop _, codeAny_extend_loopS W hn _ hSf _ items.size 0 _ _ _ rfl (Nat.zero_le _) ⟨Nat.zero_le _, by rw [e0]; exact hit1, hl1⟩ hS₁ (ItemsOf.nil _) fun s' acc' c' hm hS' hacc => ?_⟩
  rw [Moved.eq_with hm]
  refine ⟨rfl, hQ s'.heap s'.toks acc' c' (fun b o hb e => hm.heap b o (fun hmem => ?_) (oth b o (Nat.ne_of_lt (Heap.lt_size e)) e)) hS' hacc⟩
  rcases List.mem_cons.mp hmem with e' | hmem
  · exact absurd (Heap.lt_size e) (by rw [e']; exact Nat.lt_irrefl _)
  · exact hb (List.mem_singleton.mp hmem)
end
end RT
namespace L2
open PySem PySem.Spec PyProof.Rows
/-- list(reversed(x)), x a list: a new list -/
def tListRev (K : PySem.W.Frag) (te : TE) : TE := fun σ H Q => te σ H fun v H1 => ∃ (a : Addr) (xs : List V), v = .ref a ∧ SqL K H1 a xs ∧ ∀ q, H1 q = none → Q (.ref q) (upd H1 q (.lst xs.reverse))
theorem pe_listRev {X : Cx} {e : Expr} {te : TE} {p p2 pos pos2 : Pos} (hc : X.calm = true) (hg : Gl X "list") (hm : X.mg "list" = none) (hg2 : Gl X "reversed") (hm2 : X.mg "reversed" = none) (he : PE X e te)
    (hs : starEach [e] X.env = (false, eval e X.env) :: starEach [] X.env := by rfl)
    (hs2 : starEach [.Call (.Name "reversed" p2) [e] [] pos2] X.env = (false, eval (.Call (.Name "reversed" p2) [e] [] pos2) X.env) :: starEach [] X.env := by rfl) :
    PE X (.Call (.Name "list" p) [.Call (.Name "reversed" p2) [e] [] pos2] [] pos) (tListRev X.K te) := by
  refine ⟨fun pins s σ H Q I h => ?_⟩
  refine Call_ (ld_blt I hg hm boot_list (PyProof.Rows.callWith_type1 (args_cons (Call_ (ld_blt I hg2 hm2 PyProof.Rows.boot_reversed (PyProof.Rows.callWith_type1 (args_cons (thn (he.run pins s σ H _ I h) fun u s1 ⟨v, H1, I1, r1, q1⟩ => args_nil ?_) hs) hs rfl))) hs2) hs2 rfl))
  obtain ⟨a, xs, ev, hq, q⟩ := q1
  subst ev
  obtain rfl : u = Value.ref a := r1
  obtain ⟨its, rv, p', hz⟩ := I1.list hq
  refine call_reversed_list p'.isList (args_nil ?_)
  have k0 : ∀ b o, s1.heap.get? b = some o → (s1.heap.push (revObj a ((its.toArray.size : Int) - 1))).get? b = some o := fun b o e => Heap.get?_push_of_some _ e
  have I2 : Inv X pins σ H1 { s1 with heap := s1.heap.push (revObj a ((its.toArray.size : Int) - 1)) } := I1.kept (t' := s1.toks) k0
  obtain ⟨f0, f1, f2, f3, f4, f5⟩ := I1.fpOk (H' := H1) (b := s1.heap.objs.size) (Nat.le_refl _) (I1.hok.fresh (Nat.le_refl _))
  have hl := p'.isList
  obtain ⟨ol, hol, _⟩ := id hl
  have hne : a ≠ s1.heap.objs.size := Nat.ne_of_lt (Heap.lt_size hol)
  have hn : its.toArray.size ≤ sizeLine := by rw [List.size_toArray, ← rv.length]; exact hz
  refine RT.call_list_rev (s := { s1 with heap := s1.heap.push (revObj a ((its.toArray.size : Int) - 1)) }) (I1.ok.hd hc) ⟨_, Heap.get?_push_size _ rfl, rfl, rfl⟩ (hl.push _) hne hn fun h' tk acc c' hk hD hi => ?_
  have hD' : h'.get? (s1.heap.push (revObj a ((its.toArray.size : Int) - 1))).objs.size = some { cls := .type "list", dict := none, data := .seq acc c', slots := #[] } := hD
  have ok : ObjOk X.prog X.w (upd H1 (s1.heap.push (revObj a ((its.toArray.size : Int) - 1))).objs.size (.lst xs.reverse)) h' (s1.heap.push (revObj a ((its.toArray.size : Int) - 1))).objs.size (.lst xs.reverse) :=
    ⟨by rw [List.length_reverse]; exact hz, acc.toList, c', RT.vals_rev rv hi, by rw [Array.toArray_toList]; exact hD'⟩
  have le : s1.heap.objs.size ≤ (s1.heap.push (revObj a ((its.toArray.size : Int) - 1))).objs.size := by
    rw [Heap.size_push]
    exact Nat.le_succ _
  exact ⟨.ref _, upd H1 _ (.lst xs.reverse), I1.laid (t' := tk) (fun b o e => hk b o (Nat.ne_of_lt (Heap.lt_size e)) (Heap.get?_push_of_some _ e)) le ok, rfl, q _ (I1.hok.fresh le)⟩
/-! ### d.update(e) -/
def rDUpd : V → List V → Hp → VK → Prop := fun x vs H Q => ∃ (a b : Addr) (ks ls : List (Key × V)), x = .ref a ∧ vs = [.ref b] ∧ H a = some (.dK ks) ∧ H b = some (.dK ls) ∧ a ≠ b ∧ ks.length + ls.length ≤ sizeLine ∧ Q .non (upd H a (.dK (mergeK ks ls)))
theorem mt_dupdate {X : Cx} : MtR X "dict.update" rDUpd := by
  intro pins s σ H x vs v us Q I rx rv h
  obtain ⟨a, b, ks, ls, ex, ev, ea, eb, ne, hz, q⟩ := h
  subst ex
  subst ev
  obtain rfl : v = Value.ref a := rx
  obtain ⟨u, eu, ru⟩ := vals1 rv
  subst eu
  obtain rfl : u = Value.ref b := ru
  obtain ⟨z1, hd1, vs1, rel1, dd1⟩ := dk_of I.hok ea
  obtain ⟨z2, hd2, vs2, rel2, dd2⟩ := dk_of I.hok eb
  refine call_meetsIn PySem.F.slot_dict_update dd1.typeIs PySem.F.entry_dict_update (PySem.F.args_dict_update_2 _ _) (meets_dict_update (mixKind X.prog X.w) a b ne hd2)
    ⟨vs1, vs2, dd1, dd2, (by rw [← rel1.length, ← rel2.length]; exact hz), fun h' dm _ hs => ?_⟩
  have he : ∃ q, h'.get? a = some q := let ⟨q, _, _, hq, _⟩ := dm; ⟨q, hq⟩
  have hl : (mergeK ks ls).length ≤ sizeLine := Nat.le_trans (length_mergeK ls ks) hz
  exact ⟨.non, _, d_write I (by rw [ea]; exact True.intro) hs he (dk_new hl hd1 (KV.merge rel2 rel1) dm), rfl, q⟩
/-! ### y = {k: v for ..}, the name a local -/
theorem ps_setDc {X : Cx} {i : Nat} {y : Str} {py : Pos} {kx vx tg iter : Expr} {ifs : List Expr} {scope : Scope} {own : List (Str × Nat)} {pos spos : Pos} {wi : TI} {g : TG} {tt : TT} {tk tv : TE} (hc : X.calm = true) (hN : X.N.Nodup) (hy : X.N[i]? = some y) (hyl : X.env.scope.names.lookup y = some .local)
    (hsw : swapsWith (.DictComp kx vx [⟨tg, iter, ifs, 0⟩] scope pos) (some (.Name y py)) spos.line X.env = pure true) (hi : PI X tg iter wi) (ok : BlkOk X.N X.env.scope scope own)
    (hg : ∀ (s : Shared) (H : Hp) (C : Addr) (cl : List (Str × Addr)) (fp : List Addr), PG (X.blk s H scope (compEnvC scope cl C X.env) fp) tg g) (ht : ∀ (s : Shared) (H : Hp) (C : Addr) (cl : List (Str × Addr)) (fp : List Addr), PTs (X.blk s H scope (compEnvC scope cl C X.env) fp) ifs tt)
    (hk : ∀ (s : Shared) (H : Hp) (C : Addr) (cl : List (Str × Addr)) (fp : List Addr), PE (X.blk s H scope (compEnvC scope cl C X.env) fp) kx tk)
    (he : ∀ (s : Shared) (H : Hp) (C : Addr) (cl : List (Str × Addr)) (fp : List Addr), PE (X.blk s H scope (compEnvC scope cl C X.env) fp) vx tv) (hs : ∀ x, foldedSetIterable iter X.env x = pure x := by intro _; rfl) :
    PS X (.Assign [.Name y py] (.DictComp kx vx [⟨tg, iter, ifs, 0⟩] scope pos) spos) (tAsg (tDc wi g tt tk tv (own.map (·.2))) (gName i)) := by
  refine ⟨fun pins s σ H D I h => ?_⟩
  rw [exec_Assign_Name_used _ _ _ _ hsw]
  refine wpAny_bind (wpAny_standAt (wpAny_bind ?_))
  show wpAny _ X.A (do let _ ← comprehension (.DictComp kx vx [⟨tg, iter, ifs, 0⟩] scope pos) scope X.env (firstIterPos [⟨tg, iter, ifs, 0⟩] pos) newDict false (eval iter X.env) (some (assign (.Name y py) X.env))) _ _ s
  have h : tDc wi g tt tk tv (own.map (·.2)) σ H (fun x H1 => gName i x σ H1 D.nx) := h
  refine wpAny_bind (thn (dc_core (Qf := fun _ s' => SP X pins D .next s') hc hN I hi ok hg ht hk he hs h fun L C s' m H' I' q hn f => ?_) fun _ s' hq => wpAny_pure (wpAny_pure hq))
  show wpAny _ _ (assign (.Name y py) X.env (.ref L)) _ _ _
  refine wpAny_assign_Name (store_ok2 (v := V.ref L) I' hN hy (.inl hyl) rfl (fun s2 I2 ⟨a, sb, ha⟩ => ?_) (.inr hyl))
  obtain ⟨f0, f1, f2, f3, f4, f5⟩ := f
  have haC : C ≠ a := by
    rcases ha with z | z
    · rw [z]; exact f1
    · exact fun e => f4 y a z e.symm
  refine ⟨m, hn.sameBut sb haC, fun h3 sb3 => ?_⟩
  exact ⟨_, H', I2.turned (t' := s2.toks) (fun b o hb e => (sb3.2 b hb).trans e) f0 f1 f3 f4 f5, q⟩
theorem sw_trueD {kx vx : Expr} {gs : List Comprehension} {scope : Scope} {pos py : Pos} {y : Str} {l : Nat} {env : Env} (hk : env.scope.kind = .function) (hy : env.scope.names.lookup y = some .local) (hl : (py.line == pos.line) = true)
    (ha : (scope.names.any fun (n, k) => n == y && (k == .local || k == .cell)) = false) : swapsWith (.DictComp kx vx gs scope pos) (some (.Name y py)) l env = pure true := by
  have ky : env.kindOf y = some .local := hy
  have hb : env.blockKind = .function := by unfold Env.blockKind; rw [hk]; rfl
  unfold swapsWith
  simp only [hb, ky, ha, Expr.pos, hl]
  rfl
end L2

set_option Elab.async false
set_option linter.all false
set_option maxRecDepth 100000
set_option maxHeartbeats 4000000
/-! ## d.get(k, x) where k may be None and d's keys are texts and numbers -/
namespace L2
namespace Eld
open PySem PySem.Spec PyProof.Rows PySem.EldX
theorem leaf_map {prog : Program} {w : World} {h : Heap} {a : Addr} {f : Key → Option Value} (m : h.MapOf (mixKind prog w) a f) : ∃ g, h.MapOf (leafKind prog w) a g ∧ g .none = none := by
  obtain ⟨o, es, ep, h1, h2, h3, h4, _⟩ := m
  have sh : ∀ e ∈ es, (∃ i t, e.key = Value.int i t ∧ e.hash = hashInt i) ∨ ∃ x t, e.key = Value.str x t ∧ e.hash = hashStr w x := fun e he => by
    obtain ⟨k, hk, eh⟩ := h4 e he
    rcases keyIs_shape hk with ⟨i, t, rfl, ev⟩ | ⟨x, t, rfl, ev⟩
    · exact .inl ⟨i, t, ev, eh⟩
    · exact .inr ⟨x, t, ev, eh⟩
  refine ⟨fun k => findBy (leafKind prog w).is es k, ⟨o, es, ep, h1, h2, h3, fun e he => ?_, fun k => rfl⟩, ?_⟩
  · rcases sh e he with ⟨i, t, ev, eh⟩ | ⟨x, t, ev, eh⟩
    · exact ⟨.num i, by rw [ev]; show decide (i = i) = true; exact decide_eq_true rfl, eh⟩
    · exact ⟨.text x, by rw [ev]; exact keyIs_str x t, eh⟩
  · unfold findBy
    rw [Option.map_eq_none_iff, Array.find?_eq_none]
    intro e he
    rcases sh e he with ⟨i, t, ev, _⟩ | ⟨x, t, ev, _⟩
    · rw [ev]
      exact Bool.false_ne_true
    · rw [ev]
      exact Bool.false_ne_true
def tDGetN (td ty tx : TE) : TE := fun σ H Q => td σ H fun x H1 => ∃ a, x = .ref a ∧ IsD H1 a ∧ ty σ H1 fun y H2 => tx σ H2 fun z H3 => (∃ o, DGet H3 a y o ∧ Q (o.getD z) H3) ∨ (y = .non ∧ (∃ kvs, Rd H3 a (.dK kvs)) ∧ Q z H3)
section
variable {X : Cx} {o e f : Expr} {apos cpos : Pos} {td ty tx : TE}
theorem pe_dgetN (hu : X.A.units + 1 < cLine) (ho : PE X o td) (he : PE X e ty) (hf : PE X f tx) (m : M2 X o "get" apos e f cpos) : PE X (.Call (.Attribute o "get" apos) [e, f] [] cpos) (tDGetN td ty tx) := by
  refine ⟨fun pins s σ H Q I h => ?_⟩
  refine wpAny_Call_method m.base m.few m.line PySem.F.plainAttrs_dict PySem.F.slot_dict_get PySem.F.type_dict_get (thn (ho.run pins s σ H _ I h) fun u s1 ⟨x, H1, I1, rx, a, ex, d, q1⟩ => ?_)
  subst ex
  obtain rfl : u = Value.ref a := rx
  obtain ⟨t1, t2, _⟩ := isD_at I1 d
  refine ⟨t1, t2, ?_⟩
  rw [m.trees]
  refine Calls.callWith_builtin rfl (Calls.evalArgs_plain (Calls.spliced_cons (thn (he.run pins s1 σ H1 _ I1 q1) fun iv s2 ⟨y, H2, I2, ry, q2⟩ =>
    Calls.spliced_cons (thn (hf.run pins s2 σ H2 _ I2 q2) fun fv s3 ⟨z, H3, I3, rz, q3⟩ => Calls.spliced_nil ?_))))
  rcases q3 with ⟨ov, g, q3⟩ | ⟨rfl, ⟨kvs, hk⟩, q3⟩
  · exact d_get2 hu I3 g ry rz fun w' s4 I4 rw' => ⟨_, H3, I4, rw', q3⟩
  · obtain rfl : iv = Value.none := ry
    obtain ⟨zz, hd, vs, rel, dd⟩ := dk_rd I3.hok hk
    obtain ⟨g, mg, gn⟩ := leaf_map dd.mapOf
    refine call_meetsIn PySem.F.slot_dict_get dd.typeIs PySem.F.entry_dict_get (PySem.F.args_dict_get_3 _ _ _) (meets_dict_get_default (leafKind X.prog X.w) a (k := .none) rfl hd fv) ⟨_, mg, z, H3, I3.tok _, ?_, q3⟩
    rw [gn]
    exact rz
end
end Eld
end L2

set_option Elab.async false
set_option linter.all false
set_option maxRecDepth 100000
set_option maxHeartbeats 4000000
/-! ## dict(zip(a, b)) of two lists of one length -/
namespace L2
namespace Eld
open PySem PySem.Spec PyProof.Rows PySem.EldX
theorem zip_rel {P : Program} {w : World} : ∀ {ks : List Key} {ys : List V} {us vs : List Value}, Vals (ks.map kV) us → Vals ys vs → KV (ks.zip ys) (ks.zip vs) ∧ ∀ (i : Nat) u v, us[i]? = some u → vs[i]? = some v → ∃ k, (ks.zip vs)[i]? = some (k, v) ∧ (mixKind P w).is k u = true
  | [], ys, us, vs, h1, h2 => by
    cases h1
    exact ⟨.nil, fun i u v e => by simp at e⟩
  | k :: ks, [], us, vs, h1, h2 => by
    cases h2
    exact ⟨.nil, fun i u v _ e => by simp at e⟩
  | k :: ks, y :: ys, us, vs, h1, h2 => by
    rw [List.map_cons] at h1
    cases h1 with
    | cons r1 t1 =>
      cases h2 with
      | cons r2 t2 =>
        obtain ⟨a, b⟩ := zip_rel (P := P) (w := w) t1 t2
        refine ⟨.cons ⟨rfl, r2⟩ a, fun i u v e1 e2 => ?_⟩
        cases i with
        | zero =>
          obtain rfl := Option.some.inj e1
          obtain rfl := Option.some.inj e2
          exact ⟨k, rfl, kV_is (P := P) (w := w) r1⟩
        | succ i => exact b i u v (by simpa using e1) (by simpa using e2)
def tDictZip (K : PySem.W.Frag) (ta : TA) : TE := fun σ H Q => ta σ H fun vs H1 => ∃ (a b : Addr) (ks : List Key) (ys : List V), vs = [.ref a, .ref b] ∧ SqL K H1 a (ks.map kV) ∧ SqL K H1 b ys ∧ ks.length = ys.length ∧ ∀ p, H1 p = none → Q (.ref p) (upd H1 p (.dK (mergeK [] (ks.zip ys))))
section
variable {X : Cx} {e e2 : Expr} {ta : TA} {p p2 pos pos2 : Pos}
theorem pe_dictZip (hc : X.calm = true) (hg : Gl X "dict") (hm : X.mg "dict" = none) (hv : bootBuiltins "dict" = some (.type "dict")) (hgz : Gl X "zip") (hmz : X.mg "zip" = none) (ha : PA X [e, e2] ta)
    (hsz : starEach [e, e2] X.env = (false, eval e X.env) :: starEach [e2] X.env := by rfl) (hpl : (backTo pos2 (starEach [e2] X.env)).any (·.1) = false := by rfl)
    (hs : starEach [.Call (.Name "zip" p2) [e, e2] [] pos2] X.env = (false, eval (.Call (.Name "zip" p2) [e, e2] [] pos2) X.env) :: starEach [] X.env := by rfl) :
    PE X (.Call (.Name "dict" p) [.Call (.Name "zip" p2) [e, e2] [] pos2] [] pos) (tDictZip X.K ta) := by
  refine ⟨fun pins s σ H Q I hq => ?_⟩
  refine wpAny_Call_Name_kw (ld_blt I hg hm hv ?_)
  refine PyProof.Rows.callWith_type1 ?_ hs rfl
  rw [hs]
  show wpAny _ _ (spliced ((false, eval (.Call (.Name "zip" p2) [e, e2] [] pos2) X.env) :: backTo pos (starEach [] X.env))) _ _ s
  refine Calls.spliced_cons ?_
  refine Call_ (ld_blt I hgz hmz PyProof.Rows.boot_zip (PyProof.Rows.callWith_type1 (thn (ha.run pos2 pins s σ H _ I hq) fun us s1 ⟨vs, H1, I1, r1, q1⟩ => ?_) hsz hpl))
  obtain ⟨a, b, ks, ys, ex, hqx, hqy, hl, q⟩ := q1
  subst ex
  cases r1 with
  | cons r rr =>
    cases rr with
    | cons r' rr =>
      cases rr
      cases r
      cases r'
      obtain ⟨its, rv, p1, _⟩ := I1.list hqx
      obtain ⟨its2, rv2, p2', hz2⟩ := I1.list hqy
      have la : a < s1.heap.objs.size := p1.lt
      have lb : b < s1.heap.objs.size := p2'.lt
      have l1 := rv.length
      have l2 := rv2.length
      rw [List.length_map] at l1
      refine call_zip_2 p1.isList p2'.isList fun h' hz hTI hTO h1 h2 hsz' hk => ?_
      refine Calls.spliced_nil ?_
      have I2 : Inv X pins σ H1 { s1 with heap := h' } := I1.kept (t' := s1.toks) hk
      obtain ⟨kv, rel⟩ := zip_rel (P := X.prog) (w := X.w) rv rv2
      have lz : (ks.zip its2).length = its2.length := by
        rw [List.length_zip]
        omega
      refine PySem.call_dict_pairs (s := { s1 with heap := h' }) (knd := mixKind X.prog X.w) (kvs := ks.zip its2) (PairArg.zip _ _ _ _ _ a b (PySem.W.ktu_apart s1.heap.objs.size a b la lb) its.toArray its2.toArray) (I.ok.hd hc) ⟨hz, hTI, ⟨_, _, hTO⟩, h1, h2, p1.isList.at fun o q => hk _ o q, p2'.isList.at fun o q => hk _ o q⟩ ⟨?_, fun i u v hr => ?_⟩ ?_ fun h2' tk hd' hk' => ?_
      · rw [lz]
        simp
        omega
      · exact rel i u v (by simpa using hr.1) (by simpa using hr.2)
      · simp
        omega
      · have hm' : (h'.objs.size == sysModules) = false := beq_eq_false_iff_ne.mpr (Nat.ne_of_gt I2.big)
        have hlen : (mergeK [] (ks.zip ys)).length ≤ sizeLine := by
          refine Nat.le_trans (length_mergeK _ []) ?_
          rw [List.length_nil, Nat.zero_add, List.length_zip]
          omega
        refine ⟨.ref h'.objs.size, upd H1 h'.objs.size (.dK (mergeK [] (ks.zip ys))), ?_, rfl, q _ (I2.hok.fresh (Nat.le_refl _))⟩
        refine I2.turnedNew (t' := tk) (ch := [s1.heap.objs.size + 4, s1.heap.objs.size + 3, s1.heap.objs.size, s1.heap.objs.size + 1]) (fun c o hb q => hk' c o hb q) (fun c hcm => ?_) (Nat.le_refl _) (show ObjOk X.prog X.w _ _ _ (.dK (mergeK [] (ks.zip ys))) from ⟨hlen, hm', merged [] (ks.zip its2), KV.merge kv .nil, hd'⟩)
        have e' : c = s1.heap.objs.size + 4 ∨ c = s1.heap.objs.size + 3 ∨ c = s1.heap.objs.size ∨ c = s1.heap.objs.size + 1 := by simpa using hcm
        have hle : s1.heap.objs.size ≤ c := by
          rcases e' with z | z | z | z
          · rw [z]; exact Nat.le_add_right _ _
          · rw [z]; exact Nat.le_add_right _ _
          · rw [z]; exact Nat.le_refl _
          · rw [z]; exact Nat.le_add_right _ _
        obtain ⟨f1, f2, f3, f4, f5, f6⟩ := I1.fpOk hle (I1.hok.fresh hle)
        exact ⟨f1, f2, f3, f4, f5, f6⟩
end
end Eld
end L2

set_option Elab.async false
set_option linter.all false
set_option maxRecDepth 100000
set_option maxHeartbeats 4000000
/-! ## the texts -/
namespace L2
namespace Eld
open PySem PySem.Spec PyProof.Rows PySem.EldX
def topS (i : Nat) : Stmt := PySem.Challenge.pw_elderlink_k20_whole_parents_and_forests.main.body.getD i (.Pass ⟨0, 0, 0, 0⟩)
abbrev sWhole : Stmt := topS 2
abbrev NWhole : List Str := ["value"]
theorem scWhole : FnScope NWhole ["value"] (defScope sWhole) := ⟨rfl, rfl, rfl, by decide +kernel, rfl, by decide +kernel, by decide +kernel⟩
abbrev sCount : Stmt := topS 3
abbrev NCount : List Str := ["value"]
theorem scCount : FnScope NCount ["value"] (defScope sCount) := ⟨rfl, rfl, rfl, by decide +kernel, rfl, by decide +kernel, by decide +kernel⟩
abbrev sIsName : Stmt := topS 4
abbrev NIsName : List Str := ["value", "sign"]
theorem scIsName : FnScope NIsName ["value"] (defScope sIsName) := ⟨rfl, rfl, rfl, by decide +kernel, rfl, by decide +kernel, by decide +kernel⟩
abbrev sUnlike : Stmt := topS 5
abbrev NUnlike : List Str := ["names"]
theorem scUnlike : FnScope NUnlike ["names"] (defScope sUnlike) := ⟨rfl, rfl, rfl, by decide +kernel, rfl, by decide +kernel, by decide +kernel⟩
abbrev sAreNames : Stmt := topS 6
abbrev NAreNames : List Str := ["value", "name"]
theorem scAreNames : FnScope NAreNames ["value"] (defScope sAreNames) := ⟨rfl, rfl, rfl, by decide +kernel, rfl, by decide +kernel, by decide +kernel⟩
abbrev sIsExchange : Stmt := topS 7
abbrev NIsExchange : List Str := ["value", "name", "new"]
theorem scIsExchange : FnScope NIsExchange ["value"] (defScope sIsExchange) := ⟨rfl, rfl, rfl, by decide +kernel, rfl, by decide +kernel, by decide +kernel⟩
abbrev sAInit : Stmt := inClass (topS 17) 0
abbrev NAInit : List Str := ["self", "name", "fits", "most"]
theorem scAInit : FnScope NAInit ["self", "name", "fits", "most"] (defScope sAInit) := ⟨rfl, rfl, rfl, by decide +kernel, rfl, by decide +kernel, by decide +kernel⟩
abbrev sAName : Stmt := inClass (topS 17) 1
abbrev NAName : List Str := ["self"]
theorem scAName : FnScope NAName ["self"] (defScope sAName) := ⟨rfl, rfl, rfl, by decide +kernel, rfl, by decide +kernel, by decide +kernel⟩
abbrev sAFits : Stmt := inClass (topS 17) 2
abbrev NAFits : List Str := ["self"]
theorem scAFits : FnScope NAFits ["self"] (defScope sAFits) := ⟨rfl, rfl, rfl, by decide +kernel, rfl, by decide +kernel, by decide +kernel⟩
abbrev sAMost : Stmt := inClass (topS 17) 3
abbrev NAMost : List Str := ["self"]
theorem scAMost : FnScope NAMost ["self"] (defScope sAMost) := ⟨rfl, rfl, rfl, by decide +kernel, rfl, by decide +kernel, by decide +kernel⟩
abbrev sAEq : Stmt := inClass (topS 17) 4
abbrev NAEq : List Str := ["self", "other"]
theorem scAEq : FnScope NAEq ["self", "other"] (defScope sAEq) := ⟨rfl, rfl, rfl, by decide +kernel, rfl, by decide +kernel, by decide +kernel⟩
abbrev sLInit : Stmt := inClass (topS 18) 0
abbrev NLInit : List Str := ["self", "askers"]
theorem scLInit : FnScope NLInit ["self", "askers"] (defScope sLInit) := ⟨rfl, rfl, rfl, by decide +kernel, rfl, by decide +kernel, by decide +kernel⟩
abbrev sLAskers : Stmt := inClass (topS 18) 1
abbrev NLAskers : List Str := ["self"]
theorem scLAskers : FnScope NLAskers ["self"] (defScope sLAskers) := ⟨rfl, rfl, rfl, by decide +kernel, rfl, by decide +kernel, by decide +kernel⟩
abbrev sLNames : Stmt := inClass (topS 18) 2
abbrev NLNames : List Str := ["self", "asker"]
theorem scLNames : FnScope NLNames ["self"] (defScope sLNames) := ⟨rfl, rfl, rfl, by decide +kernel, rfl, by decide +kernel, by decide +kernel⟩
abbrev sLLen : Stmt := inClass (topS 18) 3
abbrev NLLen : List Str := ["self"]
theorem scLLen : FnScope NLLen ["self"] (defScope sLLen) := ⟨rfl, rfl, rfl, by decide +kernel, rfl, by decide +kernel, by decide +kernel⟩
abbrev sLEq : Stmt := inClass (topS 18) 4
abbrev NLEq : List Str := ["self", "other"]
theorem scLEq : FnScope NLEq ["self", "other"] (defScope sLEq) := ⟨rfl, rfl, rfl, by decide +kernel, rfl, by decide +kernel, by decide +kernel⟩
abbrev sLKinds : Stmt := inClass (topS 18) 5
abbrev NLKinds : List Str := ["self", "asker", "kind"]
theorem scLKinds : FnScope NLKinds ["self"] (defScope sLKinds) := ⟨rfl, rfl, rfl, by decide +kernel, rfl, by decide +kernel, by decide +kernel⟩
abbrev sLAsk : Stmt := inClass (topS 18) 6
abbrev NLAsk : List Str := ["self", "name"]
theorem scLAsk : FnScope NLAsk ["self", "name"] (defScope sLAsk) := ⟨rfl, rfl, rfl, by decide +kernel, rfl, by decide +kernel, by decide +kernel⟩
abbrev sLPlace : Stmt := inClass (topS 18) 7
abbrev NLPlace : List Str := ["self", "name", "names"]
theorem scLPlace : FnScope NLPlace ["self", "name"] (defScope sLPlace) := ⟨rfl, rfl, rfl, by decide +kernel, rfl, by decide +kernel, by decide +kernel⟩
abbrev sLWithout : Stmt := inClass (topS 18) 8
abbrev NLWithout : List Str := ["self", "name", "at"]
theorem scLWithout : FnScope NLWithout ["self", "name"] (defScope sLWithout) := ⟨rfl, rfl, rfl, by decide +kernel, rfl, by decide +kernel, by decide +kernel⟩
abbrev sLPutIn : Stmt := inClass (topS 18) 9
abbrev NLPutIn : List Str := ["self", "asker", "place"]
theorem scLPutIn : FnScope NLPutIn ["self", "asker", "place"] (defScope sLPutIn) := ⟨rfl, rfl, rfl, by decide +kernel, rfl, by decide +kernel, by decide +kernel⟩
abbrev sLMoved : Stmt := inClass (topS 18) 10
abbrev NLMoved : List Str := ["self", "name", "place"]
theorem scLMoved : FnScope NLMoved ["self", "name", "place"] (defScope sLMoved) := ⟨rfl, rfl, rfl, by decide +kernel, rfl, by decide +kernel, by decide +kernel⟩
abbrev sLChanged : Stmt := inClass (topS 18) 11
abbrev NLChanged : List Str := ["self", "asker"]
theorem scLChanged : FnScope NLChanged ["self", "asker"] (defScope sLChanged) := ⟨rfl, rfl, rfl, by decide +kernel, rfl, by decide +kernel, by decide +kernel⟩
abbrev sLOrdered : Stmt := inClass (topS 18) 12
abbrev NLOrdered : List Str := ["self", "names"]
theorem scLOrdered : FnScope NLOrdered ["self", "names"] (defScope sLOrdered) := ⟨rfl, rfl, rfl, by decide +kernel, rfl, by decide +kernel, by decide +kernel⟩
abbrev sRecalled : Stmt := topS 19
abbrev NRecalled : List Str := ["line", "names", "asker"]
theorem scRecalled : FnScope NRecalled ["line", "names"] (defScope sRecalled) := ⟨rfl, rfl, rfl, by decide +kernel, rfl, by decide +kernel, by decide +kernel⟩
abbrev sNeedAsker : Stmt := topS 20
abbrev NNeedAsker : List Str := ["value"]
theorem scNeedAsker : FnScope NNeedAsker ["value"] (defScope sNeedAsker) := ⟨rfl, rfl, rfl, by decide +kernel, rfl, by decide +kernel, by decide +kernel⟩
abbrev sNeedLine : Stmt := topS 21
abbrev NNeedLine : List Str := ["value"]
theorem scNeedLine : FnScope NNeedLine ["value"] (defScope sNeedLine) := ⟨rfl, rfl, rfl, by decide +kernel, rfl, by decide +kernel, by decide +kernel⟩
abbrev sNeedExchange : Stmt := topS 22
abbrev NNeedExchange : List Str := ["value"]
theorem scNeedExchange : FnScope NNeedExchange ["value"] (defScope sNeedExchange) := ⟨rfl, rfl, rfl, by decide +kernel, rfl, by decide +kernel, by decide +kernel⟩
abbrev sAreAskers : Stmt := topS 23
abbrev NAreAskers : List Str := ["value", "asker"]
theorem scAreAskers : FnScope NAreAskers ["value"] (defScope sAreAskers) := ⟨rfl, rfl, rfl, by decide +kernel, rfl, by decide +kernel, by decide +kernel⟩
abbrev sGroup : Stmt := topS 25
abbrev NGroup : List Str := ["line", "name"]
theorem scGroup : FnScope NGroup ["line", "name"] (defScope sGroup) := ⟨rfl, rfl, rfl, by decide +kernel, rfl, by decide +kernel, by decide +kernel⟩
abbrev sParent : Stmt := topS 26
abbrev NParent : List Str := ["line", "name"]
theorem scParent : FnScope NParent ["line", "name"] (defScope sParent) := ⟨rfl, rfl, rfl, by decide +kernel, rfl, by decide +kernel, by decide +kernel⟩
abbrev sForest : Stmt := topS 27
abbrev NForest : List Str := ["line"]
theorem scForest : FnScope NForest ["line"] (defScope sForest) := ⟨rfl, rfl, rfl, by decide +kernel, rfl, by decide +kernel, by decide +kernel⟩
abbrev sTouched : Stmt := topS 28
abbrev NTouched : List Str := ["line", "name"]
theorem scTouched : FnScope NTouched ["line", "name"] (defScope sTouched) := ⟨rfl, rfl, rfl, by decide +kernel, rfl, by decide +kernel, by decide +kernel⟩
abbrev sShare : Stmt := topS 29
abbrev NShare : List Str := ["kinds", "others", "kind"]
theorem scShare : FnScope NShare ["kinds", "others"] (defScope sShare) := ⟨rfl, rfl, rfl, by decide +kernel, rfl, by decide +kernel, by decide +kernel⟩
abbrev sParents : Stmt := topS 30
abbrev NParents : List Str := ["askers", "parents", "kinds_of", "asker", "joined", "kinds", "name", "kind"]
theorem scParents : FnScope NParents ["askers"] (defScope sParents) := ⟨rfl, rfl, rfl, by decide +kernel, rfl, by decide +kernel, by decide +kernel⟩
abbrev sGroups : Stmt := topS 31
abbrev NGroups : List Str := ["parents", "groups", "name", "each"]
theorem scGroups : FnScope NGroups ["parents"] (defScope sGroups) := ⟨rfl, rfl, rfl, by decide +kernel, rfl, by decide +kernel, by decide +kernel⟩
abbrev sForebears : Stmt := topS 32
abbrev NForebears : List Str := ["parents", "name", "found", "last"]
theorem scForebears : FnScope NForebears ["parents", "name"] (defScope sForebears) := ⟨rfl, rfl, rfl, by decide +kernel, rfl, by decide +kernel, by decide +kernel⟩
abbrev sPurse : Stmt := topS 34
abbrev NPurse : List Str := ["_law_script", "_law_at", "_law_seed"]
theorem scPurse : FnScope NPurse ["_law_script", "_law_at"] (defScope sPurse) := ⟨rfl, rfl, rfl, by decide +kernel, rfl, by decide +kernel, by decide +kernel⟩
abbrev sMixed : Stmt := topS 35
abbrev NMixed : List Str := ["_law_seed", "_law_turn", "_law_at", "_law_mixed_here"]
theorem scMixed : FnScope NMixed ["_law_seed", "_law_turn", "_law_at"] (defScope sMixed) := ⟨rfl, rfl, rfl, by decide +kernel, rfl, by decide +kernel, by decide +kernel⟩
abbrev sDraw : Stmt := topS 36
abbrev NDraw : List Str := ["_law_purse_here", "_law_many", "_law_drawn", "_law_found", "_law_piece"]
theorem scDraw : FnScope NDraw ["_law_purse_here", "_law_many"] (defScope sDraw) := ⟨rfl, rfl, rfl, by decide +kernel, rfl, by decide +kernel, by decide +kernel⟩
abbrev sPurses : Stmt := topS 37
abbrev NPurses : List Str := ["_law_script", "_law_few_here", "_law_at"]
theorem scPurses : FnScope NPurses ["_law_script", "_law_few_here"] (defScope sPurses) := ⟨rfl, rfl, rfl, by decide +kernel, rfl, by decide +kernel, by decide +kernel⟩
abbrev sShuffled : Stmt := topS 38
abbrev NShuffled : List Str := ["_law_purse_here", "_law_some", "_law_found", "_law_item"]
theorem scShuffled : FnScope NShuffled ["_law_purse_here", "_law_some"] (defScope sShuffled) := ⟨rfl, rfl, rfl, by decide +kernel, rfl, by decide +kernel, by decide +kernel⟩
abbrev sWord : Stmt := topS 39
abbrev NWord : List Str := ["_law_purse_here", "_law_found", "_law_turn"]
theorem scWord : FnScope NWord ["_law_purse_here"] (defScope sWord) := ⟨rfl, rfl, rfl, by decide +kernel, rfl, by decide +kernel, by decide +kernel⟩
abbrev sNames : Stmt := topS 40
abbrev NNames : List Str := ["_law_purse_here", "_law_many", "_law_some", "_law_fresh", "_law_word_here"]
theorem scNames : FnScope NNames ["_law_purse_here", "_law_many"] (defScope sNames) := ⟨rfl, rfl, rfl, by decide +kernel, rfl, by decide +kernel, by decide +kernel⟩
abbrev sKinds : Stmt := topS 41
abbrev NKinds : List Str := ["_law_purse_here", "_law_many", "_law_some", "_law_fresh", "_law_word_here"]
theorem scKinds : FnScope NKinds ["_law_purse_here", "_law_many"] (defScope sKinds) := ⟨rfl, rfl, rfl, by decide +kernel, rfl, by decide +kernel, by decide +kernel⟩
abbrev sLLinked : Stmt := topS 42
abbrev NLLinked : List Str := ["_law_one", "_law_other", "_law_kind"]
theorem scLLinked : FnScope NLLinked ["_law_one", "_law_other"] (defScope sLLinked) := ⟨rfl, rfl, rfl, by decide +kernel, rfl, by decide +kernel, by decide +kernel⟩
abbrev sIsNear : Stmt := topS 43
abbrev NIsNear : List Str := ["_law_askers", "_law_some", "_law_at", "_law_one"]
theorem scIsNear : FnScope NIsNear ["_law_askers", "_law_some", "_law_at"] (defScope sIsNear) := ⟨rfl, rfl, rfl, by decide +kernel, rfl, by decide +kernel, by decide +kernel⟩
abbrev sFew : Stmt := topS 44
abbrev NFew : List Str := ["_law_purse_here", "_law_many", "_law_kinds_here", "_law_found", "_law_name", "_law_some"]
theorem scFew : FnScope NFew ["_law_purse_here", "_law_many", "_law_kinds_here"] (defScope sFew) := ⟨rfl, rfl, rfl, by decide +kernel, rfl, by decide +kernel, by decide +kernel⟩
abbrev sSpareName : Stmt := topS 45
abbrev NSpareName : List Str := ["_law_names_here", "_law_word_here"]
theorem scSpareName : FnScope NSpareName ["_law_names_here"] (defScope sSpareName) := ⟨rfl, rfl, rfl, by decide +kernel, rfl, by decide +kernel, by decide +kernel⟩
abbrev sGrown : Stmt := topS 46
abbrev NGrown : List Str := ["_law_askers", "_law_at", "_law_found", "_law_fresh", "_law_later", "_law_near", "_law_one"]
theorem scGrown : FnScope NGrown ["_law_askers", "_law_at"] (defScope sGrown) := ⟨rfl, rfl, rfl, by decide +kernel, rfl, by decide +kernel, by decide +kernel⟩
abbrev sAbove : Stmt := topS 47
abbrev NAbove : List Str := ["_law_askers", "_law_found", "_law_at", "_law_mine", "_law_behind", "_law_near"]
theorem scAbove : FnScope NAbove ["_law_askers"] (defScope sAbove) := ⟨rfl, rfl, rfl, by decide +kernel, rfl, by decide +kernel, by decide +kernel⟩
abbrev sUps : Stmt := topS 48
abbrev NUps : List Str := ["_law_rows", "_law_name", "_law_found", "_law_known", "_law_turn"]
theorem scUps : FnScope NUps ["_law_rows", "_law_name"] (defScope sUps) := ⟨rfl, rfl, rfl, by decide +kernel, rfl, by decide +kernel, by decide +kernel⟩
abbrev sLineRight : Stmt := topS 49
abbrev NLineRight : List Str := ["_law_line", "_law_askers", "_law_due", "_law_name", "_law_above_here", "_law_below", "_law_ups_here", "_law_told", "_law_child", "_law_its", "_law_one"]
theorem scLineRight : FnScope NLineRight ["_law_line", "_law_askers"] (defScope sLineRight) := ⟨rfl, rfl, rfl, by decide +kernel, rfl, by decide +kernel, by decide +kernel⟩
abbrev sOthersRight : Stmt := topS 50
abbrev NOthersRight : List Str := ["_law_purse_here", "_law_askers", "_law_at", "_law_less", "_law_every", "_law_spare_one", "_law_told", "_law_names_here", "_law_other", "_law_asker", "_law_name"]
theorem scOthersRight : FnScope NOthersRight ["_law_purse_here", "_law_askers"] (defScope sOthersRight) := ⟨rfl, rfl, rfl, by decide +kernel, rfl, by decide +kernel, by decide +kernel⟩
abbrev sLaw : Stmt := topS 51
abbrev NLaw : List Str := ["_law_script", "_law_purse_here", "_law_askers", "_law_line", "_law_names_here", "_law_one", "_law_told", "_law_turns", "_law_due", "_law_asker", "_law_name", "_law_above_here"]
theorem scLaw : FnScope NLaw ["_law_script"] (defScope sLaw) := ⟨rfl, rfl, rfl, by decide +kernel, rfl, by decide +kernel, by decide +kernel⟩
end Eld
end L2

set_option Elab.async false
set_option linter.all false
set_option maxRecDepth 100000
set_option maxHeartbeats 4000000
/-! ## what stays tracked; comprehensions told item by item -/
namespace L2
namespace Eld
open PySem PySem.Spec PyProof.Rows PySem.EldX
/-- what is tracked stays as it is, but for what S says -/
def Kept (S : Addr → Prop) (H H' : Hp) : Prop := ∀ b o, ¬ S b → H b = some o → H' b = some o
abbrev noA : Addr → Prop := fun _ => False
theorem Kept.refl {S : Addr → Prop} {H : Hp} : Kept S H H := fun _ _ _ h => h
theorem Kept.trans {S : Addr → Prop} {H1 H2 H3 : Hp} (a : Kept S H1 H2) (b : Kept S H2 H3) : Kept S H1 H3 := fun c o n h => b c o n (a c o n h)
theorem Kept.of_same {S : Addr → Prop} {H H' : Hp} (h : Same H H') : Kept S H H' := fun b o _ e => h b o e
theorem Kept.same {H H' : Hp} (h : Kept noA H H') : Same H H' := fun b o e => h b o id e
theorem Kept.of_but {p : Addr} {H H' : Hp} (h : ∀ b, b ≠ p → H' b = H b) : Kept (· = p) H H' := fun b o n e => (h b n).trans e
theorem Kept.put {S : Addr → Prop} {H0 H : Hp} {D : Addr} {o : HO} (h : Kept S H0 H) (n : H0 D = none) : Kept S H0 (upd H D o) := fun b u hb e => by
  rw [upd_ne (ne_of_none e n)]
  exact h b u hb e
theorem _root_.L2.Same.put {H0 H : Hp} {D : Addr} {o : HO} (h : Same H0 H) (n : H0 D = none) : Same H0 (upd H D o) := fun b u e => by
  rw [upd_ne (ne_of_none e n)]
  exact h b u e
theorem _root_.L2.Same.fresh {H : Hp} {p : Addr} {o : HO} (n : H p = none) : Same H (upd H p o) := Same.put (Same.refl H) n
section
variable {J : It} {n : Nat} {G : Hp → Prop} {Y : Nat → Hp → V → Hp → Prop}
/-- [e for x in ..] without tests: P i is true ahead of turn i, out i of what turn i appends -/
theorem lc_gen (w : Walk J n G Y) {g : TG} {te : TE} {vs : List Nat} {σ : St} {H1 : Hp} {D : Addr} {Qd : Hp → Prop} (S : Addr → Prop) (P : Nat → Hp → Prop) (out : Nat → V → Hp → Prop) (hz : n < sizeLine) (hD : H1 D = none)
    (hSD : ¬ S D) (hG : ∀ i H, Kept S H1 H → P i H → G H) (h0 : ∀ H, (∀ b, b ≠ D → H b = H1 b) → P 0 H) (hP : ∀ i H H', (∀ b, b ≠ D → H' b = H b) → P i H → P i H') (hY : ∀ i H x H', Y i H x H' → H' = H)
    (ho : ∀ i y H H' acc, H D = some (.lst acc) → (Kept S H H' ∨ ∀ b o, b ≠ D → H b = some o → H' b = some o) → out i y H → out i y H')
    (hs : ∀ i x H, i < n → Kept S H1 H → P i H → Y i H x H → ∀ Q : VK, (∀ y H4, Kept S H H4 → P (i + 1) H4 → out i y H4 → Q y H4) → g x (wipe σ vs) H fun σ2 H2 => wipe σ2 vs = wipe σ vs ∧ te σ2 H2 Q)
    (hd : ∀ H acc, Kept S H1 H → P n H → H D = some (.lst acc) → acc.length = n → (∀ i y, acc[i]? = some y → out i y H) → Qd H) :
    ∃ W : Nat → Nat → Hp → Prop, (∃ m, W 0 m (upd H1 D (.lst []))) ∧ ∀ i m H, W i m H →
      (J.stop i H ∧ Qd H) ∨ (J.go i H ∧ ∃ Nx : Hp → Prop, (∀ H', Nx H' → ∃ m', m' < m ∧ W (i + 1) m' H') ∧ ∀ x H', J.yld i H x H' → g x (wipe σ vs) H' fun σ2 H2 => wipe σ2 vs = wipe σ vs ∧ tYes σ2 H2 fun b H3 =>
        if b = true then te σ2 H3 fun y H4 => ∃ acc, H4 D = some (.lst acc) ∧ acc.length < sizeLine ∧ Nx (upd H4 D (.lst (acc ++ [y]))) else Nx H3) := by
  refine lc_it w (fun i H => Kept S H1 H ∧ P i H ∧ ∃ acc, H D = some (.lst acc) ∧ acc.length = i ∧ ∀ j y, acc[j]? = some y → out j y H) ⟨Kept.refl.put hD, h0 _ fun b hb => upd_ne hb, [], upd_same, rfl, fun j y e => by simp at e⟩
    (fun i H _ p => hG i H p.1 p.2.1) ?_ fun H ⟨k, p, acc, e, l, q⟩ => hd H acc k p e l q
  rintro i x H H' hi ⟨k, p, acc, e, l, q⟩ y
  obtain rfl := hY _ _ _ _ y
  refine hs i x H' hi k p y _ fun z H4 k4 p4 o4 => ?_
  have e4 : H4 D = some (.lst acc) := k4 D _ hSD e
  refine ⟨acc, e4, by omega, (k.trans k4).put hD, hP _ _ _ (fun b hb => upd_ne hb) p4, acc ++ [z], upd_same, by rw [List.length_append, l]; rfl, fun j u hj => ?_⟩
  have stay : ∀ b o, b ≠ D → H4 b = some o → upd H4 D (.lst (acc ++ [z])) b = some o := fun b o hb eb => by
    rw [upd_ne hb]
    exact eb
  by_cases hl : j < acc.length
  · rw [List.getElem?_append_left hl] at hj
    exact ho j u H4 _ acc e4 (.inr stay) (ho j u H' H4 acc e (.inl k4) (q j u hj))
  · rw [List.getElem?_append_right (Nat.le_of_not_lt hl)] at hj
    cases c : j - acc.length with
    | succ c => simp [c] at hj
    | zero =>
      rw [c] at hj
      obtain rfl : z = u := by simpa using hj
      have : j = i := by omega
      subst this
      exact ho j z H4 _ acc e4 (.inr stay) o4
/-- the same, where nothing but the list itself changes -/
theorem lc_out (w : Walk J n G Y) {g : TG} {te : TE} {vs : List Nat} {σ : St} {H1 : Hp} {D : Addr} {Qd : Hp → Prop} (out : Nat → V → Hp → Prop) (hz : n < sizeLine) (hD : H1 D = none) (hG : ∀ H, Same H1 H → G H) (hY : ∀ i H x H', Y i H x H' → H' = H)
    (ho : ∀ i y H H' acc, H D = some (.lst acc) → (∀ b o, b ≠ D → H b = some o → H' b = some o) → out i y H → out i y H')
    (hs : ∀ i x H, i < n → Same H1 H → Y i H x H → ∀ Q : VK, (∀ y H4, Same H H4 → out i y H4 → Q y H4) → g x (wipe σ vs) H fun σ2 H2 => wipe σ2 vs = wipe σ vs ∧ te σ2 H2 Q)
    (hd : ∀ H acc, Same H1 H → H D = some (.lst acc) → acc.length = n → (∀ i y, acc[i]? = some y → out i y H) → Qd H) :
    ∃ W : Nat → Nat → Hp → Prop, (∃ m, W 0 m (upd H1 D (.lst []))) ∧ ∀ i m H, W i m H →
      (J.stop i H ∧ Qd H) ∨ (J.go i H ∧ ∃ Nx : Hp → Prop, (∀ H', Nx H' → ∃ m', m' < m ∧ W (i + 1) m' H') ∧ ∀ x H', J.yld i H x H' → g x (wipe σ vs) H' fun σ2 H2 => wipe σ2 vs = wipe σ vs ∧ tYes σ2 H2 fun b H3 =>
        if b = true then te σ2 H3 fun y H4 => ∃ acc, H4 D = some (.lst acc) ∧ acc.length < sizeLine ∧ Nx (upd H4 D (.lst (acc ++ [y]))) else Nx H3) :=
  lc_gen w noA (fun _ _ => True) out hz hD id (fun _ H k _ => hG H k.same) (fun _ _ => trivial) (fun _ _ _ _ _ => trivial) hY (fun i y H H' acc e k q => ho i y H H' acc e (k.elim (fun k b o _ eb => k b o id eb) id) q)
    (fun i x H hi k _ y Q hQ => hs i x H hi k.same y Q fun z H4 s o4 => hQ z H4 (.of_same s) trivial o4) fun H acc k _ e l q => hd H acc k.same e l q
end
/-- a list of values told one by one -/
theorem eq_map_of {α β : Type} {xs : List α} {acc : List β} {f : α → β} (l : acc.length = xs.length) (h : ∀ (i : Nat) (y : β), acc[i]? = some y → ∃ x, xs[i]? = some x ∧ y = f x) : acc = xs.map f := by
  refine List.ext_getElem? fun i => ?_
  cases e : acc[i]? with
  | none =>
    have : xs.length ≤ i := by
      rw [← l]
      exact List.getElem?_eq_none_iff.mp e
    rw [List.getElem?_map, List.getElem?_eq_none this] <;> rfl
  | some y =>
    obtain ⟨x, hx, rfl⟩ := h i y e
    rw [List.getElem?_map, hx] <;> rfl
end Eld
end L2

set_option Elab.async false
set_option linter.all false
set_option maxRecDepth 100000
set_option maxHeartbeats 4000000
/-! ## a comprehension, told by what it has gathered -/
namespace L2
namespace Eld
open PySem PySem.Spec PyProof.Rows PySem.EldX
section
variable {J : It} {n : Nat} {G : Hp → Prop} {Y : Nat → Hp → V → Hp → Prop}
/-- Pv tells, by the turn, what has been gathered; nothing in it hangs on the list itself -/
theorem lc_foldY (w : Walk J n G Y) {g : TG} {tt : TT} {te : TE} {vs : List Nat} {σ : St} {H1 : Hp} {D : Addr} {Qd : Hp → Prop} (Pv : Nat → List V → Hp → Prop) (hz : n < sizeLine) (hD : H1 D = none) (h0 : Pv 0 [] (upd H1 D (.lst []))) (hG : ∀ H, Same H1 H → G H)
    (hY : ∀ i H x H', Y i H x H' → Same H H')
    (hm : ∀ i acc l H H', H D = some (.lst l) → (∀ b o, b ≠ D → H b = some o → H' b = some o) → Pv i acc H → Pv i acc H')
    (hs : ∀ i x acc H H', i < n → Same H1 H → H D = some (.lst acc) → Y i H x H' → Pv i acc H → ∀ (N : VK) (M : Hp → Prop), (∀ y H4, Same H' H4 → Pv (i + 1) (acc ++ [y]) H4 → N y H4) → (∀ H4, Same H' H4 → Pv (i + 1) acc H4 → M H4) →
      g x (wipe σ vs) H' fun σ2 H2 => wipe σ2 vs = wipe σ vs ∧ tt σ2 H2 fun b H3 => if b = true then te σ2 H3 N else M H3)
    (hd : ∀ H acc, Same H1 H → H D = some (.lst acc) → Pv n acc H → Qd H) :
    ∃ W : Nat → Nat → Hp → Prop, (∃ m, W 0 m (upd H1 D (.lst []))) ∧ ∀ i m H, W i m H →
      (J.stop i H ∧ Qd H) ∨ (J.go i H ∧ ∃ Nx : Hp → Prop, (∀ H', Nx H' → ∃ m', m' < m ∧ W (i + 1) m' H') ∧ ∀ x H', J.yld i H x H' → g x (wipe σ vs) H' fun σ2 H2 => wipe σ2 vs = wipe σ vs ∧ tt σ2 H2 fun b H3 =>
        if b = true then te σ2 H3 fun y H4 => ∃ acc, H4 D = some (.lst acc) ∧ acc.length < sizeLine ∧ Nx (upd H4 D (.lst (acc ++ [y]))) else Nx H3) := by
  refine lc_it w (fun i H => Same H1 H ∧ ∃ acc, H D = some (.lst acc) ∧ acc.length ≤ i ∧ Pv i acc H) ⟨Same.fresh hD, [], upd_same, Nat.le_refl _, h0⟩ (fun i H _ p => hG H p.1) ?_ fun H ⟨s, acc, e, _, p⟩ => hd H acc s e p
  rintro i x H H' hi ⟨s, acc, e, hl, p⟩ hy
  have sy := hY i H x H' hy
  refine hs i x acc H H' hi s e hy p _ _ (fun y H4 s4 p4 => ?_) fun H4 s4 p4 => ?_
  · have e4 := s4 _ _ (sy _ _ e)
    refine ⟨acc, e4, by omega, (s.trans (sy.trans s4)).put hD, acc ++ [y], upd_same, by rw [List.length_append, List.length_singleton]; omega, ?_⟩
    exact hm _ _ acc H4 _ e4 (fun b o hb eb => by rw [upd_ne hb]; exact eb) p4
  · exact ⟨s.trans (sy.trans s4), acc, s4 _ _ (sy _ _ e), by omega, p4⟩
end
/-- the same, where a turn may change the list at p, too -/
theorem lc_foldP {J : It} {n : Nat} {G : Hp → Prop} {Y : Nat → Hp → V → Hp → Prop} (p : Addr) (w : Walk J n G Y) {g : TG} {tt : TT} {te : TE} {vs : List Nat} {σ : St} {H1 : Hp} {D : Addr} {Qd : Hp → Prop} (Pv : Nat → List V → Hp → Prop) (hz : n < sizeLine) (hD : H1 D = none) (hp : D ≠ p) (h0 : Pv 0 [] (upd H1 D (.lst []))) (hG : ∀ H, Kept (· = p) H1 H → G H)
    (hY : ∀ i H x H', Y i H x H' → Same H H')
    (hm : ∀ i acc l H H', H D = some (.lst l) → (∀ b o, b ≠ D → H b = some o → H' b = some o) → Pv i acc H → Pv i acc H')
    (hs : ∀ i x acc H H', i < n → Kept (· = p) H1 H → H D = some (.lst acc) → Y i H x H' → Pv i acc H → ∀ (N : VK) (M : Hp → Prop), (∀ y H4, Kept (· = p) H' H4 → Pv (i + 1) (acc ++ [y]) H4 → N y H4) → (∀ H4, Kept (· = p) H' H4 → Pv (i + 1) acc H4 → M H4) →
      g x (wipe σ vs) H' fun σ2 H2 => wipe σ2 vs = wipe σ vs ∧ tt σ2 H2 fun b H3 => if b = true then te σ2 H3 N else M H3)
    (hd : ∀ H acc, Kept (· = p) H1 H → H D = some (.lst acc) → Pv n acc H → Qd H) :
    ∃ W : Nat → Nat → Hp → Prop, (∃ m, W 0 m (upd H1 D (.lst []))) ∧ ∀ i m H, W i m H →
      (J.stop i H ∧ Qd H) ∨ (J.go i H ∧ ∃ Nx : Hp → Prop, (∀ H', Nx H' → ∃ m', m' < m ∧ W (i + 1) m' H') ∧ ∀ x H', J.yld i H x H' → g x (wipe σ vs) H' fun σ2 H2 => wipe σ2 vs = wipe σ vs ∧ tt σ2 H2 fun b H3 =>
        if b = true then te σ2 H3 fun y H4 => ∃ acc, H4 D = some (.lst acc) ∧ acc.length < sizeLine ∧ Nx (upd H4 D (.lst (acc ++ [y]))) else Nx H3) := by
  refine lc_it w (fun i H => Kept (· = p) H1 H ∧ ∃ acc, H D = some (.lst acc) ∧ acc.length ≤ i ∧ Pv i acc H) ⟨Kept.of_same (Same.fresh hD), [], upd_same, Nat.le_refl _, h0⟩ (fun i H _ q => hG H q.1) ?_ fun H ⟨s, acc, e, _, q⟩ => hd H acc s e q
  rintro i x H H' hi ⟨s, acc, e, hl, q⟩ hy
  have sy := hY i H x H' hy
  refine hs i x acc H H' hi s e hy q _ _ (fun y H4 s4 p4 => ?_) fun H4 s4 p4 => ?_
  · have e4 := s4 _ _ hp (sy _ _ e)
    refine ⟨acc, e4, by omega, fun b o hb eb => ?_, acc ++ [y], upd_same, by rw [List.length_append, List.length_singleton]; omega, ?_⟩
    · rw [upd_ne (fun z => by rw [z, hD] at eb; cases eb)]
      exact s4 _ _ hb (sy _ _ (s _ _ hb eb))
    · exact hm _ _ acc H4 _ e4 (fun b o hb eb => by rw [upd_ne hb]; exact eb) p4
  · exact ⟨fun b o hb eb => s4 _ _ hb (sy _ _ (s _ _ hb eb)), acc, s4 _ _ hp (sy _ _ e), by omega, p4⟩
theorem ypair_same {xs ys : Nat → Option V} : ∀ i H x H', YPair xs ys i H x H' → Same H H' := fun i H x H' ⟨T, u, v, _, h, e, _⟩ => by
  rw [e]
  exact Same.fresh h
theorem yat_same {xs : List V} : ∀ i H x H', YAt xs i H x H' → Same H H' := fun i H x H' h => by
  rw [h.1]
  exact Same.refl _
end Eld
end L2

set_option Elab.async false
set_option linter.all false
set_option maxRecDepth 100000
set_option maxHeartbeats 4000000
/-! ## drawing numbers out of a purse -/
namespace L2
namespace Eld
open PySem PySem.Spec PyProof.Rows PySem.EldX
/-! ### numbers -/
theorem ediv_lt_self' {a b B : Int} (h0 : 0 ≤ a) (h1 : a < B) (hb : 1 ≤ b) : 0 ≤ a / b ∧ a / b < B := by
  refine ⟨Int.ediv_nonneg h0 (by omega), Int.lt_of_le_of_lt (Int.ediv_le_self b h0) h1⟩
theorem fmod_in {a b : Int} (hb : 0 < b) : 0 ≤ a.fmod b ∧ a.fmod b < b := by
  rw [Int.fmod_eq_emod_of_nonneg a (Int.le_of_lt hb)]
  exact ⟨Int.emod_nonneg a (by omega), Int.emod_lt_of_pos a hb⟩
theorem cutV_map {α : Type} (f : α → V) (xs : List α) (lo hi : Option Int) : cutV (xs.map f) lo hi = ((xs.drop (HT.sIx xs.length 0 lo)).take (HT.sIx xs.length xs.length hi - HT.sIx xs.length 0 lo)).map f := by
  unfold cutV
  rw [List.length_map, List.map_take, List.map_drop]
/-- i ** j of whole numbers, the left one below 2 ^ 400 -/
theorem intBits_le (x : Int) : Builtin.Int.intBits x ≤ x.natAbs.log2 + 1 := by
  unfold Builtin.Int.intBits
  split <;> omega
theorem op_powB {X : Cx} : OpR X (binaryOp .Pow) (rI (fun i j => 0 ≤ j ∧ j ≤ 1000 ∧ i.natAbs < 2 ^ 400) fun i j => .int (i ^ j.toNat)) := opI fun i j _ _ _ _ _ hc q => by
  refine pow_int hc.1 ?_ q
  have h1 := intBits_le i
  have h2 : i.natAbs.log2 < 400 := PySem.Flt.log2_lt_of (by decide) hc.2.2
  have h3 : (Builtin.Int.intBits i : Int) ≤ 400 := by omega
  have h4 : (Builtin.Int.intBits i : Int) * j ≤ 400 * 1000 := Int.mul_le_mul h3 hc.2.1 hc.1 (by decide)
  exact Int.le_trans h4 (by decide)
/-- the most that a purse's first number may be -/
def big : Int := (10 ^ 60) ^ 8
theorem big_pos : 0 < big := by decide +kernel
theorem big_lt : big.natAbs < 2 ^ 1600 := by decide +kernel
/-- a purse at p from which no more than n draws have been made -/
def PurseAt (H : Hp) (p : Addr) (n : Nat) : Prop :=
  ∃ a b c d : Int, H p = some (.lst [.int a, .int b, .int c, .int d]) ∧ (0 ≤ a ∧ a < big) ∧ (0 ≤ b ∧ b < 2147483629) ∧ (0 ≤ c ∧ c ≤ n) ∧ (0 ≤ d ∧ d ≤ 63)
theorem PurseAt.mono {H : Hp} {p : Addr} {n m : Nat} (h : PurseAt H p n) (l : n ≤ m) : PurseAt H p m := by
  obtain ⟨a, b, c, d, e, ha, hb, hc, hd⟩ := h
  exact ⟨a, b, c, d, e, ha, hb, ⟨hc.1, by omega⟩, hd⟩
/-- but for the object at p nothing that was tracked has changed, and what is tracked besides is new -/
def But (p : Addr) (H H' : Hp) : Prop := ∀ b, b ≠ p → H' b = H b
theorem But.refl {p : Addr} {H : Hp} : But p H H := fun _ _ => rfl
theorem But.trans {p : Addr} {H1 H2 H3 : Hp} (a : But p H1 H2) (b : But p H2 H3) : But p H1 H3 := fun c h => (b c h).trans (a c h)
theorem But.upd {p : Addr} {H H' : Hp} {o : HO} (a : But p H H') : But p H (upd H' p o) := fun c h => by
  rw [upd_ne h]
  exact a c h
theorem But.sql {K : PySem.W.Frag} {p a : Addr} {H H' : Hp} {xs : List V} (h : But p H H') (hp : a ≠ p) (s : SqL K H a xs) : SqL K H' a xs := by
  rcases s with (s | ⟨o, s⟩) | s
  · exact .inl (.inl ((h a hp).trans s))
  · exact .inl (.inr ⟨o, (h a hp).trans s⟩)
  · exact .inr s
section
variable {P : Program} {w : World} {K : PySem.W.Frag} {mg : Str → Option Value} {base : Heap}
/-! ### _law_purse -/
def spPurse (K : PySem.W.Frag) : Sp := fun vs H Q _ => ∃ (a : Addr) (ns : List Int) (i : Int), vs = [.ref a, .int i] ∧ SqL K H a (ns.map V.int) ∧ (0 ≤ i ∧ i ≤ 63) ∧
  ∀ H' p, Same H H' → H p = none → PurseAt H' p 0 → Q (.ref p) H'
theorem same_new {H : Hp} {p : Addr} {o : HO} (h : H p = none) : Same H (upd H p o) := fun b x e => by
  rw [upd_ne (ne_of_none e h)]
  exact e
theorem ok_purse {f : Addr} {fd : FuncData} {k : Nat} (F : Fun K "_law_purse" "_law_purse" sPurse f fd) (ms : mg "sum" = none) (mm : mg "max" = none) : FnOk P w K mg base CX0 (k + 1) f fd ["_law_script", "_law_at"] (spPurse K) := by
  refine F.ok scPurse (fun vs H Q E h => ?_) (fun cdv A outer s H vs Q E hr h => ?_)
  · obtain ⟨a, ns, i, rfl, _⟩ := h
    rfl
  · obtain ⟨a, ns, i, rfl, hS, hi, q⟩ := h
    refine ⟨_, pss_cons (ps_set (i := 2) scPurse.nd rfl (.inl rfl) (pe_callB (cr_sum rfl) (by rfl) ms (by decide +kernel)
        (pa_cons (pe_slice sl_list (pv 0) (po_some (pv 1)) (po_some (pe_op op_add (pv 1) pe_int))) pa_nil)))
      (pss_one (ps_ret (pe_lst (pa_cons (pe_op op_modN (pe_callB (call_max2 rfl) (by rfl) mm (by decide +kernel) (pa_cons (pe_op op_sub (pv 2) (pe_op op_pow pe_int pe_int)) (pa_cons pe_int pa_nil)))
          (pe_op op_powB (pe_op op_pow pe_int pe_int) pe_int))
        (pa_cons (pe_op op_modN (pv 2) pe_int) (pa_cons pe_int (pa_cons (pv 1) pa_nil))))))), ?_⟩
    refine ⟨.ref a, rfl, .int i, rfl, i, rfl, .int i, rfl, i, 1, rfl, rfl, i + 1, rfl, a, ns.map V.int, rfl, hS, fun c nc => ?_⟩
    rw [cutV_map]
    refine ⟨c, _, rfl, .inl (.inl upd_same), ?_⟩
    -- the list of four
    refine ⟨_, rfl, 10, 18, rfl, rfl, ⟨by decide, by decide, by decide⟩, _, _, rfl, rfl, _, _, rfl, 10, 60, rfl, rfl, ⟨by decide, by decide, by decide⟩, _, 8, rfl, rfl, ⟨by decide, by decide, by decide +kernel⟩, _, _, rfl, rfl, ?_, ?_⟩
    · show ((10 : Int) ^ (60 : Int).toNat) ^ (8 : Int).toNat ≠ 0
      decide +kernel
    · refine ⟨_, rfl, _, _, rfl, rfl, (by show (2147483629 : Int) ≠ 0; decide), _, rfl, (by show 4 ≤ sizeLine; decide), fun p np => ?_⟩
      have h1 : H p = none := by
        cases e : H p with
        | none => rfl
        | some o =>
          rw [upd_ne (ne_of_none e nc)] at np
          rw [e] at np
          cases np
      refine q _ p ((same_new nc).trans (same_new np)) h1 ⟨_, _, _, _, upd_same, ?_, ?_, ?_, hi⟩
      · exact fmod_in big_pos
      · exact fmod_in (by decide)
      · exact ⟨by decide, by decide⟩
/-! ### _law_mixed -/
def spMixed : Sp := fun vs H Q _ => ∃ a t d : Int, vs = [.int a, .int t, .int d] ∧ (0 ≤ a ∧ a < 2147483629) ∧ (0 ≤ t ∧ t < 1000000000000) ∧ (0 ≤ d ∧ d ≤ 63) ∧ ∀ r : Int, 0 ≤ r → r < 2147483587 → Q (.int r) H
theorem ok_mixed {f : Addr} {fd : FuncData} {k : Nat} (F : Fun K "_law_mixed" "_law_mixed" sMixed f fd) : FnOk P w K mg base CX0 (k + 1) f fd ["_law_seed", "_law_turn", "_law_at"] spMixed := by
  refine F.ok scMixed (fun vs H Q E h => ?_) (fun cdv A outer s H vs Q E hr h => ?_)
  · obtain ⟨a, t, d, rfl, _⟩ := h
    rfl
  · obtain ⟨a, t, d, rfl, ha, ht, hd, q⟩ := h
    refine ⟨_, pss_cons (ps_set (i := 3) scMixed.nd rfl (.inl rfl) (pe_op op_add (pe_op op_mul (pv 0) pe_int) (pe_op op_mul (pe_op op_mul pe_int (pv 1)) (pv 1))))
      (pss_cons (ps_set (i := 3) scMixed.nd rfl (.inl rfl) (pe_op op_modN (pe_op op_add (pe_op op_add (pv 3) (pe_op op_mul pe_int (pv 2))) (pv 1)) pe_int))
      (pss_cons (ps_set (i := 3) scMixed.nd rfl (.inl rfl) (pe_op op_modN (pe_op op_add (pe_op op_mul (pv 3) (pv 3)) pe_int) pe_int))
      (pss_one (ps_ret (pe_op op_modN (pe_op op_mul (pv 3) pe_int) pe_int))))), ?_⟩
    refine ⟨_, rfl, _, _, rfl, rfl, .inr ⟨by decide, by decide⟩, _, rfl, _, _, rfl, rfl, .inl ⟨by decide, by decide⟩, _, rfl, _, _, rfl, rfl, .inl ⟨by omega, by omega⟩, _, _, rfl, rfl, ?_⟩
    refine ⟨_, rfl, _, rfl, _, _, rfl, rfl, .inl ⟨by decide, by decide⟩, _, _, rfl, rfl, _, rfl, _, _, rfl, rfl, _, _, rfl, rfl, (by show (2147483647 : Int) ≠ 0; decide), ?_⟩
    have b1 := fmod_in (a := a * 69069 + 104729 * t * t + 7919 * d + t) (b := 2147483647) (by decide)
    refine ⟨_, rfl, _, rfl, _, _, rfl, rfl, .inl ⟨by omega, by omega⟩, _, _, rfl, rfl, _, _, rfl, rfl, (by show (2147483629 : Int) ≠ 0; decide), ?_⟩
    refine ⟨_, rfl, _, _, rfl, rfl, .inr ⟨by decide, by decide⟩, _, _, rfl, rfl, (by show (2147483587 : Int) ≠ 0; decide), ?_⟩
    exact q _ (fmod_in (by decide)).1 (fmod_in (by decide)).2
end
end Eld
end L2

set_option Elab.async false
set_option linter.all false
set_option maxRecDepth 100000
set_option maxHeartbeats 4000000
namespace L2
namespace Eld
open PySem PySem.Spec PyProof.Rows PySem.EldX
section
variable {P : Program} {w : World} {K : PySem.W.Frag} {mg : Str → Option Value} {base : Heap}
/-! ### _law_draw -/
def spDraw : Sp := fun vs H Q _ => ∃ (p : Addr) (m : Int) (n : Nat), vs = [.ref p, .int m] ∧ PurseAt H p n ∧ n ≤ 100000000000 ∧ 1 ≤ m ∧ m.natAbs < 2 ^ 1000 ∧
  ∀ (H' : Hp) (r : Int), But p H H' → PurseAt H' p (n + 40) → 0 ≤ r → r < m → Q (.int r) H'
theorem turns_le {m : Int} (hm : m.natAbs < 2 ^ 1000) : 0 ≤ (1 : Int) + ((Builtin.Int.intBits m : Nat) : Int).fdiv 28 ∧ (1 : Int) + ((Builtin.Int.intBits m : Nat) : Int).fdiv 28 ≤ 40 := by
  have h1 := intBits_le m
  have h2 : m.natAbs.log2 < 1000 := PySem.Flt.log2_lt_of (by decide) hm
  rw [Int.fdiv_eq_ediv_of_nonneg _ (by decide)]
  omega
theorem ok_draw {f fM : Addr} {fd fdM : FuncData} (F : Fun K "_law_draw" "_law_draw" sDraw f fd) (FM : Fun K "_law_mixed" "_law_mixed" sMixed fM fdM) (gM : mg "_law_mixed" = some (.ref fM)) (mr : mg "range" = none) :
    FnOk P w K mg base CX0 2 f fd ["_law_purse_here", "_law_many"] spDraw := by
  have GM : FnOk P w K mg base CX0 1 fM fdM ["_law_seed", "_law_turn", "_law_at"] spMixed := ok_mixed FM
  have bM : Binds K fdM ["_law_seed", "_law_turn", "_law_at"] [] := FM.binds fun _ _ _ _ _ _ us hl => match us, hl with | [_, _, _], _ => rfl
  refine F.ok scDraw (fun vs H Q E h => ?_) (fun cdv A outer s H vs Q E hr h => ?_)
  · obtain ⟨p, m, n, rfl, _⟩ := h
    rfl
  · obtain ⟨p, m, n, rfl, ⟨a, b, c, d, hp, ha, hb, hc, hd⟩, hn, hm1, hm2, q⟩ := h
    refine ⟨_, pss_cons (ps_if (pt_cmpR op_gt (pe_ix ix_list (pv 0) pe_int (fun _ _ => rfl)) pe_int (nomark _))
        (pss_cons (ps_set (i := 2) scDraw.nd rfl (.inl rfl) (pe_op op_modN (pe_ix ix_list (pv 0) pe_int (fun _ _ => rfl)) (pv 1)))
        (pss_cons (ps_asg (pe_op op_fdivW (pe_ix ix_list (pv 0) pe_int (fun _ _ => rfl)) (pv 1)) (pg_sub (pv 0) pe_int set_list))
        (pss_one (ps_ret (pv 2))))) pss_nil)
      (pss_cons (ps_set (i := 3) scDraw.nd rfl (.inl rfl) pe_int)
      (pss_cons (ps_for PassesOwn.never rfl (pi_range1 rfl mr (pa_cons (pe_op op_add pe_int (pe_op op_fdivN (pe_bits (pv 1)) pe_int)) pa_nil)) (pg_name (i := 4) scDraw.nd rfl (.inl rfl))
        (pss_cons (ps_asg (pe_op op_add (pe_ix ix_list (pv 0) pe_int (fun _ _ => rfl)) pe_int) (pg_sub (pv 0) pe_int set_list))
        (pss_one (ps_set (i := 3) scDraw.nd rfl (.inl rfl) (pe_op op_add (pe_op op_mul (pv 3) pe_int)
          (pe_call GM hr (by rfl) gM FM.kp bM .nil pass0 (pa_cons (pe_ix ix_list (pv 0) pe_int (fun _ _ => rfl)) (pa_cons (pe_ix ix_list (pv 0) pe_int (fun _ _ => rfl)) (pa_cons (pe_ix ix_list (pv 0) pe_int (fun _ _ => rfl)) pa_nil))))))))) 
      (pss_one (ps_ret (pe_op op_modN (pv 3) (pv 1)))))), ?_⟩
    have hS : SqL K H p [.int a, .int b, .int c, .int d] := .inl (.inl hp)
    refine ⟨.ref p, rfl, p, _, 0, .int a, rfl, rfl, hS, rfl, _, _, rfl, rfl, _, rfl, ite2 (fun e => ?_) (fun e => ?_)⟩
    · have ea : 0 < a := of_decide_eq_true e
      refine ⟨.ref p, rfl, p, _, 0, .int a, rfl, rfl, hS, rfl, _, rfl, _, _, rfl, rfl, (by show m ≠ 0; omega), ?_⟩
      refine ⟨.ref p, rfl, p, _, 0, .int a, rfl, rfl, hS, rfl, _, rfl, _, _, rfl, rfl, wide_div (by omega) hm2 (by decide) (by decide), ?_⟩
      refine ⟨.ref p, rfl, p, _, 0, 0, rfl, rfl, hp, rfl, _, rfl, ?_⟩
      have z := ediv_lt_self' ha.1 ha.2 hm1
      have y := fmod_in (a := a) (b := m) (by omega)
      exact q _ _ (But.refl.upd) ⟨a / m, b, c, d, upd_same, z, hb, ⟨hc.1, by omega⟩, hd⟩ y.1 y.2
    · have tl := turns_le hm2
      refine ⟨_, rfl, _, rfl, _, 28, rfl, rfl, ⟨by decide, by decide⟩, 1, _, rfl, rfl, _, rfl, by omega, by omega, ?_⟩
      refine for_range (lo := 0) (n := ((1 : Int) + ((Builtin.Int.intBits m : Nat) : Int).fdiv 28).toNat)
        (fun i σ H' => ∃ (v2 : Option V) (z : Int) (v4 : Option V), σ = [some (.ref p), some (.int m), v2, some (.int z), v4] ∧ But p H H' ∧ PurseAt H' p (n + i)) ⟨_, _, _, rfl, But.refl, ⟨a, b, c, d, hp, ha, hb, hc, hd⟩⟩ ?_ ?_
      · rintro i σ H' hi ⟨v2, z, v4, rfl, hB, a', b', c', d', hp', ha', hb', hc', hd'⟩
        have hS' : SqL K H' p [.int a', .int b', .int c', .int d'] := .inl (.inl hp')
        refine ⟨.ref p, rfl, p, _, 2, .int c', rfl, rfl, hS', rfl, _, _, rfl, rfl, .ref p, rfl, p, _, 2, 2, rfl, rfl, hp', rfl, ?_⟩
        have hS2 : SqL K (upd H' p (.lst [.int a', .int b', .int (c' + 1), .int d'])) p [.int a', .int b', .int (c' + 1), .int d'] := .inl (.inl upd_same)
        refine ⟨_, rfl, _, _, rfl, rfl, .inr ⟨by decide, by decide⟩, ?_⟩
        refine ⟨.ref p, rfl, p, _, 1, .int b', rfl, rfl, hS2, rfl, .ref p, rfl, p, _, 2, .int (c' + 1), rfl, rfl, hS2, rfl, .ref p, rfl, p, _, 3, .int d', rfl, rfl, hS2, rfl, ?_⟩
        refine ⟨b', c' + 1, d', rfl, hb', ⟨by omega, by omega⟩, hd', fun r hr0 hr1 => ?_⟩
        exact ⟨_, _, rfl, rfl, v2, _, _, rfl, hB.upd, a', b', c' + 1, d', upd_same, ha', hb', ⟨by omega, by omega⟩, hd'⟩
      · rintro σ H' ⟨v2, z, v4, rfl, hB, hP⟩
        have y := fmod_in (a := z) (b := m) (by omega)
        exact ⟨_, rfl, _, rfl, _, _, rfl, rfl, (by show m ≠ 0; omega), q _ _ hB (hP.mono (by omega)) y.1 y.2⟩
end
end Eld
end L2

set_option Elab.async false
set_option linter.all false
set_option maxRecDepth 100000
set_option maxHeartbeats 4000000
namespace L2
namespace Eld
open PySem PySem.Spec PyProof.Rows PySem.EldX
theorem none_of_same {H H' : Hp} {p : Addr} (s : Same H H') (n : H' p = none) : H p = none := by
  cases e : H p with
  | none => rfl
  | some o =>
    rw [s _ _ e] at n
    cases n
theorem PurseAt.some {H : Hp} {p : Addr} {n : Nat} (h : PurseAt H p n) : ∃ o, H p = some o := by
  obtain ⟨a, b, c, d, e, _⟩ := h
  exact ⟨_, e⟩
theorem PurseAt.of_eq {H H' : Hp} {p : Addr} {n : Nat} (h : PurseAt H p n) (e : H' p = H p) : PurseAt H' p n := by
  obtain ⟨a, b, c, d, q, r⟩ := h
  exact ⟨a, b, c, d, e.trans q, r⟩
theorem PurseAt.same {H H' : Hp} {p : Addr} {n : Nat} (h : PurseAt H p n) (s : Same H H') : PurseAt H' p n := by
  obtain ⟨a, b, c, d, q, r⟩ := h
  exact ⟨a, b, c, d, s _ _ q, r⟩
section
variable {P : Program} {w : World} {K : PySem.W.Frag} {mg : Str → Option Value} {base : Heap}
/-! ### _law_purses -/
def spPurses (K : PySem.W.Frag) : Sp := fun vs H Q _ => ∃ (a : Addr) (ns : List Int) (few : Int), vs = [.ref a, .int few] ∧ SqL K H a (ns.map V.int) ∧ ns.length ≤ 63 ∧ (1 ≤ few ∧ few ≤ 63) ∧
  ∀ (H' : Hp) (p : Addr) (ps : List Addr), Same H H' → H p = none → H' p = some (.lst (ps.map V.ref)) → (∀ x ∈ ps, H x = none ∧ x ≠ p ∧ PurseAt H' x 0) → ps.Nodup → ps.length ≤ 63 → Q (.ref p) H'
theorem ok_purses {f fP : Addr} {fd fdP : FuncData} (F : Fun K "_law_purses" "_law_purses" sPurses f fd) (FP : Fun K "_law_purse" "_law_purse" sPurse fP fdP) (gP : mg "_law_purse" = some (.ref fP))
    (mr : mg "range" = none) (mm : mg "max" = none) (mi : mg "min" = none) (ml : mg "len" = none) (ms : mg "sum" = none) : FnOk P w K mg base CX0 2 f fd ["_law_script", "_law_few_here"] (spPurses K) := by
  have GP : FnOk P w K mg base CX0 1 fP fdP ["_law_script", "_law_at"] (spPurse K) := ok_purse FP ms mm
  have bP : Binds K fdP ["_law_script", "_law_at"] [] := FP.binds fun _ _ _ _ _ _ us hl => match us, hl with | [_, _], _ => rfl
  refine F.ok scPurses (fun vs H Q E h => ?_) (fun cdv A outer s H vs Q E hr h => ?_)
  · obtain ⟨a, ns, few, rfl, _⟩ := h
    rfl
  · obtain ⟨a, ns, few, rfl, hS, hn, hf, q⟩ := h
    refine ⟨_, pss_one (ps_ret (pe_lc (own := [("_law_at", 2)]) (g := gName 2) (tt := tYes) rfl scPurses.nd
      (pi_range1 rfl mr (pa_cons (pe_callB (call_max2 rfl) (by rfl) mm (by decide +kernel) (pa_cons pe_int (pa_cons (pe_callB (call_min2 rfl) (by rfl) mi (by decide +kernel)
        (pa_cons (pv 1) (pa_cons (pe_callB call_len_seq (by rfl) ml PySem.boot_len (pa_cons (pv 0) pa_nil)) pa_nil))) pa_nil))) pa_nil))
      (blkOk_by (own := [("_law_at", 2)]) (N := ["_law_script", "_law_few_here", "_law_at"]) (sc := defScope sPurses) (by decide +kernel)) (fun _ _ _ _ _ => pg_name (i := 2) scPurses.nd rfl (.inl rfl)) (fun _ _ _ _ _ => pts_nil)
      (fun _ _ _ _ _ => pe_call GP hr (by rfl) gP FP.kp bP .nil pass0 (pa_cons (pv 0) (pa_cons (pv 2) pa_nil))))), ?_⟩
    refine ⟨_, rfl, .ref a, rfl, a, _, rfl, .inl hS, _, _, rfl, _, _, rfl, _, rfl, ?_⟩
    have len : ((ns.map V.int).length : Int) ≤ 63 := by
      rw [List.length_map]
      omega
    have m0 : 0 ≤ ((ns.map V.int).length : Int) := by omega
    generalize ((ns.map V.int).length : Int) = L at len m0
    have r1 : (1 : Int) ≤ (if (if L < few then L else few) > 1 then (if L < few then L else few) else 1) := by
      split <;> split <;> omega
    have r2 : (if (if L < few then L else few) > 1 then (if L < few then L else few) else 1) ≤ 63 := by
      split <;> split <;> omega
    generalize (if (if L < few then L else few) > 1 then (if L < few then L else few) else 1) = m at r1 r2
    refine ⟨by omega, by omega, fun D hD => ?_⟩
    refine lc_range (lo := 0) (n := m.toNat) (fun i H' => ∃ ps : List Addr, ps.length = i ∧ Same H H' ∧ H' D = some (.lst (ps.map V.ref)) ∧ (∀ x ∈ ps, H x = none ∧ x ≠ D ∧ PurseAt H' x 0) ∧ ps.Nodup)
      ⟨[], rfl, same_new hD, upd_same, (fun _ z => nomatch z), List.nodup_nil⟩ ?_ ?_
    · rintro i H' hi ⟨ps, hl, sm, hd, hp, nd⟩
      refine ⟨rfl, .ref a, rfl, _, rfl, a, ns, _, rfl, sm.seq hS, ⟨by omega, by omega⟩, fun H2 p s2 np h2 => ?_⟩
      refine ⟨ps.map V.ref, s2 _ _ hd, by rw [List.length_map]; exact small1000 (by omega), ps ++ [p], by rw [List.length_append, hl]; rfl, fun b z e => ?_, by rw [upd_same, List.map_append]; rfl, fun x hx => ?_, ?_⟩
      · rw [upd_ne (ne_of_none e hD)]
        exact s2 _ _ (sm _ _ e)
      · have pD : p ≠ D := fun z => by
          rw [z, hd] at np
          cases np
        rcases List.mem_append.mp hx with hx | hx
        · obtain ⟨e1, e2, e3⟩ := hp x hx
          exact ⟨e1, e2, (e3.same s2).of_eq (upd_ne e2)⟩
        · obtain rfl := List.mem_singleton.mp hx
          exact ⟨none_of_same sm np, pD, h2.of_eq (upd_ne pD)⟩
      · rw [List.nodup_append]
        refine ⟨nd, by simp, fun x hx y hy e => ?_⟩
        obtain rfl := List.mem_singleton.mp hy
        subst e
        obtain ⟨_, _, e3⟩ := hp x hx
        obtain ⟨o, e4⟩ := e3.some
        rw [np] at e4
        cases e4
    · rintro H' ⟨ps, hl, sm, hd, hp, nd⟩
      exact q H' D ps sm hD hd hp nd (by omega)
theorem small_bits {n : Nat} (h : n ≤ 1000) : ((n : Nat) : Int).natAbs < 2 ^ 1000 := by
  rw [Int.natAbs_natCast]
  exact Nat.lt_of_le_of_lt h (by decide +kernel)
/-! ### _law_word -/
/-- a word: one to ten signs a to z -/
def IsWord (x : Str) : Prop := 1 ≤ x.length ∧ x.length ≤ 10 ∧ ∀ c ∈ x.cps.toList, 97 ≤ c ∧ c ≤ 122
def spWord : Sp := fun vs H Q _ => ∃ (p : Addr) (n : Nat), vs = [.ref p] ∧ PurseAt H p n ∧ n ≤ 90000000000 ∧ ∀ (H' : Hp) (x : Str), But p H H' → PurseAt H' p (n + 440) → IsWord x → Q (.str x) H'
theorem letter : ∀ j : Fin 26, atI (("abcdefghijklmnopqrstuvwxyz" : Str)).cps.toList ((j.val : Nat) : Int) = some (97 + j.val) := by decide +kernel
theorem ok_word {f fD fM : Addr} {fd fdD fdM : FuncData} (F : Fun K "_law_word" "_law_word" sWord f fd) (FD : Fun K "_law_draw" "_law_draw" sDraw fD fdD) (FM : Fun K "_law_mixed" "_law_mixed" sMixed fM fdM)
    (gD : mg "_law_draw" = some (.ref fD)) (gM : mg "_law_mixed" = some (.ref fM)) (mr : mg "range" = none) : FnOk P w K mg base CX0 3 f fd ["_law_purse_here"] spWord := by
  have GD : FnOk P w K mg base CX0 2 fD fdD ["_law_purse_here", "_law_many"] spDraw := ok_draw FD FM gM mr
  have bD : Binds K fdD ["_law_purse_here", "_law_many"] [] := FD.binds fun _ _ _ _ _ _ us hl => match us, hl with | [_, _], _ => rfl
  refine F.ok scWord (fun vs H Q E h => ?_) (fun cdv A outer s H vs Q E hr h => ?_)
  · obtain ⟨p, n, rfl, _⟩ := h
    rfl
  · obtain ⟨p, n, rfl, hp, hn, q⟩ := h
    refine ⟨_, pss_cons (ps_set (i := 1) scWord.nd rfl (.inl rfl) pe_str)
      (pss_cons (ps_for PassesOwn.never rfl (pi_range1 rfl mr (pa_cons (pe_op op_add pe_int (pe_call GD hr (by rfl) gD FD.kp bD .nil pass0 (pa_cons (pv 0) (pa_cons pe_int pa_nil)))) pa_nil)) (pg_name (i := 2) scWord.nd rfl (.inl rfl))
        (pss_one (ps_set (i := 1) scWord.nd rfl (.inl rfl) (pe_op op_add_str (pv 1) (pe_ix ix_str pe_str (pe_call GD hr (by rfl) gD FD.kp bD .nil pass0 (pa_cons (pv 0) (pa_cons pe_int pa_nil))) (fun _ _ => rfl))))))
      (pss_one (ps_ret (pv 1)))), ?_⟩
    refine ⟨.ref p, rfl, p, 10, n, rfl, hp, by omega, by decide, by decide +kernel, fun H1 r hB hP r0 r1 => ?_⟩
    refine ⟨_, _, rfl, rfl, _, rfl, by omega, by omega, ?_⟩
    refine for_range (lo := 0) (n := (1 + r).toNat)
      (fun i σ H' => ∃ (x : Str) (v2 : Option V), σ = [some (.ref p), some (.str x), v2] ∧ But p H H' ∧ PurseAt H' p (n + 40 + 40 * i) ∧ x.length = i ∧ ∀ c ∈ x.cps.toList, 97 ≤ c ∧ c ≤ 122) ⟨_, _, rfl, hB, hP, rfl, fun c z => by cases z⟩ ?_ ?_
    · rintro i σ H' hi ⟨x, v2, rfl, hB', hP', hl, hc⟩
      refine ⟨_, rfl, .ref p, rfl, p, 26, _, rfl, hP', by omega, by decide, by decide +kernel, fun H2 r2 hB2 hP2 z0 z1 => ?_⟩
      have hj : r2.toNat < 26 := by omega
      have er : r2 = ((r2.toNat : Nat) : Int) := by omega
      have le := letter ⟨r2.toNat, hj⟩
      rw [← er] at le
      refine ⟨_, r2, _, rfl, rfl, by decide +kernel, le, _, _, rfl, rfl, ?_, ?_⟩
      · rw [hl, sizeLine_eq]
        show i + 1 ≤ 16777216
        omega
      · refine ⟨_, _, rfl, hB'.trans hB2, hP2.mono (by omega), ?_, fun c z => ?_⟩
        · rw [strLen_append, hl]
          rfl
        · rw [Str.cps_append, Array.toList_append] at z
          rcases List.mem_append.mp z with z | z
          · exact hc c z
          · have z' : c ∈ [97 + r2.toNat] := z
            obtain rfl := List.mem_singleton.mp z'
            omega
    · rintro σ H' ⟨x, v2, rfl, hB', hP', hl, hc⟩
      exact ⟨_, rfl, q H' x hB' (hP'.mono (by omega)) ⟨by omega, by omega, hc⟩⟩
end
end Eld
end L2

set_option Elab.async false
set_option linter.all false
set_option maxRecDepth 100000
set_option maxHeartbeats 4000000
/-! ## the checks of the program -/
namespace L2
namespace Eld
open PySem PySem.Spec PyProof.Rows PySem.EldX
/-- names of the library's that the module leaves as they are -/
structure Blt (mg : Str → Option Value) : Prop where
  len : mg "len" = none
  isinstance : mg "isinstance" = none
  int : mg "int" = none
  bool : mg "bool" = none
  str : mg "str" = none
  list : mg "list" = none
  set : mg "set" = none
  all : mg "all" = none
  sorted : mg "sorted" = none
  tuple : mg "tuple" = none
  range : mg "range" = none
  min : mg "min" = none
  max : mg "max" = none
  sum : mg "sum" = none
  repr : mg "repr" = none
/-- a list's type -/
theorem tyx_list {K : PySem.W.Frag} {H : Hp} {l : Addr} {xs : List V} (h : SqL K H l xs) : TyX K H (.ref l) (.type "list") := by
  rcases h with (h | ⟨o, h⟩) | ⟨o, vs, n, h, c, _⟩
  · exact .base (.lst h)
  · exact .base (.frz h)
  · exact .kList h c
theorem length_word {x : Str} (h : IsWord x) : x.length ≤ sizeLine := Nat.le_trans h.2.1 (by decide)
section
variable {P : Program} {w : World} {K : PySem.W.Frag} {mg : Str → Option Value} {base : Heap}
/-! ### is_whole -/
def spWhole : Sp := fun vs H Q _ => ∃ i : Int, vs = [.int i] ∧ Q (.bl true) H
theorem ok_whole {f : Addr} {fd : FuncData} {k : Nat} (F : Fun K "is_whole" "is_whole" sWhole f fd) (B : Blt mg) : FnOk P w K mg base CX0 (k + 1) f fd ["value"] spWhole := by
  refine F.ok scWhole (fun vs H Q E h => ?_) (fun cdv A outer s H vs Q E hr h => ?_)
  · obtain ⟨i, rfl, _⟩ := h
    rfl
  · obtain ⟨i, rfl, q⟩ := h
    refine ⟨_, (pss_one (ps_ret (pe_and (pe_callB call_isi (by rfl) B.isinstance (by decide +kernel) (pa_cons (pv 0) (pa_cons (pe_bltn (v := .ty "int") rfl B.int (by decide +kernel) rfl) pa_nil))) (pe_one (pe_not (pe_callB call_isi (by rfl) B.isinstance (by decide +kernel) (pa_cons (pv 0) (pa_cons (pe_bltn (v := .ty "bool") rfl B.bool (by decide +kernel) rfl) pa_nil)))))))), ?_⟩
    refine ⟨.int i, rfl, .int i, .ty "int", _, _, true, rfl, .ty _, .base (.int i), kit_ty (by decide +kernel), true, rfl, iteT ?_⟩
    exact ⟨.int i, rfl, .int i, .ty "bool", _, _, false, rfl, .ty _, .base (.int i), kit_ty (by decide +kernel), false, rfl, q⟩
/-! ### is_name -/
def spIsName : Sp := fun vs H Q _ => ∃ x : Str, vs = [.str x] ∧ IsWord x ∧ ∀ H', Same H H' → Q (.bl true) H'
theorem word_sign {x : Str} {c : Nat} {i : Nat} (h : IsWord x) (e : x.cps[i]? = some c) : 97 ≤ c ∧ c ≤ 122 := h.2.2 c (Array.mem_toList_iff.mpr (Array.mem_of_getElem? e))
theorem sign_in {c : Nat} (h : 97 ≤ c ∧ c ≤ 122) : (!decide ((⟨#[c]⟩ : Str).cps.toList < ("a" : Str).cps.toList)) = true ∧ (!decide (("z" : Str).cps.toList < (⟨#[c]⟩ : Str).cps.toList)) = true := by
  have ea : ("a" : Str).cps.toList = [97] := by decide +kernel
  have ez : ("z" : Str).cps.toList = [122] := by decide +kernel
  rw [ea, ez]
  refine ⟨?_, ?_⟩
  · rw [Bool.not_eq_true', decide_eq_false_iff_not]
    intro z
    rcases List.cons_lt_cons_iff.mp z with z | ⟨_, z⟩
    · omega
    · cases z
  · rw [Bool.not_eq_true', decide_eq_false_iff_not]
    intro z
    rcases List.cons_lt_cons_iff.mp z with z | ⟨_, z⟩
    · omega
    · cases z
theorem all_true {bs : List Bool} (h : ∀ (i : Nat) b, bs[i]? = some b → b = true) : bs.all id = true := List.all_eq_true.mpr fun b hb => by
  obtain ⟨i, hi⟩ := List.mem_iff_getElem?.mp hb
  exact h i b hi
theorem bls_of {acc : List V} (h : ∀ (i : Nat) y, acc[i]? = some y → y = V.bl true) : acc = (List.replicate acc.length true).map V.bl := by
  refine List.ext_getElem? fun i => ?_
  cases e : acc[i]? with
  | none => simp [List.getElem?_eq_none_iff.mp e]
  | some y =>
    have hi : i < acc.length := (List.getElem?_eq_some_iff.mp e).1
    rw [h i y e]
    simp [hi]
theorem ok_isName {f : Addr} {fd : FuncData} {k : Nat} (F : Fun K "is_name" "is_name" sIsName f fd) (B : Blt mg) : FnOk P w K mg base CX0 (k + 1) f fd ["value"] spIsName := by
  refine F.ok scIsName (fun vs H Q E h => ?_) (fun cdv A outer s H vs Q E hr h => ?_)
  · obtain ⟨x, rfl, _⟩ := h
    rfl
  · obtain ⟨x, rfl, hx, q⟩ := h
    refine ⟨_, (pss_cons (ps_if (PW.pt (pw_or (pt_not (pt_val (pe_callB call_isi (by rfl) B.isinstance (by decide +kernel) (pa_cons (pv 0) (pa_cons (pe_bltn (v := .ty "str") rfl B.str (by decide +kernel) rfl) pa_nil))))) (pw_or1 (pt_not (pt_chain op_le op_le pe_int (pe_callB call_len_str (by rfl) B.len PySem.boot_len (pa_cons (pv 0) pa_nil)) pe_int))))) (pss_one (ps_ret pe_bl)) pss_nil)
      (pss_one (ps_ret (pe_callB (cr_all rfl) (by rfl) B.all (by decide +kernel) (pa_cons (pe_lc (own := [("sign", 1)]) (g := gName 1) (tt := tYes) rfl scIsName.nd (pi_str (pv 0)) (blkOk_by (own := [("sign", 1)]) (N := NIsName) (sc := defScope sIsName) (by decide +kernel)) (fun _ _ _ _ _ => pg_name (i := 1) scIsName.nd rfl (.inl rfl)) (fun _ _ _ _ _ => pts_nil) (fun _ _ _ _ _ => (pe_chain op_le_str op_le_str pe_str (pv 1) pe_str))) pa_nil))))), ?_⟩
    refine ⟨.str x, rfl, .str x, .ty "str", _, _, true, rfl, .ty _, .base (.str x), kit_ty (by decide +kernel), true, rfl, iteF ?_⟩
    refine ⟨.str x, rfl, x, rfl, length_word hx, 1, _, rfl, rfl, true, congrArg V.bl (decide_eq_true (by have := hx.1; omega)), iteT ?_⟩
    refine ⟨_, 10, rfl, rfl, true, congrArg V.bl (decide_eq_true (by have := hx.2.1; omega)), iteF ?_⟩
    refine ⟨.str x, rfl, x, rfl, fun D hD => ?_⟩
    refine lc_out walk_str (fun _ y _ => y = .bl true) (Nat.lt_of_le_of_lt (show x.cps.size ≤ 10 from hx.2.1) (by decide)) hD (fun _ _ => trivial) (fun _ _ _ _ y => y.1) (fun _ _ _ _ _ _ _ o => o) ?_ ?_
    · rintro i v G hi sG ⟨_, c, hc, rfl⟩ R hR
      obtain ⟨z1, z2⟩ := sign_in (word_sign hx hc)
      exact ⟨rfl, .str _, rfl, _, _, rfl, rfl, true, congrArg V.bl z1, iteT ⟨_, _, rfl, rfl, hR _ _ (Same.refl _) (congrArg V.bl z2)⟩⟩
    · intro G acc sG hG hl ho
      have e := bls_of ho
      rw [e] at hG
      refine ⟨D, List.replicate acc.length true, rfl, SqL.of hG, ?_⟩
      rw [all_true fun i b hb => by
        have := List.getElem?_eq_some_iff.mp hb
        obtain ⟨h1, h2⟩ := this
        rw [← h2, List.getElem_replicate]]
      exact q G sG
/-! ### are_unlike -/
def spUnlike (K : PySem.W.Frag) : Sp := fun vs H Q _ => ∃ (l : Addr) (ys : List Str), vs = [.ref l] ∧ SqL K H l (ys.map V.str) ∧ ys.length ≤ 1000 ∧ ∀ H', Same H H' → Q (.bl (decide ys.Nodup)) H'
theorem ok_unlike {f : Addr} {fd : FuncData} {k : Nat} (F : Fun K "are_unlike" "are_unlike" sUnlike f fd) (B : Blt mg) : FnOk P w K mg base CX0 (k + 1) f fd ["names"] (spUnlike K) := by
  refine F.ok scUnlike (fun vs H Q E h => ?_) (fun cdv A outer s H vs Q E hr h => ?_)
  · obtain ⟨l, ys, rfl, _⟩ := h
    rfl
  · obtain ⟨l, ys, rfl, hS, hz, q⟩ := h
    refine ⟨_, (pss_one (ps_ret (pe_cmpR op_eq (pe_callB cr_lenS (by rfl) B.len PySem.boot_len (pa_cons (pe_callTy (cr_setS rfl) (by rfl) B.set (by decide +kernel) (pa_cons (pv 0) pa_nil)) pa_nil)) (pe_callB call_len_seq (by rfl) B.len PySem.boot_len (pa_cons (pv 0) pa_nil)) (nomark _)))), ?_⟩
    refine ⟨.ref l, rfl, l, ys, rfl, hS, hz, fun p m np hm hn => ?_⟩
    have s1 : Same H (upd H p (SetSO w p (fun j => decide (j ∈ ys)) m)) := Same.fresh np
    refine ⟨p, _, m, rfl, upd_same, .ref l, rfl, l, ys.map V.str, rfl, .inl (s1.seq hS), rfl, ?_⟩
    have e : decide (V.int (m : Int) = V.int ((ys.map V.str).length : Nat)) = decide ys.Nodup := by
      rw [List.length_map]
      refine decide_eq_decide.mpr ?_
      rw [V.int.injEq, ← hn]
      omega
    show Q (V.bl (decide (V.int (m : Int) = V.int ((ys.map V.str).length : Nat)))) _
    rw [e]
    exact q _ s1
/-! ### are_names -/
def spAreNames (K : PySem.W.Frag) : Sp := fun vs H Q _ => ∃ (l : Addr) (ys : List Str), vs = [.ref l] ∧ SqL K H l (ys.map V.str) ∧ ys.length ≤ 1000 ∧ (∀ y ∈ ys, IsWord y) ∧ ∀ H', Same H H' → Q (.bl (decide ys.Nodup)) H'
/-- the checks, where they stand -/
structure Chk (K : PySem.W.Frag) (mg : Str → Option Value) (fIsName fUnlike : Addr) (dIsName dUnlike : FuncData) : Prop where
  IsName : Fun K "is_name" "is_name" sIsName fIsName dIsName
  Unlike : Fun K "are_unlike" "are_unlike" sUnlike fUnlike dUnlike
  gIsName : mg "is_name" = some (.ref fIsName)
  gUnlike : mg "are_unlike" = some (.ref fUnlike)
theorem Chk.bIsName {f1 f2 : Addr} {d1 d2 : FuncData} (L : Chk K mg f1 f2 d1 d2) : Binds K d1 ["value"] [] := L.IsName.binds fun _ _ _ _ _ _ us hl => match us, hl with | [_], _ => rfl
theorem Chk.bUnlike {f1 f2 : Addr} {d1 d2 : FuncData} (L : Chk K mg f1 f2 d1 d2) : Binds K d2 ["names"] [] := L.Unlike.binds fun _ _ _ _ _ _ us hl => match us, hl with | [_], _ => rfl
theorem ok_areNames {f f1 f2 : Addr} {fd d1 d2 : FuncData} (F : Fun K "are_names" "are_names" sAreNames f fd) (L : Chk K mg f1 f2 d1 d2) (B : Blt mg) : FnOk P w K mg base CX0 2 f fd ["value"] (spAreNames K) := by
  have GIsName : FnOk P w K mg base CX0 1 f1 d1 ["value"] spIsName := ok_isName L.IsName B
  have GUnlike : FnOk P w K mg base CX0 1 f2 d2 ["names"] (spUnlike K) := ok_unlike L.Unlike B
  refine F.ok scAreNames (fun vs H Q E h => ?_) (fun cdv A outer s H vs Q E hr h => ?_)
  · obtain ⟨l, ys, rfl, _⟩ := h
    rfl
  · obtain ⟨l, ys, rfl, hS, hz, hw, q⟩ := h
    refine ⟨_, (pss_cons (ps_if (PW.pt (pw_or (pt_not (pt_val (pe_callB call_isi (by rfl) B.isinstance (by decide +kernel) (pa_cons (pv 0) (pa_cons (pe_bltn (v := .ty "list") rfl B.list (by decide +kernel) rfl) pa_nil))))) (pw_or1 (pt_not (pt_val (pe_callB (cr_all rfl) (by rfl) B.all (by decide +kernel) (pa_cons (pe_lc (own := [("name", 1)]) (g := gName 1) (tt := tYes) rfl scAreNames.nd (pi_list (pv 0)) (blkOk_by (own := [("name", 1)]) (N := NAreNames) (sc := defScope sAreNames) (by decide +kernel)) (fun _ _ _ _ _ => pg_name (i := 1) scAreNames.nd rfl (.inl rfl)) (fun _ _ _ _ _ => pts_nil) (fun _ _ _ _ _ => (pe_call GIsName (hr.mono (by decide)) (by rfl) L.gIsName L.IsName.kp L.bIsName .nil pass0 (pa_cons (pv 1) pa_nil)))) pa_nil))))))) (pss_one (ps_ret pe_bl)) pss_nil)
      (pss_one (ps_ret (pe_call GUnlike (hr.mono (by decide)) (by rfl) L.gUnlike L.Unlike.kp L.bUnlike .nil pass0 (pa_cons (pv 0) pa_nil))))), ?_⟩
    refine ⟨.ref l, rfl, .ref l, .ty "list", _, _, true, rfl, .ty _, tyx_list hS, kit_ty (by decide +kernel), true, rfl, iteF ?_⟩
    refine ⟨.ref l, rfl, l, rfl, ⟨_, hS⟩, fun D hD => ?_⟩
    refine lc_out walk_list (fun _ y _ => y = .bl true) (by rw [List.length_map, sizeLine_eq]; omega) hD (fun G s => s.seq hS) (fun _ _ _ _ y => y.1) (fun _ _ _ _ _ _ _ o => o) ?_ ?_
    · rintro i v G hi sG ⟨_, hv⟩ R hR
      obtain ⟨y, hy, rfl⟩ : ∃ y, ys[i]? = some y ∧ v = V.str y := by
        rw [List.getElem?_map] at hv
        cases e : ys[i]? with
        | none => rw [e] at hv; cases hv
        | some y => rw [e] at hv; exact ⟨y, rfl, (Option.some.inj hv).symm⟩
      exact ⟨rfl, .str y, rfl, y, rfl, hw y (List.mem_of_getElem? hy), fun G' s' => hR _ G' s' rfl⟩
    · intro G acc sG hG hl ho
      have e := bls_of ho
      rw [e] at hG
      refine ⟨D, List.replicate acc.length true, rfl, SqL.of hG, true, congrArg V.bl (all_true fun i b hb => ?_), iteF ?_⟩
      · obtain ⟨h1, h2⟩ := List.getElem?_eq_some_iff.mp hb
        rw [← h2, List.getElem_replicate]
      · exact ⟨.ref l, rfl, l, ys, rfl, sG.seq hS, hz, fun G' s' => q G' (sG.trans s')⟩
end
end Eld
end L2

set_option Elab.async false
set_option linter.all false
set_option maxRecDepth 100000
set_option maxHeartbeats 4000000
/-! ## askers -/
namespace L2
namespace Eld
open PySem PySem.Spec PyProof.Rows PySem.EldX
/-- what an asker is made of -/
structure Ask where
  nm : Str
  ks : List Str
  m : Int
theorem Ask.ext' {a b : Ask} (h1 : a.nm = b.nm) (h2 : a.ks = b.ks) (h3 : a.m = b.m) : a = b := by
  cases a
  cases b
  cases h1
  cases h2
  cases h3
  rfl
instance : DecidableEq Ask := fun a b =>
  if h1 : a.nm = b.nm then if h2 : a.ks = b.ks then if h3 : a.m = b.m then .isTrue (Ask.ext' h1 h2 h3) else .isFalse fun e => h3 (e ▸ rfl) else .isFalse fun e => h2 (e ▸ rfl) else .isFalse fun e => h1 (e ▸ rfl)
abbrev afs (nm : Str) (t : Addr) (m : Int) : List (Str × V) := [(("_name" : Str), .str nm), (("_fits" : Str), .ref t), (("_most" : Str), .int m)]
/-- the asker k at a -/
def AskAt (C : Addr) (H : Hp) (a : Addr) (k : Ask) : Prop := ∃ dx t : Addr, H a = some (.ins C dx (afs k.nm t k.m)) ∧ H t = some (.tup (k.ks.map V.str))
theorem AskAt.same {C : Addr} {H H' : Hp} {a : Addr} {k : Ask} (h : AskAt C H a k) (s : Same H H') : AskAt C H' a k := by
  obtain ⟨dx, t, h1, h2⟩ := h
  exact ⟨dx, t, s _ _ h1, s _ _ h2⟩
/-- .. where nothing but a list changes -/
theorem AskAt.off {C D : Addr} {H H' : Hp} {a : Addr} {k : Ask} {xs : List V} (h : AskAt C H a k) (hD : H D = some (.lst xs)) (s : ∀ b o, b ≠ D → H b = some o → H' b = some o) : AskAt C H' a k := by
  obtain ⟨dx, t, h1, h2⟩ := h
  refine ⟨dx, t, s _ _ (fun e => ?_) h1, s _ _ (fun e => ?_) h2⟩
  · rw [e, hD] at h1
    cases h1
  · rw [e, hD] at h2
    cases h2
theorem AskAt.ins {C : Addr} {H : Hp} {a : Addr} {k : Ask} (h : AskAt C H a k) : ∃ (dx : Addr) (fs : List (Str × V)), H a = some (.ins C dx fs) := by
  obtain ⟨dx, t, h1, _⟩ := h
  exact ⟨dx, _, h1⟩
theorem strs_inj {xs ys : List Str} (h : xs.map V.str = ys.map V.str) : xs = ys := List.map_inj_right (fun a b e => by cases e; rfl) |>.mp h
/-- there is one asker at an address -/
theorem AskAt.unique {C : Addr} {H : Hp} {a : Addr} {k k' : Ask} (h : AskAt C H a k) (h' : AskAt C H a k') : k = k' := by
  obtain ⟨dx, t, h1, h2⟩ := h
  obtain ⟨dx', t', h1', h2'⟩ := h'
  rw [h1] at h1'
  have e1 := Option.some.inj h1'
  injection e1 with _ _ e2
  simp only [List.cons.injEq, Prod.mk.injEq, V.str.injEq, V.ref.injEq, V.int.injEq, true_and, and_true] at e2
  obtain ⟨e3, e4, e5⟩ := e2
  subst e4
  rw [h2] at h2'
  have e6 := Option.some.inj h2'
  injection e6 with e7
  exact Ask.ext' e3 (strs_inj e7) e5
/-- what a valid asker is -/
structure AskOk (k : Ask) : Prop where
  nm : IsWord k.nm
  ks : ∀ y ∈ k.ks, IsWord y
  nd : k.ks.Nodup
  ne : k.ks ≠ []
  lt : k.ks.length < 64
  so : sortedS k.ks = true
  m : 1 ≤ k.m
/-- a plain class of one's own, asked by isinstance -/
structure InsC (K : PySem.W.Frag) (C : Addr) : Prop where
  cl : Cls K C
  ha : PySem.W.findIn K (.ref C) "__class__" = some (some (.builtin "object.__class__"))
  hn : PySem.W.specialIn K (.builtin "object.__class__") "__get__" = some (some (.builtin "getset_descriptor.__get__"))
  ht : PySem.W.takesIn K (.builtin "object.__class__") = some true
  hm : PySem.W.mroIn K C (.type "object") = some true
  me : PySem.W.kitOne K (.ref C) (.ref C) = some true
structure ACls (K : PySem.W.Frag) (C fI pN gN pF gF pM gM fE : Addr) : Prop where
  ins : InsC K C
  noN : NoAttr K C "_name"
  noF : NoAttr K C "_fits"
  noM : NoAttr K C "_most"
  make : Mk K C fI
  pN : PropOf K C "name" pN gN
  pF : PropOf K C "fits" pF gF
  pM : PropOf K C "most" pM gM
  own : OwnE K C fE
theorem tyx_ask {K : PySem.W.Frag} {C a : Addr} {H : Hp} {dx : Addr} {fs : List (Str × V)} (T : InsC K C) (h : H a = some (.ins C dx fs)) : TyX K H (.ref a) (.ref C) := .base (TyOf.ins h T.cl T.ha T.hn T.ht T.hm)
/-- a list that is tracked or written, away from an instance -/
theorem sql_off {K : PySem.W.Frag} {C a dx l : Addr} {H H' : Hp} {fs : List (Str × V)} {xs : List V} (h : SqL K H l xs) (ha : H a = some (.ins C dx fs)) (s : ∀ b o, b ≠ a → H b = some o → H' b = some o) : SqL K H' l xs := by
  rcases h with (h | ⟨o, h⟩) | h
  · exact .inl (.inl (s _ _ (fun e => by rw [e, ha] at h; cases h) h))
  · exact .inl (.inr ⟨o, s _ _ (fun e => by rw [e, ha] at h; cases h) h⟩)
  · exact .inr h
theorem off_upd {a : Addr} {H : Hp} {o : HO} : ∀ b u, b ≠ a → H b = some u → upd H a o b = some u := fun b u hb e => by
  rw [upd_ne hb]
  exact e
theorem putF_len {f : Str} {v : V} : ∀ fs : List (Str × V), (putF f v fs).length ≤ fs.length + 1
  | [] => Nat.le_refl _
  | (g, x) :: r => by
    have ih := putF_len (f := f) (v := v) r
    unfold putF
    split
    · simp
    · simp only [List.length_cons]
      omega
theorem putF_few {f : Str} {v : V} {fs : List (Str × V)} (h : fs.length < 900) : (putF f v fs).length < 1000 := Nat.lt_of_le_of_lt (putF_len fs) (by omega)
section
variable {P : Program} {w : World} {K : PySem.W.Frag} {mg : Str → Option Value} {base : Heap} {C fI pN gN pF gF pM gM fE : Addr}
/-- more checks, where they stand -/
structure Chk2 (K : PySem.W.Frag) (mg : Str → Option Value) (fWhole fAreNames : Addr) (dWhole dAreNames : FuncData) : Prop where
  Whole : Fun K "is_whole" "is_whole" sWhole fWhole dWhole
  AreNames : Fun K "are_names" "are_names" sAreNames fAreNames dAreNames
  gWhole : mg "is_whole" = some (.ref fWhole)
  gAreNames : mg "are_names" = some (.ref fAreNames)
theorem Chk2.bWhole {f1 f2 : Addr} {d1 d2 : FuncData} (L : Chk2 K mg f1 f2 d1 d2) : Binds K d1 ["value"] [] := L.Whole.binds fun _ _ _ _ _ _ us hl => match us, hl with | [_], _ => rfl
theorem Chk2.bAreNames {f1 f2 : Addr} {d1 d2 : FuncData} (L : Chk2 K mg f1 f2 d1 d2) : Binds K d2 ["value"] [] := L.AreNames.binds fun _ _ _ _ _ _ us hl => match us, hl with | [_], _ => rfl
/-! ### __init__ -/
def spAInit (K : PySem.W.Frag) (C : Addr) : Sp := fun vs H Q _ => ∃ (a dx l : Addr) (nm : Str) (ys : List Str) (m : Int), vs = [.ref a, .str nm, .ref l, .int m] ∧ H a = some (.ins C dx []) ∧ IsWord nm ∧ SqL K H l (ys.map V.str) ∧ (∀ y ∈ ys, IsWord y) ∧ ys.Nodup ∧ ys ≠ [] ∧ ys.length < 64 ∧ 1 ≤ m ∧
  ∀ (H' : Hp) (zs : List Str), (∀ b o, b ≠ a → H b = some o → H' b = some o) → AskAt C H' a ⟨nm, zs, m⟩ → zs.Perm ys → sortedS zs = true → Q .non H'
theorem ok_ainit {f f1 f2 f3 f4 : Addr} {fd d1 d2 d3 d4 : FuncData} (F : Fun K "__init__" "Asker.__init__" sAInit f fd) (L : Chk K mg f1 f2 d1 d2) (L2 : Chk2 K mg f3 f4 d3 d4) (B : Blt mg) (T : ACls K C fI pN gN pF gF pM gM fE) :
    FnOk P w K mg base CX0 3 f fd ["self", "name", "fits", "most"] (spAInit K C) := by
  have GIsName : FnOk P w K mg base CX0 1 f1 d1 ["value"] spIsName := ok_isName L.IsName B
  have GWhole : FnOk P w K mg base CX0 1 f3 d3 ["value"] spWhole := ok_whole L2.Whole B
  have GAreNames : FnOk P w K mg base CX0 2 f4 d4 ["value"] (spAreNames K) := ok_areNames L2.AreNames L B
  refine F.ok scAInit (fun vs H Q E h => ?_) (fun cdv A outer s H vs Q E hr h => ?_)
  · obtain ⟨a, dx, l, nm, ys, m, rfl, _⟩ := h
    rfl
  · obtain ⟨a, dx, l, nm, ys, m, rfl, ha, hnm, hS, hw, hnd, hne, hlt, hm, q⟩ := h
    refine ⟨_, (pss_cons (ps_if (pt_not (pt_val (pe_call GIsName (hr.mono (by decide)) (by rfl) L.gIsName L.IsName.kp L.bIsName .nil pass0 (pa_cons (pv 1) pa_nil)))) (pss_one (ps_dead _)) pss_nil)
      (pss_cons (ps_if (PW.pt (pw_or (pt_not (pt_val (pe_call GAreNames (hr.mono (by decide)) (by rfl) L2.gAreNames L2.AreNames.kp L2.bAreNames .nil pass0 (pa_cons (pv 2) pa_nil)))) (pw_or1 (pt_cmpR op_eq (pe_callB call_len_seq (by rfl) B.len PySem.boot_len (pa_cons (pv 2) pa_nil)) pe_int (nomark _))))) (pss_one (ps_dead _)) pss_nil)
      (pss_cons (ps_if (PW.pt (pw_or (pt_not (pt_val (pe_call GWhole (hr.mono (by decide)) (by rfl) L2.gWhole L2.Whole.kp L2.bWhole .nil pass0 (pa_cons (pv 3) pa_nil)))) (pw_or1 (pt_cmpR op_lt (pv 3) pe_int (nomark _))))) (pss_one (ps_dead _)) pss_nil)
      (pss_cons (ps_fld (pv 0) (pv 1) rfl)
      (pss_cons (ps_fld (pv 0) (pe_callTy call_tuple_of (by rfl) B.tuple (by decide +kernel) (pa_cons (pe_callB cr_sortedS (by rfl) B.sorted (by decide +kernel) (pa_cons (pv 2) pa_nil)) pa_nil)) rfl)
      (pss_one (ps_fld (pv 0) (pv 3) rfl))))))), ?_⟩
    refine ⟨.str nm, rfl, nm, rfl, hnm, fun H1 s1 => ⟨true, rfl, iteF ?_⟩⟩
    refine ⟨.ref l, rfl, l, ys, rfl, s1.seq hS, by omega, hw, fun H2 s2 => ⟨_, rfl, ?_⟩⟩
    rw [decide_eq_true hnd]
    have s12 := s1.trans s2
    refine iteF ⟨.ref l, rfl, l, _, rfl, .inl (s12.seq hS), rfl, _, rfl, ?_⟩
    have hpos : 0 < ys.length := List.length_pos_iff.mpr hne
    have e0 : decide (V.int ((ys.map V.str).length : Nat) = V.int 0) = false := by
      rw [List.length_map]
      refine decide_eq_false fun z => ?_
      rw [V.int.injEq] at z
      omega
    rw [e0]
    refine iteF ⟨.int m, rfl, m, rfl, true, rfl, iteF ⟨.int m, rfl, m, 1, rfl, rfl, _, rfl, ?_⟩⟩
    rw [decide_eq_false (by omega : ¬ m < 1)]
    refine iteF ⟨.str nm, rfl, .ref a, rfl, a, C, dx, [], rfl, s12 _ _ ha, T.ins.cl, T.noN, by decide, ?_⟩
    refine ⟨.ref l, rfl, l, ys, rfl, sql_off (s12.seq hS) (s12 _ _ ha) off_upd, hlt, fun zs p hp hs np => ?_⟩
    refine ⟨p, zs.map V.str, rfl, .inl ⟨.inl (.inl upd_same), fun t nt => ?_⟩⟩
    have npa : p ≠ a := fun e => by
      rw [e, upd_same] at np
      cases np
    have nta : t ≠ a := fun e => by
      rw [e, upd_ne (Ne.symm npa), upd_same] at nt
      cases nt
    refine ⟨.ref a, rfl, a, C, dx, _, rfl, by rw [upd_ne (Ne.symm nta), upd_ne (Ne.symm npa)]; exact upd_same, T.ins.cl, T.noF, putF_few (by decide), ?_⟩
    refine ⟨.int m, rfl, .ref a, rfl, a, C, dx, _, rfl, upd_same, T.ins.cl, T.noM, Nat.lt_of_le_of_lt (putF_len _) (Nat.lt_of_le_of_lt (Nat.succ_le_succ (putF_len _)) (by decide)), ?_⟩
    refine q _ zs (fun b o hb e => ?_) ⟨dx, t, upd_same, by rw [upd_ne nta, upd_ne nta]; exact upd_same⟩ hp hs
    have e2 := s12 b o e
    have e3 : upd H2 a (.ins C dx (putF "_name" (.str nm) [])) b = some o := by
      rw [upd_ne hb]
      exact e2
    rw [upd_ne hb, upd_ne hb, upd_ne (ne_of_none (by rw [upd_ne (ne_of_none e3 np)]; exact e3) nt), upd_ne (ne_of_none e3 np)]
    exact e3
/-- Asker(nm, l, m) -/
theorem made_asker {H1 : Hp} {Q : Addr → Hp → Prop} {E : XK} {nm : Str} {l : Addr} {ys : List Str} {m : Int} (hnm : IsWord nm) (hS : SqL K H1 l (ys.map V.str)) (hw : ∀ y ∈ ys, IsWord y) (hnd : ys.Nodup) (hne : ys ≠ []) (hlt : ys.length < 64) (hm : 1 ≤ m)
    (q : ∀ (H' : Hp) (x : Addr) (zs : List Str), Same H1 H' → H1 x = none → AskAt C H' x ⟨nm, zs, m⟩ → zs.Perm ys → sortedS zs = true → Q x H') :
    ∀ x dx, H1 x = none → H1 dx = none → dx ≠ x → spAInit K C (.ref x :: ([.str nm, .ref l, .int m] ++ [])) (upd (upd H1 dx (.own x)) x (.ins C dx [])) (fun v H2 => v = .non ∧ Q x H2) E := by
  intro x dx nx ndx ne
  have s1 : Same H1 (upd (upd H1 dx (.own x)) x (.ins C dx [])) := Same.put (Same.fresh ndx) nx
  refine ⟨x, dx, l, nm, ys, m, rfl, upd_same, hnm, s1.seq hS, hw, hnd, hne, hlt, hm, fun H' zs k A hp hs => ⟨rfl, q H' x zs (fun b o e => k b o (ne_of_none e nx) (s1 b o e)) nx A hp hs⟩⟩
/-! ### name, fits, most -/
def spAName (C : Addr) : Sp := fun vs H Q _ => ∃ (a : Addr) (k : Ask), vs = [.ref a] ∧ AskAt C H a k ∧ Q (.str k.nm) H
def spAMost (C : Addr) : Sp := fun vs H Q _ => ∃ (a : Addr) (k : Ask), vs = [.ref a] ∧ AskAt C H a k ∧ Q (.int k.m) H
def spAFits (C : Addr) : Sp := fun vs H Q _ => ∃ (a : Addr) (k : Ask), vs = [.ref a] ∧ AskAt C H a k ∧ ∀ p, H p = none → Q (.ref p) (upd H p (.lst (k.ks.map V.str)))
theorem ok_aname {f : Addr} {fd : FuncData} {k : Nat} (F : Fun K "name" "Asker.name" sAName f fd) (T : ACls K C fI pN gN pF gF pM gM fE) : FnOk P w K mg base CX0 (k + 1) f fd ["self"] (spAName C) := by
  refine F.ok scAName (fun vs H Q E h => ?_) (fun cdv A outer s H vs Q E hr h => ?_)
  · obtain ⟨a, k, rfl, _⟩ := h
    rfl
  · obtain ⟨a, k, rfl, ⟨dx, t, h1, h2⟩, q⟩ := h
    refine ⟨_, (pss_one (ps_ret (pe_fld (pv 0) rfl))), ?_⟩
    exact ⟨.ref a, rfl, a, C, dx, _, _, rfl, h1, T.ins.cl, T.noN, rfl, q⟩
theorem ok_amost {f : Addr} {fd : FuncData} {k : Nat} (F : Fun K "most" "Asker.most" sAMost f fd) (T : ACls K C fI pN gN pF gF pM gM fE) : FnOk P w K mg base CX0 (k + 1) f fd ["self"] (spAMost C) := by
  refine F.ok scAMost (fun vs H Q E h => ?_) (fun cdv A outer s H vs Q E hr h => ?_)
  · obtain ⟨a, k, rfl, _⟩ := h
    rfl
  · obtain ⟨a, k, rfl, ⟨dx, t, h1, h2⟩, q⟩ := h
    refine ⟨_, (pss_one (ps_ret (pe_fld (pv 0) rfl))), ?_⟩
    exact ⟨.ref a, rfl, a, C, dx, _, _, rfl, h1, T.ins.cl, T.noM, rfl, q⟩
theorem ok_afits {f : Addr} {fd : FuncData} {k : Nat} (F : Fun K "fits" "Asker.fits" sAFits f fd) (B : Blt mg) (T : ACls K C fI pN gN pF gF pM gM fE) : FnOk P w K mg base CX0 (k + 1) f fd ["self"] (spAFits C) := by
  refine F.ok scAFits (fun vs H Q E h => ?_) (fun cdv A outer s H vs Q E hr h => ?_)
  · obtain ⟨a, k, rfl, _⟩ := h
    rfl
  · obtain ⟨a, k, rfl, ⟨dx, t, h1, h2⟩, q⟩ := h
    refine ⟨_, (pss_one (ps_ret (pe_callTy call_list_of (by rfl) B.list (by decide +kernel) (pa_cons (pe_fld (pv 0) rfl) pa_nil)))), ?_⟩
    exact ⟨.ref a, rfl, a, C, dx, _, _, rfl, h1, T.ins.cl, T.noF, rfl, t, k.ks.map V.str, rfl, .inr (SqT.of h2), q⟩
/-! ### == -/
abbrev DFl : Eqd := fun x y _ b => flatV x = true ∧ flatV y = true ∧ eqV x y = b
theorem eql_strs {H : Hp} : ∀ xs ys : List Str, EqL DFl H (xs.map V.str) (ys.map V.str) (decide (xs = ys))
  | [], [] => .nil
  | [], y :: ys => by
    rw [decide_eq_false (by simp)]
    exact .left
  | x :: xs, [] => by
    rw [decide_eq_false (by simp)]
    exact .right
  | x :: xs, y :: ys => by
    have e : eqV (V.str x) (V.str y) = decide (x = y) := by
      show (x == y) = decide (x = y)
      by_cases q : x = y <;> simp [q]
    by_cases h : x = y
    · subst h
      have ih := eql_strs (H := H) xs ys
      rw [show decide (x :: xs = x :: ys) = decide (xs = ys) by simp]
      exact .go ⟨rfl, rfl, by rw [e]; simp⟩ ih
    · rw [decide_eq_false (by simp [h])]
      exact .stop ⟨rfl, rfl, by rw [e]; simp [h]⟩
/-- the answer of an asker's == -/
def RA (K : PySem.W.Frag) (C : Addr) (a : Addr) (y : V) (H : Hp) (b : Bool) : Prop :=
  ∃ k : Ask, AskAt C H a k ∧ ((∃ (c : Addr) (k' : Ask), y = .ref c ∧ AskAt C H c k' ∧ b = decide (k = k')) ∨ ∃ t : Value, TyX K H y t ∧ PySem.W.kitOne K t (.ref C) = some false ∧ b = false)
theorem ok_aeq {f : Addr} {fd : FuncData} (F : Fun K "__eq__" "Asker.__eq__" sAEq f fd) (B : Blt mg) (T : ACls K C fI pN gN pF gF pM gM fE) (gC : mg "Asker" = some (.ref C)) : FnOk P w K mg base CX0 2 f fd ["self", "other"] (spEqB (RA K C)) := by
  refine F.ok scAEq (fun vs H Q E h => ?_) (fun cdv A outer s H vs Q E hr h => ?_)
  · obtain ⟨a, y, b, rfl, _⟩ := h
    rfl
  · obtain ⟨a, y, b, rfl, ⟨k, ⟨dx, t, h1, h2⟩, r⟩, q⟩ := h
    refine ⟨_, (pss_one (ps_ret (pe_and (pe_callB call_isi (by rfl) B.isinstance (by decide +kernel) (pa_cons (pv 1) (pa_cons (pe_glob (v := .ref C) rfl gC rfl) pa_nil))) (pe_and (pe_cmpR op_eq (pe_fld (pv 0) rfl) (pe_fld (pv 1) rfl) (nomark _)) (pe_and (pe_cmpR (op_rcB (rcB_tup eqB_flat) (hr.mono (by decide))) (pe_fld (pv 0) rfl) (pe_fld (pv 1) rfl) (nomark _)) (pe_one (pe_cmpR op_eq (pe_fld (pv 0) rfl) (pe_fld (pv 1) rfl) (nomark _)))))))), ?_⟩
    rcases r with ⟨c, k', rfl, ⟨dx', t', h1', h2'⟩, rfl⟩ | ⟨u, ty, no, rfl⟩
    · refine ⟨.ref c, rfl, .ref c, .ref C, .ref C, .ref C, true, rfl, .own C, tyx_ask T.ins h1', T.ins.me, true, rfl, iteT ?_⟩
      refine ⟨.ref a, rfl, a, C, dx, _, _, rfl, h1, T.ins.cl, T.noN, rfl, .ref c, rfl, c, C, dx', _, _, rfl, h1', T.ins.cl, T.noN, rfl, rfl, _, rfl, ?_⟩
      rw [show decide (V.str k.nm = V.str k'.nm) = decide (k.nm = k'.nm) by simp]
      refine ite2 (fun e1 => ?_) fun e1 => ?_
      · have e1 := of_decide_eq_true e1
        refine ⟨.ref a, rfl, a, C, dx, _, _, rfl, h1, T.ins.cl, T.noF, rfl, .ref c, rfl, c, C, dx', _, _, rfl, h1', T.ins.cl, T.noF, rfl, decide (k.ks = k'.ks), ⟨t, t', _, _, rfl, rfl, SqT.of h2, SqT.of h2', eql_strs _ _⟩, _, rfl, ?_⟩
        refine ite2 (fun e2 => ?_) fun e2 => ?_
        · have e2 := of_decide_eq_true e2
          refine ⟨.ref a, rfl, a, C, dx, _, _, rfl, h1, T.ins.cl, T.noM, rfl, .ref c, rfl, c, C, dx', _, _, rfl, h1', T.ins.cl, T.noM, rfl, rfl, ?_⟩
          have e : decide (V.int k.m = V.int k'.m) = decide (k = k') := decide_eq_decide.mpr ⟨fun z => Ask.ext' e1 e2 (V.int.inj z), fun z => by rw [z]⟩
          show Q (V.bl (decide (V.int k.m = V.int k'.m))) H
          rw [e]
          exact q
        · have e2 : k.ks ≠ k'.ks := fun z => e2 (decide_eq_true z)
          rw [decide_eq_false (p := k = k') fun z => e2 (by rw [z])] at q
          exact q
      · have e1 : k.nm ≠ k'.nm := fun z => e1 (decide_eq_true z)
        rw [decide_eq_false (p := k = k') fun z => e1 (by rw [z])] at q
        exact q
    · exact ⟨y, rfl, y, .ref C, u, .ref C, false, rfl, .own C, ty, no, false, rfl, iteF q⟩
end
end Eld
end L2

set_option Elab.async false
set_option linter.all false
set_option maxRecDepth 100000
set_option maxHeartbeats 4000000
/-! ## lines -/
namespace L2
namespace Eld
open PySem PySem.Spec PyProof.Rows PySem.EldX
/-- askers, one by one -/
inductive Asks (C : Addr) (H : Hp) : List Addr → List Ask → Prop
  | nil : Asks C H [] []
  | cons {a : Addr} {k : Ask} {as : List Addr} {ks : List Ask} : AskAt C H a k → Asks C H as ks → Asks C H (a :: as) (k :: ks)
theorem Asks.len {C : Addr} {H : Hp} : ∀ {as : List Addr} {ks : List Ask}, Asks C H as ks → as.length = ks.length
  | _, _, .nil => rfl
  | _, _, .cons _ t => congrArg (· + 1) t.len
theorem Asks.same {C : Addr} {H H' : Hp} (s : Same H H') : ∀ {as : List Addr} {ks : List Ask}, Asks C H as ks → Asks C H' as ks
  | _, _, .nil => .nil
  | _, _, .cons h t => .cons (h.same s) (t.same s)
theorem Asks.get {C : Addr} {H : Hp} : ∀ {as : List Addr} {ks : List Ask} {i : Nat} {a : Addr}, Asks C H as ks → as[i]? = some a → ∃ k, ks[i]? = some k ∧ AskAt C H a k
  | _, _, i, _, .nil, h => by simp at h
  | _, _, 0, _, .cons h t, e => by
    simp only [List.getElem?_cons_zero, Option.some.injEq] at e
    subst e
    exact ⟨_, rfl, h⟩
  | _, _, i + 1, _, .cons h t, e => by
    simp only [List.getElem?_cons_succ] at e ⊢
    exact t.get e
theorem Asks.append {C : Addr} {H : Hp} : ∀ {as : List Addr} {ks : List Ask} {bs : List Addr} {ls : List Ask}, Asks C H as ks → Asks C H bs ls → Asks C H (as ++ bs) (ks ++ ls)
  | _, _, _, _, .nil, q => q
  | _, _, _, _, .cons h t, q => .cons h (t.append q)
theorem Asks.take {C : Addr} {H : Hp} : ∀ {as : List Addr} {ks : List Ask} (i : Nat), Asks C H as ks → Asks C H (as.take i) (ks.take i)
  | _, _, 0, _ => .nil
  | _, _, _ + 1, .nil => .nil
  | _, _, i + 1, .cons h t => .cons h (t.take i)
theorem Asks.drop {C : Addr} {H : Hp} : ∀ {as : List Addr} {ks : List Ask} (i : Nat), Asks C H as ks → Asks C H (as.drop i) (ks.drop i)
  | _, _, 0, h => h
  | _, _, _ + 1, .nil => .nil
  | _, _, i + 1, .cons h t => t.drop i
theorem Asks.rev {C : Addr} {H : Hp} : ∀ {as : List Addr} {ks : List Ask}, Asks C H as ks → Asks C H as.reverse ks.reverse
  | _, _, .nil => .nil
  | _, _, .cons h t => by
    rw [List.reverse_cons, List.reverse_cons]
    exact t.rev.append (.cons h .nil)
theorem Asks.unique {C : Addr} {H : Hp} : ∀ {as : List Addr} {ks ls : List Ask}, Asks C H as ks → Asks C H as ls → ks = ls
  | _, _, _, .nil, .nil => rfl
  | _, _, _, .cons h t, .cons h' t' => by rw [h.unique h', t.unique t']
theorem Asks.off {C D : Addr} {H H' : Hp} {xs : List V} (hD : H D = some (.lst xs)) (s : ∀ b o, b ≠ D → H b = some o → H' b = some o) : ∀ {as : List Addr} {ks : List Ask}, Asks C H as ks → Asks C H' as ks
  | _, _, .nil => .nil
  | _, _, .cons h t => .cons (h.off hD s) (t.off hD s)
/-- away from an instance of another class -/
theorem AskAt.away {C D a : Addr} {H H' : Hp} {dx b : Addr} {fs : List (Str × V)} {k : Ask} (ha : H a = some (.ins D dx fs)) (ne : D ≠ C) (s : ∀ b o, b ≠ a → H b = some o → H' b = some o) (h : AskAt C H b k) : AskAt C H' b k := by
  obtain ⟨dx', t, h1, h2⟩ := h
  refine ⟨dx', t, s _ _ (fun e => ?_) h1, s _ _ (fun e => ?_) h2⟩
  · rw [e, ha] at h1
    cases h1
    exact ne rfl
  · rw [e, ha] at h2
    cases h2
theorem Asks.away {C D a : Addr} {H H' : Hp} {dx : Addr} {fs : List (Str × V)} (ha : H a = some (.ins D dx fs)) (ne : D ≠ C) (s : ∀ b o, b ≠ a → H b = some o → H' b = some o) : ∀ {as : List Addr} {ks : List Ask}, Asks C H as ks → Asks C H' as ks
  | _, _, .nil => .nil
  | _, _, .cons h t => .cons (h.away ha ne s) (Asks.away ha ne s t)
abbrev lfs (t : Addr) : List (Str × V) := [(("_askers" : Str), .ref t)]
/-- the line of the askers at as, who are ks, stands at a -/
def LineAt (CL CA : Addr) (H : Hp) (a : Addr) (as : List Addr) (ks : List Ask) : Prop := ∃ dx t : Addr, H a = some (.ins CL dx (lfs t)) ∧ H t = some (.tup (as.map V.ref)) ∧ Asks CA H as ks
theorem LineAt.same {CL CA : Addr} {H H' : Hp} {a : Addr} {as : List Addr} {ks : List Ask} (h : LineAt CL CA H a as ks) (s : Same H H') : LineAt CL CA H' a as ks := by
  obtain ⟨dx, t, h1, h2, h3⟩ := h
  exact ⟨dx, t, s _ _ h1, s _ _ h2, h3.same s⟩
theorem LineAt.ins {CL CA : Addr} {H : Hp} {a : Addr} {as : List Addr} {ks : List Ask} (h : LineAt CL CA H a as ks) : ∃ (dx : Addr) (fs : List (Str × V)), H a = some (.ins CL dx fs) := by
  obtain ⟨dx, t, h1, _⟩ := h
  exact ⟨dx, _, h1⟩
structure LCls (K : PySem.W.Frag) (C fI fE fL fA fN fK fR fP : Addr) : Prop where
  ins : InsC K C
  noA : NoAttr K C "_askers"
  make : Mk K C fI
  own : OwnE K C fE
  len : PySem.W.findIn K (.ref C) "__len__" = some (some (.ref fL))
  lfn : PySem.W.isFn K (.ref fL) = true
  mA : Meth K C "askers" fA
  mN : Meth K C "names" fN
  mK : Meth K C "kinds" fK
  mR : Meth K C "asker" fR
  mP : Meth K C "place" fP
theorem ref_at {as : List Addr} {i : Nat} {v : V} (h : (as.map V.ref)[i]? = some v) : ∃ a, as[i]? = some a ∧ v = .ref a := by
  rw [List.getElem?_map] at h
  cases e : as[i]? with
  | none => rw [e] at h; cases h
  | some a => rw [e] at h; exact ⟨a, rfl, (Option.some.inj h).symm⟩
section
variable {P : Program} {w : World} {K : PySem.W.Frag} {mg : Str → Option Value} {base : Heap} {CA fI pN gN pF gF pM gM fE CL fLI fLE fLL fLA fLN fLK fLR fLP : Addr}
/-! ### _are_askers -/
def spAreAskers (K : PySem.W.Frag) (CA : Addr) : Sp := fun vs H Q _ => ∃ (l : Addr) (as : List Addr) (ks : List Ask), vs = [.ref l] ∧ SqL K H l (as.map V.ref) ∧ Asks CA H as ks ∧ ks.length ≤ 1000 ∧ ∀ H', Same H H' → Q (.bl (decide ((ks.map Ask.nm).Nodup))) H'
/-- names of askers, told one by one -/
theorem lc_names {J : It} {n : Nat} {G : Hp → Prop} {as : List Addr} {ks : List Ask} {σ : St} {H1 : Hp} {D : Addr} {Qd : Hp → Prop} {vs : List Nat} {g : TG} {te : TE} (w : Walk J n G (YAt (as.map V.ref))) (hn : n = ks.length) (hz : ks.length ≤ 1000) (hD : H1 D = none) (hA : Asks CA H1 as ks) (hG : ∀ H, Same H1 H → G H)
    (hs : ∀ a (k : Ask) H, AskAt CA H a k → ∀ Q : VK, (∀ H4, Same H H4 → Q (.str k.nm) H4) → g (.ref a) (wipe σ vs) H fun σ2 H2 => wipe σ2 vs = wipe σ vs ∧ te σ2 H2 Q) (hd : ∀ H, Same H1 H → H D = some (.lst ((ks.map Ask.nm).map V.str)) → Qd H) :
    ∃ W : Nat → Nat → Hp → Prop, (∃ m, W 0 m (upd H1 D (.lst []))) ∧ ∀ i m H, W i m H →
      (J.stop i H ∧ Qd H) ∨ (J.go i H ∧ ∃ Nx : Hp → Prop, (∀ H', Nx H' → ∃ m', m' < m ∧ W (i + 1) m' H') ∧ ∀ x H', J.yld i H x H' → g x (wipe σ vs) H' fun σ2 H2 => wipe σ2 vs = wipe σ vs ∧ tYes σ2 H2 fun b H3 =>
        if b = true then te σ2 H3 fun y H4 => ∃ acc, H4 D = some (.lst acc) ∧ acc.length < sizeLine ∧ Nx (upd H4 D (.lst (acc ++ [y]))) else Nx H3) := by
  subst hn
  refine lc_out w (fun i y _ => ∃ k, ks[i]? = some k ∧ y = .str k.nm) (by rw [sizeLine_eq]; omega) hD hG (fun _ _ _ _ y => y.1) (fun _ _ _ _ _ _ _ o => o) ?_ ?_
  · rintro i x H hi s ⟨_, hx⟩ Q hQ
    obtain ⟨a, ha, rfl⟩ := ref_at hx
    obtain ⟨k, hk, A⟩ := hA.get ha
    exact hs a k H (A.same s) Q fun H4 s4 => hQ _ H4 s4 ⟨k, hk, rfl⟩
  · intro H acc s e hl o
    refine hd H s ?_
    rw [e, eq_map_of (xs := ks) (f := fun k => V.str k.nm) (by omega) o, List.map_map] <;> rfl
theorem ok_areAskers {f f1 f2 : Addr} {fd d1 d2 dAN : FuncData} (F : Fun K "_are_askers" "_are_askers" sAreAskers f fd) (L : Chk K mg f1 f2 d1 d2) (B : Blt mg) (TA : ACls K CA fI pN gN pF gF pM gM fE) (gA : mg "Asker" = some (.ref CA)) (FAN : Fun K "name" "Asker.name" sAName gN dAN) :
    FnOk P w K mg base CX0 3 f fd ["value"] (spAreAskers K CA) := by
  have GUnlike : FnOk P w K mg base CX0 1 f2 d2 ["names"] (spUnlike K) := ok_unlike L.Unlike B
  have GAName : FnOk P w K mg base CX0 1 gN dAN ["self"] (spAName CA) := ok_aname FAN TA
  have bAName : Binds K dAN ["self"] [] := FAN.binds fun _ _ _ _ _ _ us hl => match us, hl with | [_], _ => rfl
  refine F.ok scAreAskers (fun vs H Q E h => ?_) (fun cdv A outer s H vs Q E hr h => ?_)
  · obtain ⟨l, as, ks, rfl, _⟩ := h
    rfl
  · obtain ⟨l, as, ks, rfl, hS, hA, hz, q⟩ := h
    have hl := hA.len
    refine ⟨_, (pss_cons (ps_if (PW.pt (pw_or (pt_not (pt_val (pe_callB call_isi (by rfl) B.isinstance (by decide +kernel) (pa_cons (pv 0) (pa_cons (pe_bltn (v := .ty "list") rfl B.list (by decide +kernel) rfl) pa_nil))))) (pw_or1 (pt_not (pt_val (pe_callB (cr_all rfl) (by rfl) B.all (by decide +kernel) (pa_cons (pe_lc (own := [("asker", 1)]) (g := gName 1) (tt := tYes) (te := tCB (rIsi K) (tCons (tVar 1) (tCons (tC (.ref CA)) tNil))) rfl scAreAskers.nd (pi_list (pv 0)) (blkOk_by (own := [("asker", 1)]) (N := NAreAskers) (sc := defScope sAreAskers) (by decide +kernel)) (fun _ _ _ _ _ => pg_name (i := 1) scAreAskers.nd rfl (.inl rfl)) (fun _ _ _ _ _ => pts_nil) (fun _ _ _ _ _ => (pe_callB call_isi (by rfl) B.isinstance (by decide +kernel) (pa_cons (pv 1) (pa_cons (pe_glob (v := .ref CA) rfl gA rfl) pa_nil))))) pa_nil))))))) (pss_one (ps_ret pe_bl)) pss_nil)
      (pss_one (ps_ret (pe_call GUnlike (hr.mono (by decide)) (by rfl) L.gUnlike L.Unlike.kp L.bUnlike .nil pass0 (pa_cons (pe_lc (own := [("asker", 1)]) (g := gName 1) (tt := tYes) rfl scAreAskers.nd (pi_list (pv 0)) (blkOk_by (own := [("asker", 1)]) (N := NAreAskers) (sc := defScope sAreAskers) (by decide +kernel)) (fun _ _ _ _ _ => pg_name (i := 1) scAreAskers.nd rfl (.inl rfl)) (fun _ _ _ _ _ => pts_nil) (fun _ _ _ _ _ => (pe_prop (pv 1) TA.ins.cl TA.pN GAName (hr.mono (by decide)) bAName .nil pass0 rfl))) pa_nil))))), ?_⟩
    refine ⟨.ref l, rfl, .ref l, .ty "list", _, _, true, rfl, .ty _, tyx_list hS, kit_ty (by decide +kernel), true, rfl, iteF ?_⟩
    refine ⟨.ref l, rfl, l, rfl, ⟨_, hS⟩, fun D hD => ?_⟩
    refine lc_out walk_list (fun _ y _ => y = .bl true) (by rw [List.length_map, sizeLine_eq]; omega) hD (fun G s => s.seq hS) (fun _ _ _ _ y => y.1) (fun _ _ _ _ _ _ _ o => o) ?_ ?_
    · rintro i v G hi sG ⟨_, hv⟩ R hR
      obtain ⟨a, ha, rfl⟩ := ref_at hv
      obtain ⟨k, hk, hAk⟩ := hA.get ha
      obtain ⟨dx, fs, hI⟩ := (hAk.same sG).ins
      exact ⟨rfl, .ref a, rfl, .ref a, .ref CA, .ref CA, .ref CA, true, rfl, .own CA, tyx_ask TA.ins hI, TA.ins.me, hR _ _ (Same.refl _) rfl⟩
    · intro G acc sG hG hl' ho
      have e := bls_of ho
      rw [e] at hG
      refine ⟨D, List.replicate acc.length true, rfl, SqL.of hG, true, congrArg V.bl (all_true fun i b hb => ?_), iteF ?_⟩
      · obtain ⟨h1, h2⟩ := List.getElem?_eq_some_iff.mp hb
        rw [← h2, List.getElem_replicate]
      · refine ⟨.ref l, rfl, l, rfl, ⟨_, sG.seq hS⟩, fun D2 hD2 => ?_⟩
        refine lc_names (as := as) (ks := ks) walk_list (by rw [List.length_map]; exact hl) hz hD2 (hA.same sG) (fun G' s' => (sG.trans s').seq hS) (fun a k G' hAk R hR => ?_) fun G' s' e' => ?_
        · obtain ⟨dx, fs, hI⟩ := hAk.ins
          exact ⟨rfl, .ref a, rfl, a, dx, fs, rfl, hI, a, k, rfl, hAk, hR G' (Same.refl _)⟩
        · exact ⟨D2, ks.map Ask.nm, rfl, SqL.of e', by rw [List.length_map]; exact hz, fun G2 s2 => q G2 (sG.trans (s'.trans s2))⟩
/-! ### Line(l) -/
def spLInit (K : PySem.W.Frag) (CL CA : Addr) : Sp := fun vs H Q _ => ∃ (a dx l : Addr) (as : List Addr) (ks : List Ask), vs = [.ref a, .ref l] ∧ H a = some (.ins CL dx []) ∧ SqL K H l (as.map V.ref) ∧ Asks CA H as ks ∧ ks.length ≤ 1000 ∧ (ks.map Ask.nm).Nodup ∧
  ∀ H' : Hp, (∀ b o, b ≠ a → H b = some o → H' b = some o) → LineAt CL CA H' a as ks → Q .non H'
theorem ok_linit {f f1 f2 f3 : Addr} {fd d1 d2 d3 dAN : FuncData} (F : Fun K "__init__" "Line.__init__" sLInit f fd) (FA : Fun K "_are_askers" "_are_askers" sAreAskers f3 d3) (gAreAskers : mg "_are_askers" = some (.ref f3)) (L : Chk K mg f1 f2 d1 d2) (B : Blt mg) (TA : ACls K CA fI pN gN pF gF pM gM fE) (gA : mg "Asker" = some (.ref CA))
    (FAN : Fun K "name" "Asker.name" sAName gN dAN) (T : LCls K CL fLI fLE fLL fLA fLN fLK fLR fLP) (ne : CL ≠ CA) : FnOk P w K mg base CX0 4 f fd ["self", "askers"] (spLInit K CL CA) := by
  have GAreAskers : FnOk P w K mg base CX0 3 f3 d3 ["value"] (spAreAskers K CA) := ok_areAskers FA L B TA gA FAN
  have bAreAskers : Binds K d3 ["value"] [] := FA.binds fun _ _ _ _ _ _ us hl => match us, hl with | [_], _ => rfl
  refine F.ok scLInit (fun vs H Q E h => ?_) (fun cdv A outer s H vs Q E hr h => ?_)
  · obtain ⟨a, dx, l, as, ks, rfl, _⟩ := h
    rfl
  · obtain ⟨a, dx, l, as, ks, rfl, ha, hS, hA, hz, hnd, q⟩ := h
    refine ⟨_, (pss_cons (ps_if (pt_not (pt_val (pe_call GAreAskers (hr.mono (by decide)) (by rfl) gAreAskers FA.kp bAreAskers .nil pass0 (pa_cons (pv 1) pa_nil)))) (pss_one (ps_dead _)) pss_nil)
      (pss_one (ps_fld (pv 0) (pe_callTy call_tuple_of (by rfl) B.tuple (by decide +kernel) (pa_cons (pv 1) pa_nil)) rfl))), ?_⟩
    refine ⟨.ref l, rfl, l, as, ks, rfl, hS, hA, hz, fun H1 s1 => ⟨_, rfl, ?_⟩⟩
    rw [decide_eq_true hnd]
    refine iteF ⟨.ref l, rfl, l, as.map V.ref, rfl, .inl ⟨s1.seq hS, fun t nt => ?_⟩⟩
    have nta : t ≠ a := fun e => by
      rw [e, s1 _ _ ha] at nt
      cases nt
    have h0 : upd H1 t (.tup (as.map V.ref)) a = some (.ins CL dx []) := by
      rw [upd_ne (Ne.symm nta)]
      exact s1 _ _ ha
    refine ⟨.ref a, rfl, a, CL, dx, [], rfl, h0, T.ins.cl, T.noA, by decide, ?_⟩
    have s2 : Same H (upd H1 t (.tup (as.map V.ref))) := s1.trans (Same.fresh nt)
    refine q _ (fun b o hb e => by rw [upd_ne hb]; exact s2 b o e) ⟨dx, t, upd_same, by rw [upd_ne nta]; exact upd_same, (hA.same s2).away h0 ne off_upd⟩
theorem made_line {H1 : Hp} {Q : Addr → Hp → Prop} {E : XK} {l : Addr} {as : List Addr} {ks : List Ask} (hS : SqL K H1 l (as.map V.ref)) (hA : Asks CA H1 as ks) (hz : ks.length ≤ 1000) (hnd : (ks.map Ask.nm).Nodup) (q : ∀ (H' : Hp) (x : Addr), Same H1 H' → H1 x = none → LineAt CL CA H' x as ks → Q x H') :
    ∀ x dx, H1 x = none → H1 dx = none → dx ≠ x → spLInit K CL CA (.ref x :: ([.ref l] ++ [])) (upd (upd H1 dx (.own x)) x (.ins CL dx [])) (fun v H2 => v = .non ∧ Q x H2) E := by
  intro x dx nx ndx ne
  have s1 : Same H1 (upd (upd H1 dx (.own x)) x (.ins CL dx [])) := Same.put (Same.fresh ndx) nx
  exact ⟨x, dx, l, as, ks, rfl, upd_same, s1.seq hS, hA.same s1, hz, hnd, fun H' k A => ⟨rfl, q H' x (fun b o e => k b o (ne_of_none e nx) (s1 b o e)) nx A⟩⟩
/-! ### askers(), names(), len -/
def spLAskers (CL CA : Addr) : Sp := fun vs H Q _ => ∃ (a : Addr) (as : List Addr) (ks : List Ask), vs = [.ref a] ∧ LineAt CL CA H a as ks ∧ ∀ p, H p = none → Q (.ref p) (upd H p (.lst (as.map V.ref)))
def spLNames (CL CA : Addr) : Sp := fun vs H Q _ => ∃ (a : Addr) (as : List Addr) (ks : List Ask), vs = [.ref a] ∧ LineAt CL CA H a as ks ∧ ks.length ≤ 1000 ∧ ∀ H' p, Same H H' → H p = none → H' p = some (.lst ((ks.map Ask.nm).map V.str)) → Q (.ref p) H'
def spLLen (CL CA : Addr) : Sp := fun vs H Q _ => ∃ (a : Addr) (as : List Addr) (ks : List Ask), vs = [.ref a] ∧ LineAt CL CA H a as ks ∧ Q (.int ks.length) H
theorem ok_laskers {f : Addr} {fd : FuncData} {k : Nat} (F : Fun K "askers" "Line.askers" sLAskers f fd) (B : Blt mg) (T : LCls K CL fLI fLE fLL fLA fLN fLK fLR fLP) : FnOk P w K mg base CX0 (k + 1) f fd ["self"] (spLAskers CL CA) := by
  refine F.ok scLAskers (fun vs H Q E h => ?_) (fun cdv A outer s H vs Q E hr h => ?_)
  · obtain ⟨a, as, ks, rfl, _⟩ := h
    rfl
  · obtain ⟨a, as, ks, rfl, ⟨dx, t, h1, h2, h3⟩, q⟩ := h
    refine ⟨_, (pss_one (ps_ret (pe_callTy call_list_of (by rfl) B.list (by decide +kernel) (pa_cons (pe_fld (pv 0) rfl) pa_nil)))), ?_⟩
    exact ⟨.ref a, rfl, a, CL, dx, _, _, rfl, h1, T.ins.cl, T.noA, rfl, t, as.map V.ref, rfl, .inr (SqT.of h2), q⟩
theorem ok_lnames {f : Addr} {fd dAN : FuncData} (F : Fun K "names" "Line.names" sLNames f fd) (TA : ACls K CA fI pN gN pF gF pM gM fE) (FAN : Fun K "name" "Asker.name" sAName gN dAN) (T : LCls K CL fLI fLE fLL fLA fLN fLK fLR fLP) : FnOk P w K mg base CX0 3 f fd ["self"] (spLNames CL CA) := by
  have GAName : FnOk P w K mg base CX0 1 gN dAN ["self"] (spAName CA) := ok_aname FAN TA
  have bAName : Binds K dAN ["self"] [] := FAN.binds fun _ _ _ _ _ _ us hl => match us, hl with | [_], _ => rfl
  refine F.ok scLNames (fun vs H Q E h => ?_) (fun cdv A outer s H vs Q E hr h => ?_)
  · obtain ⟨a, as, ks, rfl, _⟩ := h
    rfl
  · obtain ⟨a, as, ks, rfl, ⟨dx, t, h1, h2, h3⟩, hz, q⟩ := h
    refine ⟨_, (pss_one (ps_ret (pe_lc (own := [("asker", 1)]) (g := gName 1) (tt := tYes) rfl scLNames.nd (pi_tup (pe_fld (pv 0) rfl)) (blkOk_by (own := [("asker", 1)]) (N := NLNames) (sc := defScope sLNames) (by decide +kernel)) (fun _ _ _ _ _ => pg_name (i := 1) scLNames.nd rfl (.inl rfl)) (fun _ _ _ _ _ => pts_nil) (fun _ _ _ _ _ => (pe_prop (pv 1) TA.ins.cl TA.pN GAName (hr.mono (by decide)) bAName .nil pass0 rfl))))), ?_⟩
    refine ⟨.ref a, rfl, a, CL, dx, _, _, rfl, h1, T.ins.cl, T.noA, rfl, t, rfl, ⟨_, SqT.of h2⟩, fun D hD => ?_⟩
    refine lc_names (as := as) (ks := ks) walk_tup (by rw [List.length_map]; exact h3.len) hz hD h3 (fun G s => SqT.of (s _ _ h2)) (fun b k G hAk R hR => ?_) fun G s e => q G D s hD e
    obtain ⟨dx, fs, hI⟩ := hAk.ins
    exact ⟨rfl, .ref b, rfl, b, dx, fs, rfl, hI, b, k, rfl, hAk, hR G (Same.refl _)⟩
theorem ok_llen {f : Addr} {fd : FuncData} {k : Nat} (F : Fun K "__len__" "Line.__len__" sLLen f fd) (B : Blt mg) (T : LCls K CL fLI fLE fLL fLA fLN fLK fLR fLP) : FnOk P w K mg base CX0 (k + 1) f fd ["self"] (spLLen CL CA) := by
  refine F.ok scLLen (fun vs H Q E h => ?_) (fun cdv A outer s H vs Q E hr h => ?_)
  · obtain ⟨a, as, ks, rfl, _⟩ := h
    rfl
  · obtain ⟨a, as, ks, rfl, ⟨dx, t, h1, h2, h3⟩, q⟩ := h
    refine ⟨_, (pss_one (ps_ret (pe_callB call_len_seq (by rfl) B.len PySem.boot_len (pa_cons (pe_fld (pv 0) rfl) pa_nil)))), ?_⟩
    refine ⟨.ref a, rfl, a, CL, dx, _, _, rfl, h1, T.ins.cl, T.noA, rfl, t, as.map V.ref, rfl, .inr (SqT.of h2), ?_⟩
    rw [List.length_map, h3.len]
    exact q
/-! ### == -/
theorem eql_asks {H : Hp} (TA : ACls K CA fI pN gN pF gF pM gM fE) : ∀ {as bs : List Addr} {ks ls : List Ask}, Asks CA H as ks → Asks CA H bs ls → EqL (DId (DIn K CA (RA K CA))) H (as.map V.ref) (bs.map V.ref) (decide (ks = ls))
  | _, _, _, _, .nil, .nil => .nil
  | _, _, _, _, .nil, .cons h t => by
    rw [decide_eq_false (by simp)]
    exact .left
  | _, _, _, _, .cons h t, .nil => by
    rw [decide_eq_false (by simp)]
    exact .right
  | _, _, _, _, .cons (a := a) (k := k) (ks := ks) h t, .cons (a := b) (k := l) (ks := ls) h' t' => by
    have ih := eql_asks TA t t'
    obtain ⟨dx, fs, hI⟩ := h.ins
    obtain ⟨dx', fs', hI'⟩ := h'.ins
    by_cases e : a = b
    · subst e
      obtain rfl := h.unique h'
      rw [show decide (k :: ks = k :: ls) = decide (ks = ls) by simp]
      exact .go ⟨a, a, rfl, rfl, .inl ⟨rfl, rfl⟩⟩ ih
    · have d : ∀ x : Bool, x = decide (k = l) → DId (DIn K CA (RA K CA)) (.ref a) (.ref b) H x := fun x hx =>
        ⟨a, b, rfl, rfl, .inr ⟨e, a, dx, fs, .ref CA, rfl, hI, tyx_ask TA.ins hI', by simp [PySem.W.notFirst], k, h, .inl ⟨b, l, rfl, h', hx⟩⟩⟩
      by_cases q : k = l
      · subst q
        rw [show decide (k :: ks = k :: ls) = decide (ks = ls) by simp]
        exact .go (d true (by simp)) ih
      · rw [decide_eq_false (by simp [q])]
        exact .stop (d false (by simp [q]))
/-- the answer of a line's == -/
def RL (K : PySem.W.Frag) (CL CA : Addr) (a : Addr) (y : V) (H : Hp) (b : Bool) : Prop :=
  ∃ (as : List Addr) (ks : List Ask), LineAt CL CA H a as ks ∧ ((∃ (c : Addr) (as' : List Addr) (ks' : List Ask), y = .ref c ∧ LineAt CL CA H c as' ks' ∧ b = decide (ks = ks')) ∨ ∃ t : Value, TyX K H y t ∧ PySem.W.kitOne K t (.ref CL) = some false ∧ b = false)
theorem ok_leq {f : Addr} {fd dAE : FuncData} (F : Fun K "__eq__" "Line.__eq__" sLEq f fd) (B : Blt mg) (TA : ACls K CA fI pN gN pF gF pM gM fE) (gA : mg "Asker" = some (.ref CA)) (FAE : Fun K "__eq__" "Asker.__eq__" sAEq fE dAE) (T : LCls K CL fLI fLE fLL fLA fLN fLK fLR fLP) (gL : mg "Line" = some (.ref CL)) :
    FnOk P w K mg base CX0 4 f fd ["self", "other"] (spEqB (RL K CL CA)) := by
  have GAEq : FnOk P w K mg base CX0 2 fE dAE ["self", "other"] (spEqB (RA K CA)) := ok_aeq FAE B TA gA
  have bAEq : Binds K dAE ["self", "other"] [] := FAE.binds fun _ _ _ _ _ _ us hl => match us, hl with | [_, _], _ => rfl
  refine F.ok scLEq (fun vs H Q E h => ?_) (fun cdv A outer s H vs Q E hr h => ?_)
  · obtain ⟨a, y, b, rfl, _⟩ := h
    rfl
  · obtain ⟨a, y, b, rfl, ⟨as, ks, ⟨dx, t, h1, h2, h3⟩, r⟩, q⟩ := h
    refine ⟨_, (pss_one (ps_ret (pe_and (pe_callB call_isi (by rfl) B.isinstance (by decide +kernel) (pa_cons (pv 1) (pa_cons (pe_glob (v := .ref CL) rfl gL rfl) pa_nil))) (pe_one (pe_cmpR (op_rcB (rcB_tup (eqB_of (rcB_own GAEq TA.own bAEq pass0))) (hr.mono (by decide))) (pe_fld (pv 0) rfl) (pe_fld (pv 1) rfl) (nomark _)))))), ?_⟩
    rcases r with ⟨c, as', ks', rfl, ⟨dx', t', h1', h2', h3'⟩, rfl⟩ | ⟨u, ty, no, rfl⟩
    · refine ⟨.ref c, rfl, .ref c, .ref CL, .ref CL, .ref CL, true, rfl, .own CL, tyx_ask T.ins h1', T.ins.me, true, rfl, iteT ?_⟩
      exact ⟨.ref a, rfl, a, CL, dx, _, _, rfl, h1, T.ins.cl, T.noA, rfl, .ref c, rfl, c, CL, dx', _, _, rfl, h1', T.ins.cl, T.noA, rfl, _, ⟨t, t', _, _, rfl, rfl, SqT.of h2, SqT.of h2', eql_asks TA h3 h3'⟩, q⟩
    · exact ⟨y, rfl, y, .ref CL, u, .ref CL, false, rfl, .own CL, ty, no, false, rfl, iteF q⟩
end
end Eld
end L2

set_option Elab.async false
set_option linter.all false
set_option maxRecDepth 100000
set_option maxHeartbeats 4000000
/-! ## lines: kinds, place, asker -/
namespace L2
namespace Eld
open PySem PySem.Spec PyProof.Rows PySem.EldX
section
variable {J J1 : It} {n n1 : Nat} {G G1 : Hp → Prop} {Y Y1 : Nat → Hp → V → Hp → Prop} {w0 : World}
/-- the first clause by a walk -/
theorem sc2_it (w : Walk J n G Y) {g g1 : TG} {wi1 : TI} {te : TE} {vs vs1 : List Nat} {σ : St} {H1 : Hp} {D : Addr} {Qd : Hp → Prop} (Pv : Nat → Hp → Prop) (h0 : Pv 0 (upd H1 D (SetSO w0 D (fun _ => false) 0))) (hG : ∀ i H, i ≤ n → Pv i H → G H)
    (hs : ∀ i x H H', i < n → Pv i H → Y i H x H' → g x (wipe σ vs) H' fun σ2 H2 => wipe σ2 vs = wipe σ vs ∧ wi1 σ2 H2 fun J1 H4 => ∃ W1 : Nat → Nat → Hp → Prop, (∃ m, W1 0 m H4) ∧ ∀ j k G, W1 j k G → (J1.stop j G ∧ Pv (i + 1) G) ∨ (J1.go j G ∧
      ∃ Nx1 : Hp → Prop, (∀ G', Nx1 G' → ∃ k', k' < k ∧ W1 (j + 1) k' G') ∧ ∀ x G', J1.yld j G x G' → g1 x (wipe σ2 vs1) G' fun σ3 H5 => wipe σ3 vs1 = wipe σ2 vs1 ∧ te σ3 H5 fun y H6 =>
        ∃ (c : Str) (S : Str → Bool) (n : Nat), y = .str c ∧ H6 D = some (SetSO w0 D S n) ∧ n + 1 < scanBound ∧ Nx1 (upd H6 D (SetSO w0 D (fun j => S j || decide (j = c)) (if S c = true then n else n + 1)))))
    (hd : ∀ H, Pv n H → Qd H) :
    ∃ W : Nat → Nat → Hp → Prop, (∃ m, W 0 m (upd H1 D (SetSO w0 D (fun _ => false) 0))) ∧ ∀ i m G, W i m G → (J.stop i G ∧ Qd G) ∨ (J.go i G ∧
      ∃ Nx : Hp → Prop, (∀ G', Nx G' → ∃ m', m' < m ∧ W (i + 1) m' G') ∧ ∀ x G', J.yld i G x G' → g x (wipe σ vs) G' fun σ2 H2 => wipe σ2 vs = wipe σ vs ∧ wi1 σ2 H2 fun J1 H4 =>
        ∃ W1 : Nat → Nat → Hp → Prop, (∃ m, W1 0 m H4) ∧ ∀ j k G, W1 j k G → (J1.stop j G ∧ Nx G) ∨ (J1.go j G ∧
          ∃ Nx1 : Hp → Prop, (∀ G', Nx1 G' → ∃ k', k' < k ∧ W1 (j + 1) k' G') ∧ ∀ x G', J1.yld j G x G' → g1 x (wipe σ2 vs1) G' fun σ3 H5 => wipe σ3 vs1 = wipe σ2 vs1 ∧ te σ3 H5 fun y H6 =>
            ∃ (c : Str) (S : Str → Bool) (n : Nat), y = .str c ∧ H6 D = some (SetSO w0 D S n) ∧ n + 1 < scanBound ∧ Nx1 (upd H6 D (SetSO w0 D (fun j => S j || decide (j = c)) (if S c = true then n else n + 1))))) := by
  refine ⟨fun i m H => m = n - i ∧ i ≤ n ∧ Pv i H, ⟨n, by simp, Nat.zero_le _, h0⟩, ?_⟩
  rintro i m H ⟨rfl, hi, p⟩
  rcases Nat.lt_or_ge i n with lt | ge
  · exact .inr ⟨w.goes i H lt (hG i H hi p), Pv (i + 1), fun H' q => ⟨n - (i + 1), by omega, rfl, lt, q⟩, fun x H' y => hs i x H H' lt p (w.yields i H x H' lt (hG i H hi p) y)⟩
  · obtain rfl : i = n := by omega
    exact .inl ⟨w.stops H (hG i H hi p), hd H p⟩
/-- the second clause by a walk -/
theorem sc_in (w : Walk J1 n1 G1 Y1) {g1 : TG} {te : TE} {vs1 : List Nat} {σ : St} {H1 : Hp} {D : Addr} {Qd : Hp → Prop} (Pv : Nat → Hp → Prop) (h0 : Pv 0 H1) (hG : ∀ i H, i ≤ n1 → Pv i H → G1 H)
    (hs : ∀ i x H H', i < n1 → Pv i H → Y1 i H x H' → g1 x (wipe σ vs1) H' fun σ3 H5 => wipe σ3 vs1 = wipe σ vs1 ∧ te σ3 H5 fun y H6 =>
      ∃ (c : Str) (S : Str → Bool) (n : Nat), y = .str c ∧ H6 D = some (SetSO w0 D S n) ∧ n + 1 < scanBound ∧ Pv (i + 1) (upd H6 D (SetSO w0 D (fun j => S j || decide (j = c)) (if S c = true then n else n + 1))))
    (hd : ∀ H, Pv n1 H → Qd H) :
    ∃ W1 : Nat → Nat → Hp → Prop, (∃ m, W1 0 m H1) ∧ ∀ j k G, W1 j k G → (J1.stop j G ∧ Qd G) ∨ (J1.go j G ∧
      ∃ Nx1 : Hp → Prop, (∀ G', Nx1 G' → ∃ k', k' < k ∧ W1 (j + 1) k' G') ∧ ∀ x G', J1.yld j G x G' → g1 x (wipe σ vs1) G' fun σ3 H5 => wipe σ3 vs1 = wipe σ vs1 ∧ te σ3 H5 fun y H6 =>
        ∃ (c : Str) (S : Str → Bool) (n : Nat), y = .str c ∧ H6 D = some (SetSO w0 D S n) ∧ n + 1 < scanBound ∧ Nx1 (upd H6 D (SetSO w0 D (fun j => S j || decide (j = c)) (if S c = true then n else n + 1)))) := by
  refine ⟨fun i m H => m = n1 - i ∧ i ≤ n1 ∧ Pv i H, ⟨n1, by simp, Nat.zero_le _, h0⟩, ?_⟩
  rintro i m H ⟨rfl, hi, p⟩
  rcases Nat.lt_or_ge i n1 with lt | ge
  · exact .inr ⟨w.goes i H lt (hG i H hi p), Pv (i + 1), fun H' q => ⟨n1 - (i + 1), by omega, rfl, lt, q⟩, fun x H' y => hs i x H H' lt p (w.yields i H x H' lt (hG i H hi p) y)⟩
  · obtain rfl : i = n1 := by omega
    exact .inl ⟨w.stops H (hG i H hi p), hd H p⟩
end
/-- the set at D has just these members -/
def HasS (w0 : World) (H : Hp) (D : Addr) (M : Str → Prop) : Prop := ∃ (S : Str → Bool) (n : Nat) (xs : List Str), H D = some (SetSO w0 D S n) ∧ xs.Nodup ∧ xs.length = n ∧ (∀ j, S j = true ↔ j ∈ xs) ∧ ∀ j, j ∈ xs ↔ M j
theorem HasS.add {w0 : World} {H : Hp} {D : Addr} {M : Str → Prop} {U : List Str} {c : Str} (h : HasS w0 H D M) (hU : ∀ j, M j → j ∈ U) (hl : U.length < 64) :
    ∃ (S : Str → Bool) (n : Nat), H D = some (SetSO w0 D S n) ∧ n + 1 < scanBound ∧ HasS w0 (upd H D (SetSO w0 D (fun j => S j || decide (j = c)) (if S c = true then n else n + 1))) D (fun j => M j ∨ j = c) := by
  obtain ⟨S, n, xs, e, nd, rfl, hS, hM⟩ := h
  have le : xs.length ≤ U.length := nodup_le xs U nd fun y hy => hU y ((hM y).mp hy)
  refine ⟨S, xs.length, e, Nat.lt_of_le_of_lt (show xs.length + 1 ≤ 65 by omega) (by decide), ?_⟩
  by_cases hc : S c = true
  · refine ⟨_, _, xs, upd_same, nd, by rw [if_pos hc], fun j => ?_, fun j => ?_⟩
    · rw [Bool.or_eq_true, hS, decide_eq_true_eq]
      exact ⟨fun z => z.elim id fun z => z ▸ (hS c).mp hc, .inl⟩
    · rw [hM]
      exact ⟨.inl, fun z => z.elim id fun z => z ▸ (hM c).mp ((hS c).mp hc)⟩
  · have nc : c ∉ xs := fun z => hc ((hS c).mpr z)
    refine ⟨_, _, xs ++ [c], upd_same, ?_, by rw [if_neg hc, List.length_append]; rfl, fun j => ?_, fun j => ?_⟩
    · rw [List.nodup_append]
      refine ⟨nd, by simp, fun x hx y hy e => ?_⟩
      obtain rfl := List.mem_singleton.mp hy
      subst e
      exact nc hx
    · rw [Bool.or_eq_true, hS, decide_eq_true_eq, List.mem_append, List.mem_singleton]
    · rw [List.mem_append, List.mem_singleton, hM]
theorem HasS.same {w0 : World} {H H' : Hp} {D : Addr} {M : Str → Prop} (h : HasS w0 H D M) (s : Same H H') : HasS w0 H' D M := by
  obtain ⟨S, n, xs, e, r⟩ := h
  exact ⟨S, n, xs, s _ _ e, r⟩
theorem HasS.iff {w0 : World} {H : Hp} {D : Addr} {M M' : Str → Prop} (h : HasS w0 H D M) (e : ∀ j, M j ↔ M' j) : HasS w0 H D M' := by
  obtain ⟨S, n, xs, e1, r1, r2, r3, r4⟩ := h
  exact ⟨S, n, xs, e1, r1, r2, r3, fun j => (r4 j).trans (e j)⟩
theorem str_at {xs : List Str} {i : Nat} {v : V} (h : (xs.map V.str)[i]? = some v) : ∃ x, xs[i]? = some x ∧ v = .str x := by
  rw [List.getElem?_map] at h
  cases e : xs[i]? with
  | none => rw [e] at h; cases h
  | some x => rw [e] at h; exact ⟨x, rfl, (Option.some.inj h).symm⟩
theorem mem_take_succ {α : Type} {xs : List α} {i : Nat} {x : α} (h : xs[i]? = some x) (y : α) : y ∈ xs.take (i + 1) ↔ y ∈ xs.take i ∨ y = x := by
  rw [List.take_add_one, h]
  simp
section
variable {P : Program} {w : World} {K : PySem.W.Frag} {mg : Str → Option Value} {base : Heap} {CA fI pN gN pF gF pM gM fE CL fLI fLE fLL fLA fLN fLK fLR fLP : Addr}
/-! ### kinds() -/
def spLKinds (CL CA : Addr) : Sp := fun vs H Q _ => ∃ (a : Addr) (as : List Addr) (ks : List Ask) (U : List Str), vs = [.ref a] ∧ LineAt CL CA H a as ks ∧ U.length < 64 ∧ (∀ k ∈ ks, ∀ x ∈ k.ks, x ∈ U) ∧
  ∀ (H' : Hp) (p : Addr) (zs : List Str), Same H H' → H p = none → H' p = some (.lst (zs.map V.str)) → sortedS zs = true → zs.Nodup → (∀ x, x ∈ zs ↔ ∃ k ∈ ks, x ∈ k.ks) → Q (.ref p) H'
theorem ok_lkinds {f : Addr} {fd dAF : FuncData} (F : Fun K "kinds" "Line.kinds" sLKinds f fd) (B : Blt mg) (TA : ACls K CA fI pN gN pF gF pM gM fE) (FAF : Fun K "fits" "Asker.fits" sAFits gF dAF) (T : LCls K CL fLI fLE fLL fLA fLN fLK fLR fLP) : FnOk P w K mg base CX0 3 f fd ["self"] (spLKinds CL CA) := by
  have GAFits : FnOk P w K mg base CX0 1 gF dAF ["self"] (spAFits CA) := ok_afits FAF B TA
  have bAFits : Binds K dAF ["self"] [] := FAF.binds fun _ _ _ _ _ _ us hl => match us, hl with | [_], _ => rfl
  refine F.ok scLKinds (fun vs H Q E h => ?_) (fun cdv A outer s H vs Q E hr h => ?_)
  · obtain ⟨a, as, ks, U, rfl, _⟩ := h
    rfl
  · obtain ⟨a, as, ks, U, rfl, ⟨dx, t, h1, h2, h3⟩, hU, hin, q⟩ := h
    refine ⟨_, (pss_one (ps_ret (pe_callB (cr_sortedSetS rfl) (by rfl) B.sorted (by decide +kernel) (pa_cons (pe_sc2 (own := [("asker", 1), ("kind", 2)]) (vs1 := [2]) (g := gName 1) (g1 := gName 2) (wi1 := iList K (tProp CA (spAFits CA) [] (fun _ _ _ => False) (tVar 1))) rfl scLKinds.nd (pi_tup (pe_fld (pv 0) rfl)) (blkOk_by (own := [("asker", 1), ("kind", 2)]) (N := NLKinds) (sc := defScope sLKinds) (by decide +kernel)) (by decide) (fun _ _ _ _ _ => pg_name (i := 1) scLKinds.nd rfl (.inl rfl)) (fun _ _ _ _ _ => (pi_list (pe_prop (pv 1) TA.ins.cl TA.pF GAFits (hr.mono (by decide)) bAFits .nil pass0 rfl))) (fun _ _ _ _ _ => pg_name (i := 2) scLKinds.nd rfl (.inl rfl)) (fun _ _ _ _ _ => (pv 2))) pa_nil)))), ?_⟩
    refine ⟨.ref a, rfl, a, CL, dx, _, _, rfl, h1, T.ins.cl, T.noA, rfl, t, rfl, ⟨_, SqT.of h2⟩, fun D hD => ?_⟩
    have hin' : ∀ i j, (∃ k ∈ ks.take i, j ∈ k.ks) → j ∈ U := fun i j ⟨k, hk, hj⟩ => hin k (List.mem_of_mem_take hk) j hj
    refine sc2_it (n := as.length) (by have := walk_tup (K := K) (a := t) (xs := as.map V.ref); rw [List.length_map] at this; exact this) (fun i G => Same H G ∧ HasS w G D fun j => ∃ k ∈ ks.take i, j ∈ k.ks)
      ⟨Same.fresh hD, _, 0, [], upd_same, .nil, rfl, fun j => by simp, fun j => by simp⟩ (fun i G _ p => SqT.of (p.1 _ _ h2)) ?_ ?_
    · rintro i x G G' hi ⟨sG, hs⟩ ⟨rfl, hx⟩
      obtain ⟨b, hb, rfl⟩ := ref_at hx
      obtain ⟨k, hk, hAk⟩ := h3.get hb
      have hAk := hAk.same sG
      obtain ⟨dx', fs', hI⟩ := hAk.ins
      have hkin : ∀ x ∈ k.ks, x ∈ U := hin k (List.mem_of_getElem? hk)
      refine ⟨rfl, .ref b, rfl, b, dx', fs', rfl, hI, b, k, rfl, hAk, fun l nl => ⟨l, rfl, ⟨_, SqL.of upd_same⟩, ?_⟩⟩
      have nDl : D ≠ l := fun e => by
        obtain ⟨S, n, xs, e1, _⟩ := hs
        rw [e, nl] at e1
        cases e1
      refine sc_in (n1 := k.ks.length) (by have := walk_list (K := K) (a := l) (xs := k.ks.map V.str); rw [List.length_map] at this; exact this) (fun j G2 => Same H G2 ∧ G2 l = some (.lst (k.ks.map V.str)) ∧ HasS w G2 D fun z => (∃ k ∈ ks.take i, z ∈ k.ks) ∨ z ∈ k.ks.take j)
        ⟨sG.trans (Same.fresh nl), upd_same, (hs.same (Same.fresh nl)).iff fun j => by simp⟩ (fun j G2 _ p => SqL.of p.2.1) ?_ ?_
      · rintro j y G2 G2' hj ⟨s2, e2, hs2⟩ ⟨rfl, hy⟩
        obtain ⟨c, hc, rfl⟩ := str_at hy
        obtain ⟨S, n, e3, room, more⟩ := hs2.add (c := c) (U := U) (fun z hz => hz.elim (hin' i z) fun hz => hkin z (List.mem_of_mem_take hz)) hU
        refine ⟨rfl, .str c, rfl, c, S, n, rfl, e3, room, s2.put hD, by rw [upd_ne (Ne.symm nDl)]; exact e2, more.iff fun z => ?_⟩
        rw [mem_take_succ hc]
        exact or_assoc
      · rintro G2 ⟨s2, e2, hs2⟩
        refine ⟨s2, hs2.iff fun z => ?_⟩
        rw [List.take_length]
        constructor
        · rintro (⟨k', hk', hz⟩ | hz)
          · exact ⟨k', (mem_take_succ hk k').mpr (.inl hk'), hz⟩
          · exact ⟨k, (mem_take_succ hk k).mpr (.inr rfl), hz⟩
        · rintro ⟨k', hk', hz⟩
          rcases (mem_take_succ hk k').mp hk' with h | rfl
          · exact .inl ⟨k', h, hz⟩
          · exact .inr hz
    · rintro G ⟨sG, S, n, xs, e, nd, rfl, hS, hM⟩
      have le : xs.length ≤ U.length := nodup_le xs U nd fun y hy => hin' _ y ((hM y).mp hy)
      refine ⟨D, S, xs.length, rfl, e, by omega, fun zs p hso hnd hmem hlen np => ?_⟩
      refine q _ p zs (sG.trans (Same.fresh np)) (Same.free sG np) upd_same hso hnd fun x => ?_
      rw [hmem, hS, hM, h3.len, List.take_length]
/-! ### place(name), asker(name) -/
def spLPlace (CL CA : Addr) : Sp := fun vs H Q _ => ∃ (a : Addr) (as : List Addr) (ks : List Ask) (x : Str) (j : Nat) (k : Ask), vs = [.ref a, .str x] ∧ LineAt CL CA H a as ks ∧ ks.length ≤ 1000 ∧ (ks.map Ask.nm).Nodup ∧ ks[j]? = some k ∧ k.nm = x ∧ ∀ H', Same H H' → Q (.int (j : Nat)) H'
theorem strs_flat (xs : List Str) : (xs.map V.str).all flatV = true := List.all_eq_true.mpr fun v hv => by
  obtain ⟨x, _, rfl⟩ := List.mem_map.mp hv
  rfl
theorem eqV_str (x y : Str) : eqV (V.str x) (V.str y) = decide (x = y) := by
  show (x == y) = decide (x = y)
  by_cases q : x = y <;> simp [q]
theorem inV_strs (x : Str) (xs : List Str) : inV (.str x) (xs.map V.str) = decide (x ∈ xs) := by
  unfold inV
  rw [List.any_map]
  by_cases h : x ∈ xs
  · rw [decide_eq_true h, List.any_eq_true]
    exact ⟨x, h, by show eqV (V.str x) (V.str x) = true; rw [eqV_str]; simp⟩
  · rw [decide_eq_false h, List.any_eq_false]
    intro y hy
    show ¬ eqV (V.str y) (V.str x) = true
    rw [eqV_str, decide_eq_true_eq]
    rintro rfl
    exact h hy
theorem ok_lplace {f : Addr} {fd dLN dAN : FuncData} (F : Fun K "place" "Line.place" sLPlace f fd) (B : Blt mg) (TA : ACls K CA fI pN gN pF gF pM gM fE) (FAN : Fun K "name" "Asker.name" sAName gN dAN) (T : LCls K CL fLI fLE fLL fLA fLN fLK fLR fLP) (FLN : Fun K "names" "Line.names" sLNames fLN dLN) :
    FnOk P w K mg base CX0 4 f fd ["self", "name"] (spLPlace CL CA) := by
  have GLNames : FnOk P w K mg base CX0 3 fLN dLN ["self"] (spLNames CL CA) := ok_lnames FLN TA FAN T
  have bLNames : Binds K dLN ["self"] [] := FLN.binds fun _ _ _ _ _ _ us hl => match us, hl with | [_], _ => rfl
  refine F.ok scLPlace (fun vs H Q E h => ?_) (fun cdv A outer s H vs Q E hr h => ?_)
  · obtain ⟨a, as, ks, x, j, k, rfl, _⟩ := h
    rfl
  · obtain ⟨a, as, ks, x, j, k, rfl, hL, hz, hnd, hj, rfl, q⟩ := h
    obtain ⟨dx, t, h1, _⟩ := id hL
    refine ⟨_, (pss_cons (ps_set (i := 2) scLPlace.nd rfl (.inl rfl) (pe_meth0 (pv 0) T.ins.cl T.mN GLNames (hr.mono (by decide)) bLNames .nil pass0))
      (pss_cons (ps_if (pt_cmpR op_notIn_seq (pv 1) (pv 2) (by rfl)) (pss_one (ps_dead _)) pss_nil)
      (pss_one (ps_ret (pe_bm PySem.F.plainAttrs_list PySem.F.slot_list_index PySem.F.type_list_index mt_index (pv 2) (pa_cons (pv 1) pa_nil)))))), ?_⟩
    refine ⟨.ref a, rfl, a, dx, _, rfl, h1, rfl, a, as, ks, rfl, hL, hz, fun H1 p s1 np e1 => ?_⟩
    refine ⟨.str k.nm, rfl, .ref p, rfl, p, _, rfl, .inl (SqL.of e1), rfl, strs_flat _, _, rfl, ?_⟩
    have hm : k.nm ∈ ks.map Ask.nm := List.mem_map.mpr ⟨k, List.mem_of_getElem? hj, rfl⟩
    rw [inV_strs, decide_eq_true hm]
    refine iteF ⟨.ref p, rfl, .inl ⟨rfl, _, SqL.of e1⟩, .str k.nm, rfl, p, (ks.map Ask.nm).map V.str, .str k.nm, j, .str k.nm, rfl, rfl, SqL.of e1, rfl, strs_flat _, ?_, by rw [eqV_str]; simp, fun m z hm hz' => ?_, q H1 s1⟩
    · rw [List.getElem?_map, List.getElem?_map, hj] <;> rfl
    · obtain ⟨y, hy, rfl⟩ := str_at hz'
      rw [eqV_str, decide_eq_false_iff_not]
      rintro rfl
      have hj' : (ks.map Ask.nm)[j]? = some k.nm := by rw [List.getElem?_map, hj] <;> rfl
      obtain ⟨l1, e1⟩ := List.getElem?_eq_some_iff.mp hy
      obtain ⟨l2, e2⟩ := List.getElem?_eq_some_iff.mp hj'
      exact List.pairwise_iff_getElem.mp hnd m j l1 l2 hm (e1.trans e2.symm)
def spLAsk (CL CA : Addr) : Sp := fun vs H Q _ => ∃ (a : Addr) (as : List Addr) (ks : List Ask) (x : Str) (j : Nat) (k : Ask) (b : Addr), vs = [.ref a, .str x] ∧ LineAt CL CA H a as ks ∧ ks.length ≤ 1000 ∧ (ks.map Ask.nm).Nodup ∧ ks[j]? = some k ∧ k.nm = x ∧ as[j]? = some b ∧ ∀ H', Same H H' → Q (.ref b) H'
theorem ok_lask {f : Addr} {fd dLN dAN dLP : FuncData} (F : Fun K "asker" "Line.asker" sLAsk f fd) (B : Blt mg) (TA : ACls K CA fI pN gN pF gF pM gM fE) (FAN : Fun K "name" "Asker.name" sAName gN dAN) (T : LCls K CL fLI fLE fLL fLA fLN fLK fLR fLP) (FLN : Fun K "names" "Line.names" sLNames fLN dLN) (FLP : Fun K "place" "Line.place" sLPlace fLP dLP) :
    FnOk P w K mg base CX0 5 f fd ["self", "name"] (spLAsk CL CA) := by
  have GLPlace : FnOk P w K mg base CX0 4 fLP dLP ["self", "name"] (spLPlace CL CA) := ok_lplace FLP B TA FAN T FLN
  have bLPlace : Binds K dLP ["self", "name"] [] := FLP.binds fun _ _ _ _ _ _ us hl => match us, hl with | [_, _], _ => rfl
  refine F.ok scLAsk (fun vs H Q E h => ?_) (fun cdv A outer s H vs Q E hr h => ?_)
  · obtain ⟨a, as, ks, x, j, k, b, rfl, _⟩ := h
    rfl
  · obtain ⟨a, as, ks, x, j, k, b, rfl, hL, hz, hnd, hj, rfl, hb, q⟩ := h
    obtain ⟨dx, t, h1, h2, h3⟩ := id hL
    refine ⟨_, (pss_one (ps_ret (pe_ix ix_tup (pe_fld (pv 0) rfl) (pe_meth (pv 0) T.ins.cl T.mP GLPlace (hr.mono (by decide)) bLPlace .nil pass0 (pa_cons (pv 1) pa_nil)) (fun _ _ => rfl)))), ?_⟩
    refine ⟨.ref a, rfl, a, CL, dx, _, _, rfl, h1, T.ins.cl, T.noA, rfl, .ref a, rfl, a, dx, _, rfl, h1, rfl, .str k.nm, rfl, a, as, ks, k.nm, j, k, rfl, hL, hz, hnd, hj, rfl, fun H' s' => ?_⟩
    exact ⟨t, as.map V.ref, j, .ref b, rfl, rfl, SqT.of (s' _ _ h2), atI_nat (by rw [List.getElem?_map, hb] <;> rfl), q H' s'⟩
end
end Eld
end L2

set_option Elab.async false
set_option linter.all false
set_option maxRecDepth 100000
set_option maxHeartbeats 4000000
/-! ## a purse among tracked things; filtered lists of texts -/
namespace L2
namespace Eld
open PySem PySem.Spec PyProof.Rows PySem.EldX
/-- all but the purse -/
abbrev Kp (p : Addr) (H H' : Hp) : Prop := Kept (· = p) H H'
theorem Kp.of_but {p : Addr} {H H' : Hp} (h : But p H H') : Kp p H H' := Kept.of_but h
theorem Kp.sql {K : PySem.W.Frag} {p l : Addr} {H H' : Hp} {xs : List V} (k : Kp p H H') (ne : l ≠ p) (h : SqL K H l xs) : SqL K H' l xs := by
  rcases h with (h | ⟨o, h⟩) | h
  · exact .inl (.inl (k _ _ ne h))
  · exact .inl (.inr ⟨o, k _ _ ne h⟩)
  · exact .inr h
theorem purse_lst {H : Hp} {p : Addr} {n : Nat} (h : PurseAt H p n) : ∃ xs : List V, H p = some (.lst xs) := by
  obtain ⟨a, b, c, d, e, _⟩ := h
  exact ⟨_, e⟩
theorem Kp.ask {C p a : Addr} {H H' : Hp} {k : Ask} {n : Nat} (s : Kp p H H') (hp : PurseAt H p n) (h : AskAt C H a k) : AskAt C H' a k := by
  obtain ⟨xs, e⟩ := purse_lst hp
  exact h.off e fun b o hb eb => s b o hb eb
theorem Kp.asks {C p : Addr} {H H' : Hp} {n : Nat} (s : Kp p H H') (hp : PurseAt H p n) {as : List Addr} {ks : List Ask} (h : Asks C H as ks) : Asks C H' as ks := by
  obtain ⟨xs, e⟩ := purse_lst hp
  exact h.off e fun b o hb eb => s b o hb eb
theorem Kp.ne {p q : Addr} {H : Hp} {n : Nat} (hp : PurseAt H p n) (hq : H q = none) : q ≠ p := fun e => by
  obtain ⟨xs, e1⟩ := purse_lst hp
  rw [← e, hq] at e1
  cases e1
theorem Kp.free {p q : Addr} {H H' : Hp} (s : Kp p H H') (ne : q ≠ p) (h : H' q = none) : H q = none := by
  cases e : H q with
  | none => rfl
  | some o =>
    rw [s q o ne e] at h
    cases h
theorem Kp.same {p : Addr} {H H' : Hp} (s : Same H H') : Kp p H H' := Kept.of_same s
theorem PurseAt.put {H : Hp} {p D : Addr} {n : Nat} {o : HO} (h : PurseAt H p n) (ne : D ≠ p) : PurseAt (upd H D o) p n := h.of_eq (upd_ne (Ne.symm ne))
theorem PurseAt.fresh {H : Hp} {p D : Addr} {n : Nat} {o : HO} (h : PurseAt H p n) (nD : H D = none) : PurseAt (upd H D o) p n := h.same (Same.fresh nD)
/-- what keep lets through -/
theorem lc_keep {J : It} {n : Nat} {G : Hp → Prop} {xs : List Str} {keep : Str → Bool} (w : Walk J n G (YAt (xs.map V.str))) (hn : n = xs.length) {g : TG} {tt : TT} {te : TE} {vs : List Nat} {σ : St} {H1 : Hp} {D : Addr} {Qd : Hp → Prop} (hz : xs.length ≤ 1000) (hD : H1 D = none) (hG : ∀ H, Same H1 H → G H)
    (hs : ∀ x H, Same H1 H → x ∈ xs → ∀ (N : VK) (M : Hp → Prop), (keep x = true → N (.str x) H) → (keep x = false → M H) → g (.str x) (wipe σ vs) H fun σ2 H2 => wipe σ2 vs = wipe σ vs ∧ tt σ2 H2 fun b H3 => if b = true then te σ2 H3 N else M H3)
    (hd : ∀ H, Same H1 H → H D = some (.lst ((xs.filter keep).map V.str)) → Qd H) :
    ∃ W : Nat → Nat → Hp → Prop, (∃ m, W 0 m (upd H1 D (.lst []))) ∧ ∀ i m H, W i m H →
      (J.stop i H ∧ Qd H) ∨ (J.go i H ∧ ∃ Nx : Hp → Prop, (∀ H', Nx H' → ∃ m', m' < m ∧ W (i + 1) m' H') ∧ ∀ x H', J.yld i H x H' → g x (wipe σ vs) H' fun σ2 H2 => wipe σ2 vs = wipe σ vs ∧ tt σ2 H2 fun b H3 =>
        if b = true then te σ2 H3 fun y H4 => ∃ acc, H4 D = some (.lst acc) ∧ acc.length < sizeLine ∧ Nx (upd H4 D (.lst (acc ++ [y]))) else Nx H3) := by
  subst hn
  refine lc_it w (fun i H => Same H1 H ∧ H D = some (.lst (((xs.take i).filter keep).map V.str))) ⟨Same.fresh hD, by rw [upd_same]; rfl⟩ (fun i H _ p => hG H p.1) ?_ fun H p => hd H p.1 (by rw [p.2, List.take_length])
  rintro i v H H' hi ⟨s, e⟩ ⟨rfl, hv⟩
  obtain ⟨x, hx, rfl⟩ := str_at hv
  have et : xs.take (i + 1) = xs.take i ++ [x] := by rw [List.take_add_one, hx]; rfl
  refine hs x H' s (List.mem_of_getElem? hx) _ _ (fun hk => ?_) fun hk => ?_
  · refine ⟨_, e, ?_, s.put hD, ?_⟩
    · rw [List.length_map, sizeLine_eq]
      have := List.length_filter_le keep (xs.take i)
      rw [List.length_take] at this
      omega
    · rw [upd_same, et, List.filter_append, List.map_append]
      simp [hk]
  · refine ⟨s, ?_⟩
    rw [e, et, List.filter_append]
    simp [hk]
end Eld
end L2

set_option Elab.async false
set_option linter.all false
set_option maxRecDepth 100000
set_option maxHeartbeats 4000000
/-! ## the law's own drawing: shuffled, names, kinds, most -/
namespace L2
namespace Eld
open PySem PySem.Spec PyProof.Rows PySem.EldX
/-- the drawing defs, where they stand -/
structure Drw (K : PySem.W.Frag) (mg : Str → Option Value) (fM fD fO fS fW : Addr) (dM dD dO dS dW : FuncData) : Prop where
  Mixed : Fun K "_law_mixed" "_law_mixed" sMixed fM dM
  Draw : Fun K "_law_draw" "_law_draw" sDraw fD dD
  Shuffled : Fun K "_law_shuffled" "_law_shuffled" sShuffled fS dS
  Word : Fun K "_law_word" "_law_word" sWord fW dW
  gMixed : mg "_law_mixed" = some (.ref fM)
  gDraw : mg "_law_draw" = some (.ref fD)
  gShuffled : mg "_law_shuffled" = some (.ref fS)
  gWord : mg "_law_word" = some (.ref fW)
section
variable {P : Program} {w : World} {K : PySem.W.Frag} {mg : Str → Option Value} {base : Heap} {fM fD fO fS fW : Addr} {dM dD dO dS dW : FuncData}
theorem Drw.bDraw (L : Drw K mg fM fD fO fS fW dM dD dO dS dW) : Binds K dD ["_law_purse_here", "_law_many"] [] := L.Draw.binds fun _ _ _ _ _ _ us hl => match us, hl with | [_, _], _ => rfl
theorem Drw.bShuffled (L : Drw K mg fM fD fO fS fW dM dD dO dS dW) : Binds K dS ["_law_purse_here", "_law_some"] [] := L.Shuffled.binds fun _ _ _ _ _ _ us hl => match us, hl with | [_, _], _ => rfl
theorem Drw.bWord (L : Drw K mg fM fD fO fS fW dM dD dO dS dW) : Binds K dW ["_law_purse_here"] [] := L.Word.binds fun _ _ _ _ _ _ us hl => match us, hl with | [_], _ => rfl
theorem Drw.okDraw (L : Drw K mg fM fD fO fS fW dM dD dO dS dW) (B : Blt mg) : FnOk P w K mg base CX0 2 fD dD ["_law_purse_here", "_law_many"] spDraw := ok_draw L.Draw L.Mixed L.gMixed B.range
theorem Drw.okWord (L : Drw K mg fM fD fO fS fW dM dD dO dS dW) (B : Blt mg) : FnOk P w K mg base CX0 3 fW dW ["_law_purse_here"] spWord := ok_word L.Word L.Draw L.Mixed L.gDraw L.gMixed B.range
/-! ### _law_shuffled -/
def spShuffled (K : PySem.W.Frag) : Sp := fun vs H Q _ => ∃ (p l : Addr) (xs : List V) (n : Nat), vs = [.ref p, .ref l] ∧ PurseAt H p n ∧ n ≤ 90000000000 ∧ SqL K H l xs ∧ l ≠ p ∧ xs.length ≤ 60 ∧
  ∀ (H' : Hp) (q : Addr) (ys : List V), Kp p H H' → PurseAt H' p (n + 40 * xs.length) → H q = none → H' q = some (.lst ys) → ys.Perm xs → Q (.ref q) H'
theorem perm_insert {α : Type} (ys : List α) (k : Nat) (x : α) : (ys.take k ++ [x] ++ ys.drop k).Perm (ys ++ [x]) := by
  have h : (ys.take k ++ ([x] ++ ys.drop k)).Perm (ys.take k ++ (ys.drop k ++ [x])) := List.Perm.append_left _ List.perm_append_comm
  rw [List.append_assoc]
  refine h.trans ?_
  rw [← List.append_assoc, List.take_append_drop]
theorem Drw.okShuffled (L : Drw K mg fM fD fO fS fW dM dD dO dS dW) (B : Blt mg) : FnOk P w K mg base CX0 3 fS dS ["_law_purse_here", "_law_some"] (spShuffled K) := by
  have GDraw : FnOk P w K mg base CX0 2 fD dD ["_law_purse_here", "_law_many"] spDraw := L.okDraw B
  refine L.Shuffled.ok scShuffled (fun vs H Q E h => ?_) (fun cdv A outer s H vs Q E hr h => ?_)
  · obtain ⟨p, l, xs, n, rfl, _⟩ := h
    rfl
  · obtain ⟨p, l, xs, n, rfl, hp, hn, hS, ne, hz, q⟩ := h
    refine ⟨_, (pss_cons (ps_set (i := 2) scShuffled.nd rfl (.inl rfl) (pe_lst pa_nil))
      (pss_cons (ps_for PassesOwn.never rfl (pi_list (pv 1)) (pg_name (i := 3) scShuffled.nd rfl (.inl rfl))
        (pss_one (ps_expr (pe_bm PySem.F.plainAttrs_list PySem.F.slot_list_insert PySem.F.type_list_insert mt_insert (pv 2) (pa_cons (pe_call GDraw (hr.mono (by decide)) (by rfl) L.gDraw L.Draw.kp L.bDraw .nil pass0 (pa_cons (pv 0) (pa_cons (pe_op op_add (pe_callB call_len_seq (by rfl) B.len PySem.boot_len (pa_cons (pv 2) pa_nil)) pe_int) pa_nil))) (pa_cons (pv 3) pa_nil))))))
      (pss_one (ps_ret (pv 2))))), ?_⟩
    refine ⟨(by show 0 ≤ sizeLine; decide), fun fnd nf => ?_⟩
    have nfp : fnd ≠ p := Kp.ne hp nf
    refine ⟨.ref l, rfl, l, rfl, ⟨_, (Same.fresh nf).seq hS⟩, for_list (K := K) (a := l) (xs := xs) (fun i σ H' => ∃ (ys : List V) (v : Option V), σ = [some (.ref p), some (.ref l), some (.ref fnd), v] ∧ Kp p H H' ∧ PurseAt H' p (n + 40 * i) ∧ H' fnd = some (.lst ys) ∧ ys.Perm (xs.take i))
      ⟨[], none, rfl, Kept.of_same (Same.fresh nf), hp.fresh nf, upd_same, .refl _⟩ (fun i σ H' _ ⟨_, _, _, k, _⟩ => k.sql ne hS) ?_ ?_⟩
    · rintro i x σ H' hi ⟨ys, v, rfl, k, hp', e, pm⟩
      have hi' : i < xs.length := (List.getElem?_eq_some_iff.mp hi).1
      have ly : ys.length = i := by
        rw [pm.length_eq, List.length_take]
        omega
      refine ⟨.ref fnd, rfl, .inl ⟨rfl, _, SqL.of e⟩, .ref p, rfl, .ref fnd, rfl, fnd, ys, rfl, .inl (SqL.of e), _, _, rfl, rfl, ?_⟩
      refine ⟨p, _, _, rfl, hp', by omega, by omega, small_bits (n := ys.length + 1) (by omega), fun H2 r hB hP r0 r1 => ?_⟩
      have e2 : H2 fnd = some (.lst ys) := (hB fnd nfp).trans e
      refine ⟨x, rfl, fnd, ys, r, x, rfl, rfl, e2, by rw [sizeLine_eq]; omega, r0, by omega, ?_⟩
      refine ⟨_, some x, rfl, (k.trans (Kp.of_but hB)).put nf, (hP.mono (by omega)).put nfp, upd_same, ?_⟩
      rw [List.take_add_one, hi]
      exact (perm_insert ys r.toNat x).trans (pm.append (.refl _))
    · rintro σ H' ⟨ys, v, rfl, k, hp', e, pm⟩
      rw [List.take_length] at pm
      exact ⟨.ref fnd, rfl, q H' fnd ys k hp' nf e pm⟩
/-! ### _law_names, _law_kinds -/
instance (x : Str) : Decidable (IsWord x) := by unfold IsWord; infer_instance
theorem filter_one {α : Type} (f : α → Bool) (x : α) : [x].filter f = if f x = true then [x] else [] := by
  by_cases h : f x = true <;> simp [h]
def baseNames : List Str := ["ann", "a", "ab", "b", "none", "nobody", "end", "zzzzzzzzzz"]
def baseKinds : List Str := ["a", "ab", "b", "o", "none", "ann", "aaaaaaaaaa"]
/-- some of the words of a list and one more -/
def spPick : Sp := fun vs H Q _ => ∃ (p : Addr) (m : Int) (n : Nat), vs = [.ref p, .int m] ∧ PurseAt H p n ∧ n ≤ 80000000000 ∧ 1 ≤ m ∧
  ∀ (H' : Hp) (q : Addr) (ys : List Str), Kp p H H' → PurseAt H' p (n + 840) → H q = none → H' q = some (.lst (ys.map V.str)) → (∀ y ∈ ys, IsWord y) → ys.Nodup → 1 ≤ ys.length → ys.length ≤ 9 → (ys.length : Int) ≤ m → (∃ z, ∀ y ∈ ys, y ∈ baseNames ++ baseKinds ∨ y = z) → Q (.ref q) H'
def strV : V → Str
  | .str x => x
  | _ => ""
theorem perm_strs {ys : List V} {xs : List Str} (h : ys.Perm (xs.map V.str)) : ∃ zs : List Str, ys = zs.map V.str ∧ zs.Perm xs := by
  refine ⟨ys.map strV, ?_, ?_⟩
  · rw [List.map_map]
    refine (List.map_id _).symm.trans (List.map_congr_left fun v hv => ?_)
    obtain ⟨x, _, rfl⟩ := List.mem_map.mp (h.mem_iff.mp hv)
    rfl
  · have q := h.map strV
    rw [List.map_map] at q
    have e : xs.map (strV ∘ V.str) = xs := (List.map_congr_left fun _ _ => rfl).trans (List.map_id _)
    rw [e] at q
    exact q
theorem pick_end {p : Addr} {n : Nat} {m : Int} {H H1 : Hp} {Q : VK} {zs : List Str} (hw : ∀ y ∈ zs, IsWord y) (hz : ∃ z, ∀ y ∈ zs, y ∈ baseNames ++ baseKinds ∨ y = z) (hnd : zs.Nodup) (hl : 1 ≤ zs.length) (h9 : zs.length ≤ 9) (hm : 1 ≤ m) (hp : PurseAt H p n) (k : Kp p H H1) (hP : PurseAt H1 p (n + 840))
    (h : ∀ (H' : Hp) (q : Addr) (ys : List Str), Kp p H H' → PurseAt H' p (n + 840) → H q = none → H' q = some (.lst (ys.map V.str)) → (∀ y ∈ ys, IsWord y) → ys.Nodup → 1 ≤ ys.length → ys.length ≤ 9 → (ys.length : Int) ≤ m → (∃ z, ∀ y ∈ ys, y ∈ baseNames ++ baseKinds ∨ y = z) → Q (.ref q) H') :
    ∀ c, H1 c = none → Q (.ref c) (upd H1 c (.lst (cutV (zs.map V.str) none (some m)))) := by
  intro c nc
  obtain ⟨j, rfl⟩ : ∃ j : Nat, m = (j : Int) := ⟨m.toNat, by omega⟩
  have e : cutV (zs.map V.str) none (some (j : Int)) = (zs.take (min j zs.length)).map V.str := by
    rw [cutV_map, HT.sIx_none, HT.sIx_nat]
    simp
  rw [e]
  have nc0 : H c = none := k.free (Kp.ne hP nc) nc
  refine h _ c (zs.take (min j zs.length)) (k.trans (Kept.of_same (Same.fresh nc))) (hP.fresh nc) nc0 upd_same (fun y hy => hw y (List.mem_of_mem_take hy)) (hnd.sublist (List.take_sublist _ _)) (by rw [List.length_take]; omega) (by rw [List.length_take]; omega) (by rw [List.length_take]; omega) (let ⟨z, hz⟩ := hz; ⟨z, fun y hy => hz y (List.mem_of_mem_take hy)⟩)
theorem baseNames_ok : (∀ y ∈ baseNames, IsWord y) ∧ baseNames.Nodup ∧ baseNames.length = 8 := by decide +kernel
theorem ok_lawNames {f : Addr} {fd : FuncData} (F : Fun K "_law_names" "_law_names" sNames f fd) (L : Drw K mg fM fD fO fS fW dM dD dO dS dW) (B : Blt mg) : FnOk P w K mg base CX0 4 f fd ["_law_purse_here", "_law_many"] spPick := by
  have GWord : FnOk P w K mg base CX0 3 fW dW ["_law_purse_here"] spWord := L.okWord B
  have GShuffled : FnOk P w K mg base CX0 3 fS dS ["_law_purse_here", "_law_some"] (spShuffled K) := L.okShuffled B
  refine F.ok scNames (fun vs H Q E h => ?_) (fun cdv A outer s H vs Q E hr h => ?_)
  · obtain ⟨p, m, n, rfl, _⟩ := h
    rfl
  · obtain ⟨p, m, n, rfl, hp, hn, hm, q⟩ := h
    refine ⟨_, (pss_cons (ps_asg (pe_tup (pa_cons (pe_lst (pa_cons pe_str (pa_cons pe_str (pa_cons pe_str (pa_cons pe_str (pa_cons pe_str (pa_cons pe_str (pa_cons pe_str (pa_cons pe_str pa_nil))))))))) (pa_cons (pe_call GWord (hr.mono (by decide)) (by rfl) L.gWord L.Word.kp L.bWord .nil pass0 (pa_cons (pv 0) pa_nil)) pa_nil))) (pg_tup rfl (pgs_cons (pg_name (i := 2) scNames.nd rfl (.inr rfl)) (pgs_cons (pg_name (i := 3) scNames.nd rfl (.inl rfl)) pgs_nil))))
      (pss_one (ps_ret (pe_slice sl_list (pe_call GShuffled (hr.mono (by decide)) (by rfl) L.gShuffled L.Shuffled.kp L.bShuffled .nil pass0 (pa_cons (pv 0) (pa_cons (pe_op op_cat (pv 2) (pe_lc (own := [("_law_word_here", 4)]) (g := gName 4) (tt := tTest (tOp (rIn K true) (tVar 4) (tVar 2))) rfl scNames.nd (pi_list (pe_lst (pa_cons (pv 3) pa_nil))) (blkOk_by (own := [("_law_word_here", 4)]) (N := NNames) (sc := defScope sNames) (by decide +kernel)) (fun _ _ _ _ _ => pg_name (i := 4) scNames.nd rfl (.inl rfl)) (fun _ _ _ _ _ => pts_one (pt_cmpR op_notIn_seq (pv 4) (pv 2) (by rfl))) (fun _ _ _ _ _ => (pv 4)))) pa_nil))) po_none (po_some (pv 1)))))), ?_⟩
    refine ⟨(by show 8 ≤ sizeLine; decide), fun a na => ?_⟩
    have nap : a ≠ p := Kp.ne hp na
    refine ⟨.ref p, rfl, p, n, rfl, hp.fresh na, by omega, fun H1 wd hB hP hw => ?_⟩
    have e1 : H1 a = some (.lst (baseNames.map V.str)) := (hB a nap).trans upd_same
    have k1 : Kp p H H1 := (Kept.of_same (Same.fresh na)).trans (Kp.of_but hB)
    refine ⟨(by show 2 ≤ sizeLine; decide), fun tp nt => ⟨tp, _, rfl, SqT.of upd_same, rfl, _, _, rfl, _, _, rfl, rfl, ?_⟩⟩
    have ntp : tp ≠ p := Kp.ne hP nt
    have s2 := Same.fresh (o := .tup [.ref a, .str wd]) nt
    refine ⟨.ref p, rfl, .ref a, rfl, .str wd, rfl, (by show 1 ≤ sizeLine; decide), fun b nb => ⟨b, rfl, ⟨_, SqL.of upd_same⟩, fun D hD => ?_⟩⟩
    have s3 := Same.fresh (o := .lst [.str wd]) nb
    have s13 : Same H1 (upd (upd H1 tp (.tup [.ref a, .str wd])) b (.lst [.str wd])) := s2.trans s3
    have ea := s13 _ _ e1
    have eb : upd (upd H1 tp (.tup [.ref a, .str wd])) b (.lst [.str wd]) b = some (.lst ([wd].map V.str)) := upd_same
    refine lc_keep (xs := [wd]) (keep := fun x => decide (x ∉ baseNames)) (by have := walk_list (K := K) (a := b) (xs := [wd].map V.str); exact this) rfl (by show 1 ≤ 1000; decide) hD (fun G sG => SqL.of (sG _ _ eb)) (fun x G sG _ N M h1 h2 => ?_) fun G sG eG => ?_
    · refine ⟨rfl, .str x, rfl, .ref a, rfl, a, _, rfl, .inl (SqL.of (sG _ _ ea)), rfl, strs_flat _, _, rfl, ?_⟩
      rw [inV_strs]
      by_cases hx : x ∈ baseNames
      · rw [decide_eq_true hx]
        exact h2 (by rw [decide_eq_false (fun z => z hx)])
      · rw [decide_eq_false hx]
        exact ⟨.str x, rfl, h1 (decide_eq_true hx)⟩
    · have eaG := sG _ _ ea
      have hPG : PurseAt G p (n + 440) := hP.same (s13.trans sG)
      obtain ⟨b1, b2, b3⟩ := baseNames_ok
      generalize hfl : [wd].filter (fun x => decide (x ∉ baseNames)) = fl at eG
      have fw : ∀ y ∈ fl, IsWord y ∧ y ∉ baseNames := fun y hy => by
        rw [← hfl, List.mem_filter] at hy
        obtain rfl := List.mem_singleton.mp hy.1
        exact ⟨hw, of_decide_eq_true hy.2⟩
      have fl1 : fl.length ≤ 1 := by
        rw [← hfl]
        exact List.length_filter_le _ _
      have fnd : fl.Nodup := by
        rw [← hfl]
        exact List.Nodup.sublist List.filter_sublist (List.nodup_cons.mpr ⟨List.not_mem_nil, List.nodup_nil⟩)
      refine ⟨a, D, _, _, rfl, rfl, eaG, eG, ?_, fun c nc => ?_⟩
      · rw [List.length_map, List.length_map, b3, sizeLine_eq]
        omega
      · have hPc : PurseAt (upd G c (.lst (baseNames.map V.str ++ fl.map V.str))) p (n + 440) := hPG.fresh nc
        have kG : Kp p H1 G := Kp.same (s13.trans sG)
        refine ⟨p, c, _, n + 440, rfl, hPc, by omega, SqL.of upd_same, Kp.ne hPG nc, ?_, fun H2 q2 ys k2 hP2 nq2 eq2 pm => ?_⟩
        · rw [List.length_append, List.length_map, List.length_map, b3]
          omega
        · rw [← List.map_append] at pm
          obtain ⟨zs, rfl, pz⟩ := perm_strs pm
          have lz : zs.length = 8 + fl.length := by
            rw [pz.length_eq, List.length_append, b3]
          refine ⟨.int m, rfl, m, rfl, q2, _, rfl, SqL.of eq2, ?_⟩
          have fz : ∃ z, ∀ y ∈ zs, y ∈ baseNames ++ baseKinds ∨ y = z := ⟨wd, fun y hy => (List.mem_append.mp (pz.mem_iff.mp hy)).elim (fun z => .inl (List.mem_append_left _ z)) fun z => .inr (by rw [← hfl, List.mem_filter] at z; exact List.mem_singleton.mp z.1)⟩
          refine pick_end (fun y hy => ?_) fz (pz.nodup_iff.mpr ?_) (by omega) (by omega) hm hp ((k1.trans (kG.trans (Kept.of_same (Same.fresh nc)))).trans k2) (hP2.mono (by rw [List.length_append, List.length_map, List.length_map, b3]; omega)) q
          · rcases List.mem_append.mp (pz.mem_iff.mp hy) with z | z
            · exact b1 y z
            · exact (fw y z).1
          · rw [List.nodup_append]
            exact ⟨b2, fnd, fun u hu v hv e => (fw v hv).2 (e ▸ hu)⟩
theorem baseKinds_ok : (∀ y ∈ baseKinds, IsWord y) ∧ baseKinds.Nodup ∧ baseKinds.length = 7 := by decide +kernel
theorem ok_lawKinds {f : Addr} {fd : FuncData} (F : Fun K "_law_kinds" "_law_kinds" sKinds f fd) (L : Drw K mg fM fD fO fS fW dM dD dO dS dW) (B : Blt mg) : FnOk P w K mg base CX0 4 f fd ["_law_purse_here", "_law_many"] spPick := by
  have GWord : FnOk P w K mg base CX0 3 fW dW ["_law_purse_here"] spWord := L.okWord B
  have GShuffled : FnOk P w K mg base CX0 3 fS dS ["_law_purse_here", "_law_some"] (spShuffled K) := L.okShuffled B
  refine F.ok scKinds (fun vs H Q E h => ?_) (fun cdv A outer s H vs Q E hr h => ?_)
  · obtain ⟨p, m, n, rfl, _⟩ := h
    rfl
  · obtain ⟨p, m, n, rfl, hp, hn, hm, q⟩ := h
    refine ⟨_, (pss_cons (ps_asg (pe_tup (pa_cons (pe_lst (pa_cons pe_str (pa_cons pe_str (pa_cons pe_str (pa_cons pe_str (pa_cons pe_str (pa_cons pe_str (pa_cons pe_str pa_nil)))))))) (pa_cons (pe_call GWord (hr.mono (by decide)) (by rfl) L.gWord L.Word.kp L.bWord .nil pass0 (pa_cons (pv 0) pa_nil)) pa_nil))) (pg_tup rfl (pgs_cons (pg_name (i := 2) scKinds.nd rfl (.inr rfl)) (pgs_cons (pg_name (i := 3) scKinds.nd rfl (.inl rfl)) pgs_nil))))
      (pss_one (ps_ret (pe_slice sl_list (pe_call GShuffled (hr.mono (by decide)) (by rfl) L.gShuffled L.Shuffled.kp L.bShuffled .nil pass0 (pa_cons (pv 0) (pa_cons (pe_op op_cat (pv 2) (pe_lc (own := [("_law_word_here", 4)]) (g := gName 4) (tt := tTest (tOp (rIn K true) (tVar 4) (tVar 2))) rfl scKinds.nd (pi_list (pe_lst (pa_cons (pv 3) pa_nil))) (blkOk_by (own := [("_law_word_here", 4)]) (N := NKinds) (sc := defScope sKinds) (by decide +kernel)) (fun _ _ _ _ _ => pg_name (i := 4) scKinds.nd rfl (.inl rfl)) (fun _ _ _ _ _ => pts_one (pt_cmpR op_notIn_seq (pv 4) (pv 2) (by rfl))) (fun _ _ _ _ _ => (pv 4)))) pa_nil))) po_none (po_some (pv 1)))))), ?_⟩
    refine ⟨(by show 7 ≤ sizeLine; decide), fun a na => ?_⟩
    have nap : a ≠ p := Kp.ne hp na
    refine ⟨.ref p, rfl, p, n, rfl, hp.fresh na, by omega, fun H1 wd hB hP hw => ?_⟩
    have e1 : H1 a = some (.lst (baseKinds.map V.str)) := (hB a nap).trans upd_same
    have k1 : Kp p H H1 := (Kept.of_same (Same.fresh na)).trans (Kp.of_but hB)
    refine ⟨(by show 2 ≤ sizeLine; decide), fun tp nt => ⟨tp, _, rfl, SqT.of upd_same, rfl, _, _, rfl, _, _, rfl, rfl, ?_⟩⟩
    have ntp : tp ≠ p := Kp.ne hP nt
    have s2 := Same.fresh (o := .tup [.ref a, .str wd]) nt
    refine ⟨.ref p, rfl, .ref a, rfl, .str wd, rfl, (by show 1 ≤ sizeLine; decide), fun b nb => ⟨b, rfl, ⟨_, SqL.of upd_same⟩, fun D hD => ?_⟩⟩
    have s3 := Same.fresh (o := .lst [.str wd]) nb
    have s13 : Same H1 (upd (upd H1 tp (.tup [.ref a, .str wd])) b (.lst [.str wd])) := s2.trans s3
    have ea := s13 _ _ e1
    have eb : upd (upd H1 tp (.tup [.ref a, .str wd])) b (.lst [.str wd]) b = some (.lst ([wd].map V.str)) := upd_same
    refine lc_keep (xs := [wd]) (keep := fun x => decide (x ∉ baseKinds)) (by have := walk_list (K := K) (a := b) (xs := [wd].map V.str); exact this) rfl (by show 1 ≤ 1000; decide) hD (fun G sG => SqL.of (sG _ _ eb)) (fun x G sG _ N M h1 h2 => ?_) fun G sG eG => ?_
    · refine ⟨rfl, .str x, rfl, .ref a, rfl, a, _, rfl, .inl (SqL.of (sG _ _ ea)), rfl, strs_flat _, _, rfl, ?_⟩
      rw [inV_strs]
      by_cases hx : x ∈ baseKinds
      · rw [decide_eq_true hx]
        exact h2 (by rw [decide_eq_false (fun z => z hx)])
      · rw [decide_eq_false hx]
        exact ⟨.str x, rfl, h1 (decide_eq_true hx)⟩
    · have eaG := sG _ _ ea
      have hPG : PurseAt G p (n + 440) := hP.same (s13.trans sG)
      obtain ⟨b1, b2, b3⟩ := baseKinds_ok
      generalize hfl : [wd].filter (fun x => decide (x ∉ baseKinds)) = fl at eG
      have fw : ∀ y ∈ fl, IsWord y ∧ y ∉ baseKinds := fun y hy => by
        rw [← hfl, List.mem_filter] at hy
        obtain rfl := List.mem_singleton.mp hy.1
        exact ⟨hw, of_decide_eq_true hy.2⟩
      have fl1 : fl.length ≤ 1 := by
        rw [← hfl]
        exact List.length_filter_le _ _
      have fnd : fl.Nodup := by
        rw [← hfl]
        exact List.Nodup.sublist List.filter_sublist (List.nodup_cons.mpr ⟨List.not_mem_nil, List.nodup_nil⟩)
      refine ⟨a, D, _, _, rfl, rfl, eaG, eG, ?_, fun c nc => ?_⟩
      · rw [List.length_map, List.length_map, b3, sizeLine_eq]
        omega
      · have hPc : PurseAt (upd G c (.lst (baseKinds.map V.str ++ fl.map V.str))) p (n + 440) := hPG.fresh nc
        have kG : Kp p H1 G := Kp.same (s13.trans sG)
        refine ⟨p, c, _, n + 440, rfl, hPc, by omega, SqL.of upd_same, Kp.ne hPG nc, ?_, fun H2 q2 ys k2 hP2 nq2 eq2 pm => ?_⟩
        · rw [List.length_append, List.length_map, List.length_map, b3]
          omega
        · rw [← List.map_append] at pm
          obtain ⟨zs, rfl, pz⟩ := perm_strs pm
          have lz : zs.length = 7 + fl.length := by
            rw [pz.length_eq, List.length_append, b3]
          refine ⟨.int m, rfl, m, rfl, q2, _, rfl, SqL.of eq2, ?_⟩
          have fz : ∃ z, ∀ y ∈ zs, y ∈ baseNames ++ baseKinds ∨ y = z := ⟨wd, fun y hy => (List.mem_append.mp (pz.mem_iff.mp hy)).elim (fun z => .inl (List.mem_append_right _ z)) fun z => .inr (by rw [← hfl, List.mem_filter] at z; exact List.mem_singleton.mp z.1)⟩
          refine pick_end (fun y hy => ?_) fz (pz.nodup_iff.mpr ?_) (by omega) (by omega) hm hp ((k1.trans (kG.trans (Kept.of_same (Same.fresh nc)))).trans k2) (hP2.mono (by rw [List.length_append, List.length_map, List.length_map, b3]; omega)) q
          · rcases List.mem_append.mp (pz.mem_iff.mp hy) with z | z
            · exact b1 y z
            · exact (fw y z).1
          · rw [List.nodup_append]
            exact ⟨b2, fnd, fun u hu v hv e => (fw v hv).2 (e ▸ hu)⟩
theorem mem_cutV {xs : List V} {lo hi : Option Int} {v : V} (h : v ∈ cutV xs lo hi) : v ∈ xs := List.mem_of_mem_drop (List.mem_of_mem_take h)
end
end Eld
end L2

set_option Elab.async false
set_option linter.all false
set_option maxRecDepth 100000
set_option maxHeartbeats 4000000
namespace L2
namespace Eld
open PySem PySem.Spec PyProof.Rows PySem.EldX
section
/-- an asker that does not stand in the purse's place -/
def AskOff (C p : Addr) (H : Hp) (a : Addr) (k : Ask) : Prop := ∃ dx t : Addr, a ≠ p ∧ t ≠ p ∧ H a = some (.ins C dx (afs k.nm t k.m)) ∧ H t = some (.tup (k.ks.map V.str))
theorem AskOff.of {C p a : Addr} {H : Hp} {k : Ask} {n : Nat} (hp : PurseAt H p n) (h : AskAt C H a k) : AskOff C p H a k := by
  obtain ⟨xs, e⟩ := purse_lst hp
  obtain ⟨dx, t, h1, h2⟩ := h
  refine ⟨dx, t, fun z => ?_, fun z => ?_, h1, h2⟩
  · rw [z, e] at h1
    cases h1
  · rw [z, e] at h2
    cases h2
theorem AskOff.ask {C p a : Addr} {H : Hp} {k : Ask} (h : AskOff C p H a k) : AskAt C H a k := by
  obtain ⟨dx, t, _, _, h1, h2⟩ := h
  exact ⟨dx, t, h1, h2⟩
theorem AskOff.stay {C p D a : Addr} {H H' : Hp} {k : Ask} {xs : List V} (h : AskOff C p H a k) (hD : H D = some (.lst xs)) (s : Kept (· = p) H H' ∨ ∀ b o, b ≠ D → H b = some o → H' b = some o) : AskOff C p H' a k := by
  obtain ⟨dx, t, n1, n2, h1, h2⟩ := h
  rcases s with s | s
  · exact ⟨dx, t, n1, n2, s _ _ n1 h1, s _ _ n2 h2⟩
  · refine ⟨dx, t, n1, n2, s _ _ (fun z => ?_) h1, s _ _ (fun z => ?_) h2⟩
    · rw [z, hD] at h1
      cases h1
    · rw [z, hD] at h2
      cases h2
theorem walk_strs {K : PySem.W.Frag} {a : Addr} {xs : List Str} : Walk (Itl K a) xs.length (fun H => SqL K H a (xs.map V.str)) (YAt (xs.map V.str)) := by
  have := walk_list (K := K) (a := a) (xs := xs.map V.str)
  rw [List.length_map] at this
  exact this
theorem mk_list {α β : Type} (R : Nat → β → α → Prop) : ∀ (acc : List β), (∀ (i : Nat) y, acc[i]? = some y → ∃ x, R i y x) → ∃ xs : List α, xs.length = acc.length ∧ ∀ (i : Nat) y, acc[i]? = some y → ∃ x, xs[i]? = some x ∧ R i y x := by
  intro acc
  induction acc generalizing R with
  | nil => exact fun _ => ⟨[], rfl, fun i y e => by simp at e⟩
  | cons b acc ih =>
    intro h
    obtain ⟨x, hx⟩ := h 0 b rfl
    obtain ⟨xs, hl, hxs⟩ := ih (fun i => R (i + 1)) fun i y e => h (i + 1) y (by simpa using e)
    refine ⟨x :: xs, by rw [List.length_cons, List.length_cons, hl], fun i y e => ?_⟩
    cases i with
    | zero =>
      obtain rfl : b = y := by simpa using e
      exact ⟨x, rfl, hx⟩
    | succ i => exact hxs i y (by simpa using e)
theorem asks_of {C : Addr} {H : Hp} : ∀ {as : List Addr} {cs : List Ask}, as.length = cs.length → (∀ (i : Nat) a, as[i]? = some a → ∃ c, cs[i]? = some c ∧ AskAt C H a c) → Asks C H as cs
  | [], [], _, _ => .nil
  | a :: as, c :: cs, l, h => by
    obtain ⟨c', e, A⟩ := h 0 a rfl
    obtain rfl : c = c' := by simpa using e
    exact .cons A (asks_of (by simpa using l) fun i a e => h (i + 1) a (by simpa using e))
end
end Eld
end L2

set_option Elab.async false
set_option linter.all false
set_option maxRecDepth 100000
set_option maxHeartbeats 4000000
/-! ## data of words: shown, compared -/
namespace L2
namespace Eld
open PySem PySem.Spec PyProof.Rows PySem.EldX
structure Shows (d : PyData) : Prop where
  s : d.showable = true
  z : d.shown.length ≤ sizeLine
  d : d.depth ≤ 100
theorem shows_of {d : PyData} (h1 : d.showable = true) (h2 : d.leavesShort 40 = true) (h3 : d.bulk ≤ 3000) (h4 : d.depth ≤ 100) : Shows d := by
  refine ⟨h1, ?_, h4⟩
  have e := PyData.shown_le_bulk 40 (by decide) d h2
  rw [sizeLine_eq]
  omega
abbrev sts (ys : List Str) : List PyData := ys.map PyData.str
theorem word_short {w : Str} (h : IsWord w) : (PyData.str w).leavesShort 40 = true := by
  simp only [PyData.leavesShort, List.all_eq_true, decide_eq_true_eq]
  intro c hc
  exact Nat.lt_of_le_of_lt (h.2.2 c hc).2 (by decide)
theorem sts_showable : ∀ ys : List Str, PyData.showableAll (sts ys) = true
  | [] => by simp only [sts, List.map_nil, PyData.showableAll]
  | y :: ys => by
    have ih := sts_showable ys
    simp only [sts, List.map_cons, PyData.showableAll, PyData.showable, Bool.true_and] at ih ⊢
    exact ih
theorem sts_short : ∀ {ys : List Str}, (∀ y ∈ ys, IsWord y) → PyData.leavesShortAll 40 (sts ys) = true
  | [], _ => by simp only [sts, List.map_nil, PyData.leavesShortAll]
  | y :: ys, h => by
    have ih := sts_short fun z hz => h z (List.mem_cons_of_mem _ hz)
    have hy := word_short (h y (List.mem_cons_self ..))
    simp only [sts, List.map_cons, PyData.leavesShortAll] at ih ⊢
    rw [hy, ih] <;> rfl
theorem sts_bulk : ∀ {ys : List Str}, (∀ y ∈ ys, IsWord y) → PyData.bulkAll (sts ys) ≤ 11 * ys.length
  | [], _ => by simp only [sts, List.map_nil, PyData.bulkAll, List.length_nil]; omega
  | y :: ys, h => by
    have ih := sts_bulk fun z hz => h z (List.mem_cons_of_mem _ hz)
    have hy : y.cps.size ≤ 10 := (h y (List.mem_cons_self ..)).2.1
    simp only [sts, List.map_cons, PyData.bulkAll, PyData.bulk, List.length_cons] at ih ⊢
    omega
theorem sts_depth : ∀ ys : List Str, PyData.depthAll (sts ys) ≤ 1
  | [] => by simp only [sts, List.map_nil, PyData.depthAll]; omega
  | y :: ys => by
    have ih := sts_depth ys
    simp only [sts, List.map_cons, PyData.depthAll, PyData.depth] at ih ⊢
    omega
theorem shows_sts {ys : List Str} (h : ∀ y ∈ ys, IsWord y) (l : ys.length ≤ 200) : Shows (.list (sts ys)) := by
  refine shows_of ?_ ?_ ?_ ?_
  · simp only [PyData.showable]
    exact sts_showable ys
  · simp only [PyData.leavesShort]
    exact sts_short h
  · have := sts_bulk h
    simp only [PyData.bulk]
    omega
  · have := sts_depth ys
    simp only [PyData.depth]
    omega
theorem int_short {m : Int} (h0 : 0 ≤ m) (h : m < 10 ^ 30) : (PyData.int m).leavesShort 40 = true := by
  simp only [PyData.leavesShort, PyData.shown]
  have := PyProof.Rows.toString_length_le h0 (k := 30) (by decide) (by exact_mod_cast h)
  exact decide_eq_true (Nat.le_trans this (show 30 ≤ 40 by decide))
theorem int_bits {m : Int} (h0 : 0 ≤ m) (h : m < 10 ^ 30) : m.natAbs.log2 < 1920 := by
  refine PySem.Flt.log2_lt_of (by decide) ?_
  have : m.natAbs < 10 ^ 30 := by omega
  exact Nat.lt_trans this (by decide +kernel)
/-- [name, fits, most] -/
abbrev askD (k : Ask) : PyData := .list [.str k.nm, .list (sts k.ks), .int k.m]
theorem shows_ask {k : Ask} (h : IsWord k.nm) (hk : ∀ y ∈ k.ks, IsWord y) (l : k.ks.length ≤ 100) (h0 : 0 ≤ k.m) (h1 : k.m < 10 ^ 30) : Shows (askD k) := by
  have a1 := sts_showable k.ks
  have a2 := sts_short hk
  have a3 := sts_bulk hk
  have a4 := sts_depth k.ks
  have b1 := word_short h
  have b2 : k.nm.cps.size ≤ 10 := h.2.1
  have c1 := int_short h0 h1
  refine shows_of ?_ ?_ ?_ ?_
  · simp only [askD, PyData.showable, PyData.showableAll, a1, Bool.true_and, Bool.and_true, decide_eq_true_eq]
    exact int_bits h0 h1
  · have b1' := b1
    have c1' := c1
    simp only [askD, PyData.leavesShort, PyData.leavesShortAll] at b1' c1' ⊢
    rw [b1', c1', a2] <;> rfl
  · simp only [askD, PyData.bulk, PyData.bulkAll]
    omega
  · simp only [askD, PyData.depth, PyData.depthAll]
    omega
section
variable {K : PySem.W.Frag} {H : Hp}
theorem dq_all : ∀ ys : List Str, DqAll K H (ys.map V.str) (sts ys)
  | [] => .nil
  | y :: ys => .cons (.str y) (dq_all ys)
theorem dq_sts {a : Addr} {ys : List Str} (h : SqL K H a (ys.map V.str)) : Dq K H (.ref a) (.list (sts ys)) := .lst h (dq_all ys)
theorem dp_all : ∀ ys : List Str, DpAll K H (ys.map V.str) (sts ys)
  | [] => .nil
  | y :: ys => .cons (.str y) (dp_all ys)
theorem dp_sts {a : Addr} {ys : List Str} (h : SqL K H a (ys.map V.str)) : Dp K H (.ref a) (.list (sts ys)) := .lst h (dp_all ys)
end
theorem sts_lay : ∀ {ys : List Str}, (∀ y ∈ ys, IsWord y) → PyData.canLayAll0 (sts ys) = true
  | [], _ => by simp only [sts, List.map_nil, PyData.canLayAll0]
  | y :: ys, h => by
    have ih := sts_lay fun z hz => h z (List.mem_cons_of_mem _ hz)
    have hy : PySem.PyData.strOk y = true := by
      unfold PySem.PyData.strOk
      rw [Array.all_eq_true']
      intro c hc
      have := (h y (List.mem_cons_self ..)).2.2 c (Array.mem_toList_iff.mpr hc)
      exact decide_eq_true (Nat.lt_of_le_of_lt this.2 (by decide))
    simp only [sts, List.map_cons, PyData.canLayAll0, PyData.canLay0] at ih ⊢
    rw [hy, ih] <;> rfl
theorem shaped_sts {ys : List Str} (h : ∀ y ∈ ys, IsWord y) : SeqAt.shaped (.list (sts ys)) = true := by
  unfold SeqAt.shaped
  rw [Bool.and_eq_true, decide_eq_true_eq]
  refine ⟨?_, ?_⟩
  · simp only [PyData.canLay0]
    exact sts_lay h
  · have := sts_depth ys
    simp only [PyData.depth]
    omega
theorem eqv_same {d : PyData} (h : SeqAt.shaped d = true) : PyData.eqv d d = true := SeqAt.eqv_refl d (SeqAt.canLay_of_shaped h)
/-- a comprehension of which no test holds -/
theorem lc_none {J : It} {n : Nat} {G : Hp → Prop} {xs : List V} (w : Walk J n G (YAt xs)) {g : TG} {tt : TT} {te : TE} {vs : List Nat} {σ : St} {H1 : Hp} {D : Addr} {Qd : Hp → Prop} (hD : H1 D = none) (hG : ∀ H, Same H1 H → G H)
    (hs : ∀ x H, Same H1 H → x ∈ xs → ∀ (N : VK) (M : Hp → Prop), M H → g x (wipe σ vs) H fun σ2 H2 => wipe σ2 vs = wipe σ vs ∧ tt σ2 H2 fun b H3 => if b = true then te σ2 H3 N else M H3)
    (hd : ∀ H, Same H1 H → H D = some (.lst []) → Qd H) :
    ∃ W : Nat → Nat → Hp → Prop, (∃ m, W 0 m (upd H1 D (.lst []))) ∧ ∀ i m H, W i m H →
      (J.stop i H ∧ Qd H) ∨ (J.go i H ∧ ∃ Nx : Hp → Prop, (∀ H', Nx H' → ∃ m', m' < m ∧ W (i + 1) m' H') ∧ ∀ x H', J.yld i H x H' → g x (wipe σ vs) H' fun σ2 H2 => wipe σ2 vs = wipe σ vs ∧ tt σ2 H2 fun b H3 =>
        if b = true then te σ2 H3 fun y H4 => ∃ acc, H4 D = some (.lst acc) ∧ acc.length < sizeLine ∧ Nx (upd H4 D (.lst (acc ++ [y]))) else Nx H3) := by
  refine lc_it w (fun i H => Same H1 H ∧ H D = some (.lst [])) ⟨Same.fresh hD, upd_same⟩ (fun i H _ p => hG H p.1) ?_ fun H p => hd H p.1 p.2
  rintro i x H H' hi ⟨s, e⟩ ⟨rfl, hx⟩
  exact hs x H' s (List.mem_of_getElem? hx) _ _ ⟨s, e⟩
end Eld
end L2

set_option Elab.async false
set_option linter.all false
set_option maxRecDepth 100000
set_option maxHeartbeats 8000000
/-! ## equality of askers, of lines, of lists of them -/
namespace L2
namespace Eld
open PySem PySem.Spec PyProof.Rows PySem.EldX
/-- the very same object -/
def DSm : Eqv := fun x y _ => ∃ a : Addr, x = .ref a ∧ y = .ref a
theorem mon_id : Mon DSm := fun _ _ _ _ _ d => d
theorem eqG_id {X : Cx} : EqG X 0 DSm := by
  intro A pins s σ H x y u v sb I rx ry d
  obtain ⟨a, rfl, rfl⟩ := d
  cases rx
  cases ry
  exact SeqAt.EqAt.same (A := A) (s := s) (.ref a) X.prog X.w X.xe _ ⟨rfl, H, I, Ext.rfl'⟩
theorem prs_same {H : Hp} : ∀ as : List Addr, Prs DSm (as.map V.ref) (as.map V.ref) H
  | [] => .nil
  | a :: as => .cons ⟨a, rfl, rfl⟩ (prs_same as)
theorem rev_same {cs : List Ask} (h : (cs.map Ask.nm).Nodup) : decide (cs.reverse = cs) = decide (cs.length < 2) := by
  refine decide_eq_decide.mpr ⟨fun e => ?_, fun l => ?_⟩
  · rcases Nat.lt_or_ge cs.length 2 with l | l
    · exact l
    · exfalso
      have h0 : 0 < cs.length := by omega
      have h1 : cs.length - 1 < cs.length := by omega
      have z : cs.reverse[0]'(by rw [List.length_reverse]; exact h0) = cs[cs.length - 1] := by
        rw [List.getElem_reverse]
        congr 1
      have z2 : cs.reverse[0]'(by rw [List.length_reverse]; exact h0) = cs[0] := by
        congr 1
      have z3 : cs[0].nm = cs[cs.length - 1].nm := by rw [← z2, z]
      have p := List.pairwise_iff_getElem.mp h 0 (cs.length - 1) (by rw [List.length_map]; exact h0) (by rw [List.length_map]; exact h1) (by omega)
      simp only [List.getElem_map] at p
      exact p z3
  · match cs, l with
    | [], _ => rfl
    | [c], _ => rfl
theorem shows_int {i : Int} (h0 : 0 ≤ i) (h : i < 10 ^ 30) : Shows (.int i) :=
  shows_of (by simp only [PyData.showable, decide_eq_true_eq]; exact int_bits h0 h) (int_short h0 h) (by simp only [PyData.bulk]; omega) (by simp only [PyData.depth]; omega)
theorem walk_refs {K : PySem.W.Frag} {a : Addr} {xs : List Addr} : Walk (Itl K a) xs.length (fun H => SqL K H a (xs.map V.ref)) (YAt (xs.map V.ref)) := by
  have := walk_list (K := K) (a := a) (xs := xs.map V.ref)
  rw [List.length_map] at this
  exact this
/-- what is neither an asker nor a line -/
structure Oth (K : PySem.W.Frag) (CA CL : Addr) : Prop where
  a : ∀ T ∈ (["tuple", "str", "NoneType", "list"] : List String), PySem.W.kitOne K (.type T) (.ref CA) = some false ∧ PySem.W.notFirst K CA (.type T) = true
  l : ∀ T ∈ (["tuple", "str", "NoneType", "list"] : List String), PySem.W.kitOne K (.type T) (.ref CL) = some false ∧ PySem.W.notFirst K CL (.type T) = true
  al : PySem.W.kitOne K (.ref CA) (.ref CL) = some false ∧ PySem.W.notFirst K CL (.ref CA) = true
section
variable {P : Program} {w : World} {K : PySem.W.Frag} {mg : Str → Option Value} {base : Heap} {fM fD fO fS fW : Addr} {dM dD dO dS dW : FuncData} {CA fI pN gN pF gF pM gM fE CL fLI fLE fLL fLA fLN fLK fLR fLP : Addr}
theorem din_ask {H : Hp} {a c : Addr} {k k' : Ask} {b : Bool} (TA : ACls K CA fI pN gN pF gF pM gM fE) (A : AskAt CA H a k) (A' : AskAt CA H c k') (hb : b = decide (k = k')) : DIn K CA (RA K CA) (.ref a) (.ref c) H b := by
  obtain ⟨dx, fs, hI⟩ := A.ins
  obtain ⟨dx', fs', hI'⟩ := A'.ins
  exact ⟨a, dx, fs, .ref CA, rfl, hI, tyx_ask TA.ins hI', by simp [PySem.W.notFirst], k, A, .inl ⟨c, k', rfl, A', hb⟩⟩
theorem din_oth {H : Hp} {a : Addr} {k : Ask} {y : V} {t : Value} (A : AskAt CA H a k) (ty : TyX K H y t) (h : PySem.W.kitOne K t (.ref CA) = some false ∧ PySem.W.notFirst K CA t = true) : DIn K CA (RA K CA) (.ref a) y H false := by
  obtain ⟨dx, fs, hI⟩ := A.ins
  exact ⟨a, dx, fs, t, rfl, hI, ty, h.2, k, A, .inr ⟨t, ty, h.1, rfl⟩⟩
theorem dil_line {H : Hp} {a c : Addr} {as as' : List Addr} {ks ks' : List Ask} {b : Bool} (T : LCls K CL fLI fLE fLL fLA fLN fLK fLR fLP) (A : LineAt CL CA H a as ks) (A' : LineAt CL CA H c as' ks') (hb : b = decide (ks = ks')) : DIn K CL (RL K CL CA) (.ref a) (.ref c) H b := by
  obtain ⟨dx, fs, hI⟩ := A.ins
  obtain ⟨dx', fs', hI'⟩ := A'.ins
  exact ⟨a, dx, fs, .ref CL, rfl, hI, tyx_ask T.ins hI', by simp [PySem.W.notFirst], as, ks, A, .inl ⟨c, as', ks', rfl, A', hb⟩⟩
theorem dil_oth {H : Hp} {a : Addr} {as : List Addr} {ks : List Ask} {y : V} {t : Value} (A : LineAt CL CA H a as ks) (ty : TyX K H y t) (h : PySem.W.kitOne K t (.ref CL) = some false ∧ PySem.W.notFirst K CL t = true) : DIn K CL (RL K CL CA) (.ref a) y H false := by
  obtain ⟨dx, fs, hI⟩ := A.ins
  exact ⟨a, dx, fs, t, rfl, hI, ty, h.2, as, ks, A, .inr ⟨t, ty, h.1, rfl⟩⟩
end
/-- != of two lists of the very same objects -/
def rNeId (K : PySem.W.Frag) : R2 := fun x y H Q => ∃ (a b : Addr) (xs : List Addr), x = .ref a ∧ y = .ref b ∧ SqL K H a (xs.map V.ref) ∧ SqL K H b (xs.map V.ref) ∧ Q (.bl false) H
theorem op_neId {X : Cx} (hu : X.A.units < cLine) : OpR X (compareOp .NotEq) (rNeId X.K) := by
  intro pins s σ H x y u v Q I rx ry hq
  obtain ⟨a, b, xs, rfl, rfl, ha, hb, q⟩ := hq
  cases rx
  cases ry
  obtain ⟨its, r1, l1, _⟩ := I.list ha
  obtain ⟨its2, r2, l2, _⟩ := I.list hb
  have e : its = its2 := by
    have key : ∀ (ys : List Addr) (us vs : List Value), Vals (ys.map V.ref) us → Vals (ys.map V.ref) vs → us = vs := by
      intro ys
      induction ys with
      | nil =>
        intro us vs h1 h2
        cases h1
        cases h2
        rfl
      | cons y ys ih =>
        intro us vs h1 h2
        cases h1 with
        | cons p q =>
          cases h2 with
          | cons p' q' =>
            rw [ih _ _ q q', show _ = _ from p, show _ = _ from p']
    exact key xs its its2 r1 r2
  subst e
  have q2 := SeqAt.RcNeAt.lists (A := X.A) (e := fun _ => true) l1.isList l2.isList rfl hu fun j h1 h2 => by
    have hj : j < its.length := by simpa using h1
    have hx : j < xs.length := by
      have := r1.length
      rw [List.length_map] at this
      omega
    obtain ⟨w, hw, rw'⟩ := r1.get (x := .ref xs[j]) (i := j) (by rw [List.getElem?_map, List.getElem?_eq_getElem hx] <;> rfl)
    have e2 : its.toArray[j] = w := by
      have := List.getElem?_eq_getElem hj
      rw [hw] at this
      simpa using (Option.some.inj this).symm
    obtain rfl : w = Value.ref xs[j] := rw'
    show SeqAt.EqAt _ _ its.toArray[j] its.toArray[j] true
    rw [e2]
    exact SeqAt.EqAt.same _
  have ea : (!(List.range its.toArray.size).all fun _ => true) = false := by simp
  rw [ea] at q2
  exact q2 X.prog X.w X.xe _ ⟨.bl false, H, I, rfl, q⟩
/-- a slice of a tuple: some tuple of these -/
def rSlQ (K : PySem.W.Frag) : V → Option Int → Option Int → Hp → VK → Prop := fun x lo hi H Q => ∃ (a : Addr) (xs : List V), x = .ref a ∧ SqT K H a xs ∧ ∀ (p : Addr) (H' : Hp), Same H H' → SqT K H' p (cutV xs lo hi) → Q (.ref p) H'
theorem sl_tupQ {X : Cx} : SlR X (rSlQ X.K) := by
  intro pins s σ H x v vl vu lo hi sl Q I rx hs pl pu hq
  obtain ⟨a, xs, rfl, ha, q⟩ := hq
  refine sl_tupA pins s σ H (.ref a) v vl vu lo hi sl Q I rx hs pl pu ⟨a, xs, rfl, ha, fun full => ?_, fun _ p np => q p _ (Same.fresh np) (SqT.of upd_same)⟩
  refine q a H (Same.refl _) ?_
  have e : cutV xs lo hi = xs := by
    unfold cutV
    rw [full.1, full.2]
    simp
  rw [e]
  exact ha
end Eld
end L2

set_option Elab.async false
set_option linter.all false
set_option maxRecDepth 100000
set_option maxHeartbeats 4000000
/-! ## lines changed -/
namespace L2
namespace Eld
open PySem PySem.Spec PyProof.Rows PySem.EldX
structure LCls2 (K : PySem.W.Frag) (C fW fI2 fM2 fC2 fO2 : Addr) : Prop where
  mW : Meth K C "without" fW
  mI : Meth K C "put_in" fI2
  mM : Meth K C "moved" fM2
  mC : Meth K C "changed" fC2
  mO : Meth K C "ordered" fO2
theorem cut_to {as : List Addr} {i : Nat} (h : i ≤ as.length) : cutV (as.map V.ref) none (some (i : Int)) = (as.take i).map V.ref := by
  rw [cutV_map, HT.sIx_none, HT.sIx_nat, Nat.min_eq_left h]
  simp
theorem cut_from {as : List Addr} {i : Nat} (h : i ≤ as.length) : cutV (as.map V.ref) (some (i : Int)) none = (as.drop i).map V.ref := by
  rw [cutV_map, HT.sIx_none, HT.sIx_nat, Nat.min_eq_left h, List.take_of_length_le (Nat.le_of_eq List.length_drop)]
theorem LineAt.nofld {CL CA : Addr} {H : Hp} {a : Addr} {as : List Addr} {ks : List Ask} {dx : Addr} {xf : List (Str × V)} (h : LineAt CL CA H a as ks) (e : H a = some (.ins CL dx xf)) (m : Str) (hm : ("_askers" : Str) ≠ m) : xf.lookup m = none := by
  obtain ⟨dx', t', h1, _⟩ := h
  rw [h1] at e
  cases e
  have : (m == ("_askers" : Str)) = false := by simpa using fun z => hm z.symm
  simp [List.lookup, this]
theorem LineAt.asks {CL CA : Addr} {H : Hp} {a : Addr} {as : List Addr} {ks : List Ask} (h : LineAt CL CA H a as ks) : Asks CA H as ks := let ⟨_, _, _, _, h3⟩ := h; h3
/-- put in between -/
abbrev ins3 {α : Type} (xs : List α) (i j : Nat) (y : α) : List α := xs.take i ++ ([y] ++ xs.drop j)
theorem Asks.ins3 {C : Addr} {H : Hp} {as : List Addr} {ks : List Ask} {b : Addr} {k : Ask} (h : Asks C H as ks) (A : AskAt C H b k) (i j : Nat) : Asks C H (ins3 as i j b) (ins3 ks i j k) := (h.take i).append (.cons A (h.drop j))
section
variable {P : Program} {w : World} {K : PySem.W.Frag} {mg : Str → Option Value} {base : Heap} {CA fI pN gN pF gF pM gM fE CL fLI fLE fLL fLA fLN fLK fLR fLP fW fI2 fM2 fC2 fO2 : Addr}
/-! ### need_asker, is_count -/
def spNeed (CA : Addr) : Sp := fun vs H Q _ => ∃ (a : Addr) (k : Ask), vs = [.ref a] ∧ AskAt CA H a k ∧ Q .non H
theorem ok_need {f : Addr} {fd : FuncData} {k : Nat} (F : Fun K "need_asker" "need_asker" sNeedAsker f fd) (B : Blt mg) (TA : ACls K CA fI pN gN pF gF pM gM fE) (gA : mg "Asker" = some (.ref CA)) : FnOk P w K mg base CX0 (k + 1) f fd ["value"] (spNeed CA) := by
  refine F.ok scNeedAsker (fun vs H Q E h => ?_) (fun cdv A outer s H vs Q E hr h => ?_)
  · obtain ⟨a, k, rfl, _⟩ := h
    rfl
  · obtain ⟨a, k, rfl, A, q⟩ := h
    obtain ⟨dx, fs, hI⟩ := A.ins
    refine ⟨_, (pss_one (ps_if (pt_not (pt_val (pe_callB call_isi (by rfl) B.isinstance (by decide +kernel) (pa_cons (pv 0) (pa_cons (pe_glob (v := .ref CA) rfl gA rfl) pa_nil))))) (pss_one (ps_dead _)) pss_nil)), ?_⟩
    exact ⟨.ref a, rfl, .ref a, .ref CA, .ref CA, .ref CA, true, rfl, .own CA, tyx_ask TA.ins hI, TA.ins.me, true, rfl, iteF q⟩
def spCount : Sp := fun vs H Q _ => ∃ i : Int, vs = [.int i] ∧ 0 ≤ i ∧ Q (.bl true) H
theorem ok_count {f f3 f4 : Addr} {fd d3 d4 : FuncData} (F : Fun K "is_count" "is_count" sCount f fd) (C2 : Chk2 K mg f3 f4 d3 d4) (B : Blt mg) : FnOk P w K mg base CX0 2 f fd ["value"] spCount := by
  have GWhole : FnOk P w K mg base CX0 1 f3 d3 ["value"] spWhole := ok_whole C2.Whole B
  refine F.ok scCount (fun vs H Q E h => ?_) (fun cdv A outer s H vs Q E hr h => ?_)
  · obtain ⟨i, rfl, _⟩ := h
    rfl
  · obtain ⟨i, rfl, h0, q⟩ := h
    refine ⟨_, (pss_one (ps_ret (pe_and (pe_call GWhole (hr.mono (by decide)) (by rfl) C2.gWhole C2.Whole.kp C2.bWhole .nil pass0 (pa_cons (pv 0) pa_nil)) (pe_one (pe_cmpR op_ge (pv 0) pe_int (nomark _)))))), ?_⟩
    refine ⟨.int i, rfl, i, rfl, true, rfl, iteT ⟨.int i, rfl, i, 0, rfl, rfl, ?_⟩⟩
    show Q (V.bl (decide (0 ≤ i))) H
    rw [decide_eq_true h0]
    exact q
/-! ### without -/
def spWithout (CL CA : Addr) : Sp := fun vs H Q _ => ∃ (a : Addr) (as : List Addr) (ks : List Ask) (j : Nat) (k : Ask), vs = [.ref a, .str k.nm] ∧ LineAt CL CA H a as ks ∧ ks.length ≤ 900 ∧ (ks.map Ask.nm).Nodup ∧ ks[j]? = some k ∧
  ∀ (H' : Hp) (b : Addr), Same H H' → LineAt CL CA H' b (as.take j ++ as.drop (j + 1)) (ks.take j ++ ks.drop (j + 1)) → Q (.ref b) H'
theorem drop_sub {α : Type} (xs : List α) (j : Nat) : (xs.take j ++ xs.drop (j + 1)).Sublist xs := by
  have e : xs.drop (j + 1) = (xs.drop j).drop 1 := by rw [List.drop_drop]
  rw [e]
  have z := (List.Sublist.refl (xs.take j)).append (List.drop_sublist 1 (xs.drop j))
  rwa [List.take_append_drop] at z
theorem ok_without {f : Addr} {fd dAN dLN dLP dLI : FuncData} (F : Fun K "without" "Line.without" sLWithout f fd) (B : Blt mg) (TA : ACls K CA fI pN gN pF gF pM gM fE) (FAN : Fun K "name" "Asker.name" sAName gN dAN) (T : LCls K CL fLI fLE fLL fLA fLN fLK fLR fLP) (gL : mg "Line" = some (.ref CL)) (FLN : Fun K "names" "Line.names" sLNames fLN dLN) (FLP : Fun K "place" "Line.place" sLPlace fLP dLP)
    (GLInit : FnOk P w K mg base CX0 4 fLI dLI ["self", "askers"] (spLInit K CL CA)) (bLInit : Binds K dLI ["self", "askers"] []) : FnOk P w K mg base CX0 6 f fd ["self", "name"] (spWithout CL CA) := by
  have GLPlace : FnOk P w K mg base CX0 4 fLP dLP ["self", "name"] (spLPlace CL CA) := ok_lplace FLP B TA FAN T FLN
  have bLPlace : Binds K dLP ["self", "name"] [] := FLP.binds fun _ _ _ _ _ _ us hl => match us, hl with | [_, _], _ => rfl
  refine F.ok scLWithout (fun vs H Q E h => ?_) (fun cdv A outer s H vs Q E hr h => ?_)
  · obtain ⟨a, as, ks, j, k, rfl, _⟩ := h
    rfl
  · obtain ⟨a, as, ks, j, k, rfl, hL, hz, hnd, hj, q⟩ := h
    obtain ⟨dx, t, h1, h2, h3⟩ := id hL
    have hjl : j < ks.length := (List.getElem?_eq_some_iff.mp hj).1
    have hla := h3.len
    refine ⟨_, (pss_cons (ps_set (i := 2) scLWithout.nd rfl (.inl rfl) (pe_meth (pv 0) T.ins.cl T.mP GLPlace (hr.mono (by decide)) bLPlace .nil pass0 (pa_cons (pv 1) pa_nil)))
      (pss_one (ps_ret (pe_make T.make GLInit (hr.mono (by decide)) (by rfl) gL bLInit .nil pass0 (pa_cons (pe_lst (StX.pa_star (pe_slice sl_tupQ (pe_fld (pv 0) rfl) po_none (po_some (pv 2))) (StX.pa_star (pe_slice sl_tupQ (pe_fld (pv 0) rfl) (po_some (pe_op op_add (pv 2) pe_int)) po_none) pa_nil))) pa_nil))))), ?_⟩
    refine ⟨.ref a, rfl, a, dx, _, rfl, h1, rfl, .str k.nm, rfl, a, as, ks, k.nm, j, k, rfl, hL, by omega, hnd, hj, rfl, fun H1 s1 => ?_⟩
    refine ⟨.ref a, rfl, a, CL, dx, _, _, rfl, s1 _ _ h1, T.ins.cl, T.noA, rfl, .int j, rfl, j, rfl, t, _, rfl, SqT.of (s1 _ _ h2), fun p1 H2 s2 e2 => ⟨p1, _, rfl, .inl e2, ?_⟩⟩
    have t2 := s1.trans s2
    refine ⟨.ref a, rfl, a, CL, dx, _, _, rfl, t2 _ _ h1, T.ins.cl, T.noA, rfl, .int j, rfl, j, 1, rfl, rfl, _, rfl, t, _, rfl, SqT.of (t2 _ _ h2), fun p2 H3 s3 e3 => ⟨p2, _, rfl, .inl e3, ?_⟩⟩
    have el : cutV (as.map V.ref) none (some (j : Int)) ++ (cutV (as.map V.ref) (some ((j : Int) + 1)) none ++ []) = (as.take j ++ as.drop (j + 1)).map V.ref := by
      rw [show ((j : Int) + 1) = ((j + 1 : Nat) : Int) by omega, cut_to (by omega), cut_from (by omega), List.append_nil, ← List.map_append]
    refine ⟨by rw [el, List.length_map, List.length_append, List.length_take, List.length_drop, sizeLine_eq]; omega, fun l nl => ?_⟩
    rw [el]
    have t3 := t2.trans (s3.trans (Same.fresh (o := .lst ((as.take j ++ as.drop (j + 1)).map V.ref)) nl))
    have h3' := h3.same t3
    refine made_line (SqL.of upd_same) ((h3'.take j).append (h3'.drop (j + 1))) (by rw [List.length_append, List.length_take, List.length_drop]; omega) (hnd.sublist ((drop_sub ks j).map _)) fun H4 b s4 nb LB => ?_
    exact q H4 b (t3.trans s4) LB
/-! ### put_in -/
def spPutIn (CL CA : Addr) : Sp := fun vs H Q _ => ∃ (a b : Addr) (as : List Addr) (ks : List Ask) (k : Ask) (i : Nat), vs = [.ref a, .ref b, .int i] ∧ LineAt CL CA H a as ks ∧ AskAt CA H b k ∧ ks.length ≤ 900 ∧ (ks.map Ask.nm).Nodup ∧ k.nm ∉ ks.map Ask.nm ∧ i ≤ ks.length ∧
  ∀ (H' : Hp) (c : Addr), Same H H' → LineAt CL CA H' c (ins3 as i i b) (ins3 ks i i k) → Q (.ref c) H'
theorem perm_ins {α : Type} (xs : List α) (i : Nat) (y : α) : (ins3 xs i i y).Perm (xs ++ [y]) := by
  have := perm_insert xs i y
  rwa [List.append_assoc] at this
theorem ok_putIn {f f3 f4 fNeed fCount : Addr} {fd d3 d4 dNeed dCount dAN dLN dLI : FuncData} (F : Fun K "put_in" "Line.put_in" sLPutIn f fd) (B : Blt mg) (C2 : Chk2 K mg f3 f4 d3 d4) (FNeed : Fun K "need_asker" "need_asker" sNeedAsker fNeed dNeed) (gNeed : mg "need_asker" = some (.ref fNeed)) (FCount : Fun K "is_count" "is_count" sCount fCount dCount) (gCount : mg "is_count" = some (.ref fCount))
    (TA : ACls K CA fI pN gN pF gF pM gM fE) (gA : mg "Asker" = some (.ref CA)) (FAN : Fun K "name" "Asker.name" sAName gN dAN) (T : LCls K CL fLI fLE fLL fLA fLN fLK fLR fLP) (gL : mg "Line" = some (.ref CL)) (FLN : Fun K "names" "Line.names" sLNames fLN dLN)
    (GLInit : FnOk P w K mg base CX0 4 fLI dLI ["self", "askers"] (spLInit K CL CA)) (bLInit : Binds K dLI ["self", "askers"] []) : FnOk P w K mg base CX0 6 f fd ["self", "asker", "place"] (spPutIn CL CA) := by
  have GLNames : FnOk P w K mg base CX0 3 fLN dLN ["self"] (spLNames CL CA) := ok_lnames FLN TA FAN T
  have bLNames : Binds K dLN ["self"] [] := FLN.binds fun _ _ _ _ _ _ us hl => match us, hl with | [_], _ => rfl
  have GAName : FnOk P w K mg base CX0 1 gN dAN ["self"] (spAName CA) := ok_aname FAN TA
  have bAName : Binds K dAN ["self"] [] := FAN.binds fun _ _ _ _ _ _ us hl => match us, hl with | [_], _ => rfl
  have GNeed : FnOk P w K mg base CX0 1 fNeed dNeed ["value"] (spNeed CA) := ok_need FNeed B TA gA
  have bNeed : Binds K dNeed ["value"] [] := FNeed.binds fun _ _ _ _ _ _ us hl => match us, hl with | [_], _ => rfl
  have GCount : FnOk P w K mg base CX0 2 fCount dCount ["value"] spCount := ok_count FCount C2 B
  have bCount : Binds K dCount ["value"] [] := FCount.binds fun _ _ _ _ _ _ us hl => match us, hl with | [_], _ => rfl
  refine F.ok scLPutIn (fun vs H Q E h => ?_) (fun cdv A outer s H vs Q E hr h => ?_)
  · obtain ⟨a, b, as, ks, k, i, rfl, _⟩ := h
    rfl
  · obtain ⟨a, b, as, ks, k, i, rfl, hL, hA, hz, hnd, hno, hi, q⟩ := h
    obtain ⟨dx, t, h1, h2, h3⟩ := id hL
    obtain ⟨dy, fs, hI⟩ := hA.ins
    have hla := h3.len
    refine ⟨_, (pss_cons (ps_expr (pe_call GNeed (hr.mono (by decide)) (by rfl) gNeed FNeed.kp bNeed .nil pass0 (pa_cons (pv 1) pa_nil)))
      (pss_cons (ps_if (pt_cmpR op_in_seq (pe_prop (pv 1) TA.ins.cl TA.pN GAName (hr.mono (by decide)) bAName .nil pass0 rfl) (pe_meth0 (pv 0) T.ins.cl T.mN GLNames (hr.mono (by decide)) bLNames .nil pass0) (by rfl)) (pss_one (ps_dead _)) pss_nil)
      (pss_cons (ps_if (PW.pt (pw_or (pt_not (pt_val (pe_call GCount (hr.mono (by decide)) (by rfl) gCount FCount.kp bCount .nil pass0 (pa_cons (pv 2) pa_nil)))) (pw_or1 (pt_cmpR op_gt (pv 2) (pe_callB call_len_seq (by rfl) B.len PySem.boot_len (pa_cons (pe_fld (pv 0) rfl) pa_nil)) (nomark _))))) (pss_one (ps_dead _)) pss_nil)
      (pss_one (ps_ret (pe_make T.make GLInit (hr.mono (by decide)) (by rfl) gL bLInit .nil pass0 (pa_cons (pe_lst (StX.pa_star (pe_slice sl_tupQ (pe_fld (pv 0) rfl) po_none (po_some (pv 2))) (pa_cons (pv 1) (StX.pa_star (pe_slice sl_tupQ (pe_fld (pv 0) rfl) (po_some (pv 2)) po_none) pa_nil)))) pa_nil))))))), ?_⟩
    refine ⟨.ref b, rfl, b, k, rfl, hA, .ref b, rfl, b, dy, fs, rfl, hI, b, k, rfl, hA, .ref a, rfl, a, dx, _, rfl, h1, rfl, a, as, ks, rfl, hL, by omega, fun H1 p s1 np e1 => ?_⟩
    refine ⟨p, _, rfl, .inl (SqL.of e1), rfl, strs_flat _, _, rfl, ?_⟩
    rw [inV_strs, decide_eq_false hno]
    refine iteF ⟨.int i, rfl, i, rfl, by omega, true, rfl, iteF ?_⟩
    refine ⟨.int i, rfl, .ref a, rfl, a, CL, dx, _, _, rfl, s1 _ _ h1, T.ins.cl, T.noA, rfl, t, _, rfl, .inr (SqT.of (s1 _ _ h2)), _, _, rfl, rfl, _, rfl, ?_⟩
    rw [List.length_map, hla, decide_eq_false (by omega : ¬ ((ks.length : Nat) : Int) < (i : Int))]
    refine iteF ⟨.ref a, rfl, a, CL, dx, _, _, rfl, s1 _ _ h1, T.ins.cl, T.noA, rfl, .int i, rfl, i, rfl, t, _, rfl, SqT.of (s1 _ _ h2), fun p1 H2 s2 e2 => ⟨p1, _, rfl, .inl e2, .ref b, rfl, ?_⟩⟩
    have t2 := s1.trans s2
    refine ⟨.ref a, rfl, a, CL, dx, _, _, rfl, t2 _ _ h1, T.ins.cl, T.noA, rfl, .int i, rfl, i, rfl, t, _, rfl, SqT.of (t2 _ _ h2), fun p2 H3 s3 e3 => ⟨p2, _, rfl, .inl e3, ?_⟩⟩
    have er : cutV (as.map V.ref) none (some (i : Int)) ++ (V.ref b :: (cutV (as.map V.ref) (some (i : Int)) none ++ [])) = (ins3 as i i b).map V.ref := by
      rw [cut_to (by omega), cut_from (by omega), List.append_nil, List.map_append, List.map_append] <;> rfl
    refine ⟨by rw [er, List.length_map, (perm_ins as i b).length_eq, List.length_append, sizeLine_eq]; show as.length + 1 ≤ _; omega, fun l nl => ?_⟩
    rw [er]
    have t3 := t2.trans (s3.trans (Same.fresh (o := .lst ((ins3 as i i b).map V.ref)) nl))
    have pn : ((ins3 ks i i k).map Ask.nm).Nodup := by
      refine (((perm_ins ks i k).map Ask.nm).nodup_iff).mpr ?_
      rw [List.map_append, List.nodup_append]
      refine ⟨hnd, List.nodup_cons.mpr ⟨List.not_mem_nil, List.nodup_nil⟩, fun u hu v hv e => ?_⟩
      rw [List.mem_singleton.mp (show v ∈ [k.nm] from hv)] at e
      exact hno (e ▸ hu)
    refine made_line (SqL.of upd_same) ((h3.same t3).ins3 (hA.same t3) i i) (by rw [(perm_ins ks i k).length_eq, List.length_append]; show ks.length + 1 ≤ _; omega) pn fun H4 c s4 nc LC => ?_
    exact q H4 c (t3.trans s4) LC
end
end Eld
end L2

set_option Elab.async false
set_option linter.all false
/-! ## groups and rows, by numbers -/
namespace L2
namespace Eld
section
variable {lk : Nat → Nat → Bool}
/-- a row of links leads from one place to another, all of them below n -/
inductive Conn (lk : Nat → Nat → Bool) (n : Nat) : Nat → Nat → Prop
  | refl {i : Nat} : i < n → Conn lk n i i
  | step {i j k : Nat} : Conn lk n i j → lk j k = true → k < n → Conn lk n i k
theorem Conn.lt1 {n i j : Nat} (h : Conn lk n i j) : i < n := by
  induction h with
  | refl h => exact h
  | step _ _ _ ih => exact ih
theorem Conn.lt2 {n i j : Nat} (h : Conn lk n i j) : j < n := by
  cases h with
  | refl h => exact h
  | step _ _ h => exact h
theorem Conn.trans {n i j k : Nat} (a : Conn lk n i j) (b : Conn lk n j k) : Conn lk n i k := by
  induction b with
  | refl _ => exact a
  | step _ l h ih => exact .step ih l h
theorem Conn.mono {n m i j : Nat} (le : n ≤ m) (h : Conn lk n i j) : Conn lk m i j := by
  induction h with
  | refl h => exact .refl (by omega)
  | step _ l h ih => exact .step ih l (by omega)
theorem Conn.symm (sy : ∀ i j, lk i j = lk j i) {n i j : Nat} (h : Conn lk n i j) : Conn lk n j i := by
  induction h with
  | refl h => exact .refl h
  | @step j k a l h ih => exact (Conn.step (.refl h) (by rw [sy]; exact l) a.lt2).trans ih
theorem Conn.cut {m i k : Nat} (h : Conn lk (m + 1) i k) (hi : i < m) : Conn lk m i k ∨ ∃ j, Conn lk m i j ∧ lk j m = true := by
  induction h with
  | refl _ => exact .inl (.refl hi)
  | @step j k a l hk ih =>
    rcases ih with ih | ih
    · rcases Nat.lt_or_ge k m with lt | ge
      · exact .inl (.step ih l lt)
      · obtain rfl : k = m := by omega
        exact .inr ⟨j, ih, l⟩
    · exact .inr ih
theorem Conn.last {m i : Nat} (hi : i < m) : Conn lk (m + 1) i m ↔ ∃ j, Conn lk m i j ∧ lk j m = true := by
  constructor
  · intro h
    rcases h.cut hi with h | h
    · exact absurd h.lt2 (Nat.lt_irrefl _)
    · exact h
  · rintro ⟨j, h, l⟩
    exact .step (h.mono (Nat.le_succ _)) l (Nat.lt_succ_self _)
/-! ### parents -/
/-- up the parents -/
inductive Anc (ps : List (Option Nat)) : Nat → Nat → Prop
  | refl (i : Nat) : Anc ps i i
  | up {i j t : Nat} : ps[i]? = some (some j) → Anc ps j t → Anc ps i t
theorem Anc.trans {ps : List (Option Nat)} {i j k : Nat} (a : Anc ps i j) (b : Anc ps j k) : Anc ps i k := by
  induction a with
  | refl _ => exact b
  | up e _ ih => exact .up e (ih b)
structure Elim (lk : Nat → Nat → Bool) (ps : List (Option Nat)) : Prop where
  up : ∀ i j, ps[i]? = some (some j) → i < j ∧ j < ps.length
  an : ∀ i t, i ≤ t → t < ps.length → (Anc ps i t ↔ Conn lk (t + 1) i t)
theorem Elim.nil : Elim lk [] := ⟨fun i j e => by simp at e, fun i t _ h => absurd h (Nat.not_lt_zero _)⟩
theorem Anc.le {ps : List (Option Nat)} (up : ∀ i j, ps[i]? = some (some j) → i < j ∧ j < ps.length) {i t : Nat} (h : Anc ps i t) : i ≤ t := by
  induction h with
  | refl _ => exact Nat.le_refl _
  | up e _ ih =>
    have := (up _ _ e).1
    omega
abbrev Root (ps : List (Option Nat)) (i r : Nat) : Prop := Anc ps i r ∧ ps[r]? = some none
theorem root_ex {ps : List (Option Nat)} (up : ∀ i j, ps[i]? = some (some j) → i < j ∧ j < ps.length) : ∀ (d i : Nat), ps.length - i ≤ d → i < ps.length → ∃ r, Root ps i r
  | 0, i, h, hi => by omega
  | d + 1, i, h, hi => by
    cases e : ps[i] with
    | none => exact ⟨i, .refl i, by rw [List.getElem?_eq_getElem hi, e]⟩
    | some j =>
      have e' : ps[i]? = some (some j) := by rw [List.getElem?_eq_getElem hi, e]
      obtain ⟨h1, h2⟩ := up i j e'
      obtain ⟨r, a, b⟩ := root_ex up d j (by omega) h2
      exact ⟨r, .up e' a, b⟩
theorem root_one {ps : List (Option Nat)} {i r r' : Nat} (h : Root ps i r) (h' : Root ps i r') : r = r' := by
  obtain ⟨a, e⟩ := h
  obtain ⟨a', e2⟩ := h'
  induction a with
  | refl i =>
    cases a' with
    | refl => rfl
    | up e' _ => rw [e] at e'; cases e'
  | up e1 _ ih =>
    cases a' with
    | refl => rw [e2] at e1; cases e1
    | up e' a' =>
      rw [e1] at e'
      cases e'
      exact ih e a'
theorem root_lt {ps : List (Option Nat)} {i r : Nat} (h : Root ps i r) : r < ps.length := (List.getElem?_eq_some_iff.mp h.2).1
theorem conn_root {ps : List (Option Nat)} (E : Elim lk ps) (sy : ∀ i j, lk i j = lk j i) {i j : Nat} (h : Conn lk ps.length i j) : ∃ r, Root ps i r ∧ Root ps j r := by
  induction h with
  | refl h =>
    obtain ⟨r, hr⟩ := root_ex E.up _ _ (Nat.le_refl _) h
    exact ⟨r, hr, hr⟩
  | @step j k a l hk ih =>
    obtain ⟨r, r1, r2⟩ := ih
    obtain ⟨r', r3⟩ := root_ex E.up _ _ (Nat.le_refl _) hk
    have hj := a.lt2
    rcases Nat.lt_trichotomy j k with lt | rfl | gt
    · have an := (E.an j k (Nat.le_of_lt lt) hk).mpr (.step (.refl (by omega)) l (by omega))
      obtain rfl := root_one r2 ⟨an.trans r3.1, r3.2⟩
      exact ⟨_, r1, r3⟩
    · exact ⟨r, r1, r2⟩
    · have an := (E.an k j (Nat.le_of_lt gt) hj).mpr (.step (.refl (by omega)) (by rw [sy]; exact l) (by omega))
      exact ⟨r, r1, an.trans r2.1, r2.2⟩
theorem root_conn {ps : List (Option Nat)} (E : Elim lk ps) (sy : ∀ i j, lk i j = lk j i) {i j r : Nat} (h1 : Root ps i r) (h2 : Root ps j r) : Conn lk ps.length i j := by
  have lr := root_lt h1
  have a := ((E.an i r (h1.1.le E.up) lr).mp h1.1).mono (m := ps.length) (by omega)
  have b := ((E.an j r (h2.1.le E.up) lr).mp h2.1).mono (m := ps.length) (by omega)
  exact a.trans (b.symm sy)
/-- one asker more, behind all: who has no parent as yet and is joined gets it for a parent -/
def addP (ps : List (Option Nat)) (J : Nat → Bool) : List (Option Nat) := (List.range ps.length).map (fun r => if ps[r]? = some none ∧ J r = true then some ps.length else ps[r]?.getD none) ++ [none]
theorem addP_length (ps : List (Option Nat)) (J : Nat → Bool) : (addP ps J).length = ps.length + 1 := by simp [addP]
theorem addP_old {ps : List (Option Nat)} {J : Nat → Bool} {i : Nat} (h : i < ps.length) : (addP ps J)[i]? = some (if ps[i]? = some none ∧ J i = true then some ps.length else ps[i]?.getD none) := by
  unfold addP
  rw [List.getElem?_append_left (by simpa using h), List.getElem?_map, List.getElem?_range h]
  rfl
theorem addP_new {ps : List (Option Nat)} {J : Nat → Bool} : (addP ps J)[ps.length]? = some none := by
  unfold addP
  rw [List.getElem?_append_right (by simp)]
  simp
theorem addP_some {ps : List (Option Nat)} {J : Nat → Bool} {i j : Nat} : (addP ps J)[i]? = some (some j) ↔ ps[i]? = some (some j) ∨ (ps[i]? = some none ∧ J i = true ∧ j = ps.length) := by
  rcases Nat.lt_trichotomy i ps.length with lt | rfl | gt
  · rw [addP_old lt]
    have e : ps[i]? = some ps[i] := List.getElem?_eq_getElem lt
    cases c : ps[i] with
    | none =>
      rw [c] at e
      rw [e]
      by_cases hJ : J i = true
      · simp [hJ]
        exact eq_comm
      · simp [hJ]
    | some k =>
      rw [c] at e
      rw [e]
      simp
  · rw [addP_new]
    simp [List.getElem?_eq_none (Nat.le_refl ps.length)]
  · rw [List.getElem?_eq_none (by rw [addP_length]; omega), List.getElem?_eq_none (by omega)]
    simp
theorem addP_none {ps : List (Option Nat)} {J : Nat → Bool} {i : Nat} : (addP ps J)[i]? = some none ↔ i = ps.length ∨ (ps[i]? = some none ∧ J i = false) := by
  rcases Nat.lt_trichotomy i ps.length with lt | rfl | gt
  · rw [addP_old lt]
    have e : ps[i]? = some ps[i] := List.getElem?_eq_getElem lt
    cases c : ps[i] with
    | none =>
      rw [c] at e
      rw [e]
      by_cases hJ : J i = true
      · simp [hJ]
        omega
      · simp [hJ]
    | some k =>
      rw [c] at e
      rw [e]
      simp
      omega
  · rw [addP_new]
    simp
  · rw [List.getElem?_eq_none (by rw [addP_length]; omega), List.getElem?_eq_none (by omega)]
    simp
    omega
theorem addP_up {ps : List (Option Nat)} {J : Nat → Bool} (up : ∀ i j, ps[i]? = some (some j) → i < j ∧ j < ps.length) : ∀ i j, (addP ps J)[i]? = some (some j) → i < j ∧ j < (addP ps J).length := by
  intro i j e
  rw [addP_length]
  rcases addP_some.mp e with h | ⟨h, _, rfl⟩
  · have := up i j h
    omega
  · have := (List.getElem?_eq_some_iff.mp h).1
    omega
theorem anc_top {ps : List (Option Nat)} {J : Nat → Bool} {t : Nat} (h : Anc (addP ps J) ps.length t) : t = ps.length := by
  cases h with
  | refl => rfl
  | up e _ => rw [addP_new] at e; cases e
theorem anc_old {ps : List (Option Nat)} {J : Nat → Bool} {i t : Nat} (ht : t < ps.length) : Anc (addP ps J) i t ↔ Anc ps i t := by
  constructor
  · intro h
    induction h with
    | refl _ => exact .refl _
    | @up i j t e a ih =>
      rcases addP_some.mp e with h | ⟨_, _, rfl⟩
      · exact .up h (ih ht)
      · have := anc_top a
        omega
  · intro h
    induction h with
    | refl _ => exact .refl _
    | up e _ ih => exact .up (addP_some.mpr (.inl e)) (ih ht)
theorem anc_new {ps : List (Option Nat)} {J : Nat → Bool} (up : ∀ i j, ps[i]? = some (some j) → i < j ∧ j < ps.length) {i : Nat} (hi : i < ps.length) : Anc (addP ps J) i ps.length ↔ ∃ r, Root ps i r ∧ J r = true := by
  constructor
  · intro h
    generalize ht : ps.length = t at h
    induction h with
    | refl _ => omega
    | @up i j t e a ih =>
      rcases addP_some.mp e with h | ⟨h1, h2, rfl⟩
      · obtain ⟨r, ⟨a1, a2⟩, a3⟩ := ih (up _ _ h).2 ht
        exact ⟨r, ⟨.up h a1, a2⟩, a3⟩
      · exact ⟨i, ⟨.refl i, h1⟩, h2⟩
  · rintro ⟨r, ⟨a, e⟩, j⟩
    have hr := (List.getElem?_eq_some_iff.mp e).1
    exact ((anc_old hr).mpr a).trans (.up (addP_some.mpr (.inr ⟨e, j, rfl⟩)) (.refl _))
theorem Elim.add {ps : List (Option Nat)} {J : Nat → Bool} (E : Elim lk ps) (sy : ∀ i j, lk i j = lk j i) (hJ : ∀ r, ps[r]? = some none → (J r = true ↔ ∃ i, Root ps i r ∧ lk ps.length i = true)) : Elim lk (addP ps J) := by
  refine ⟨addP_up E.up, fun i t hit ht => ?_⟩
  rw [addP_length] at ht
  rcases Nat.lt_or_ge t ps.length with lt | ge
  · rw [anc_old lt]
    exact E.an i t hit lt
  · obtain rfl : t = ps.length := by omega
    rcases Nat.lt_or_ge i ps.length with li | gi
    · rw [anc_new E.up li, Conn.last li]
      constructor
      · rintro ⟨r, hr, j⟩
        obtain ⟨k, hk, l⟩ := (hJ r hr.2).mp j
        exact ⟨k, root_conn E sy hr hk, by rw [sy]; exact l⟩
      · rintro ⟨j, c, l⟩
        obtain ⟨r, r1, r2⟩ := conn_root E sy c
        exact ⟨r, r1, (hJ r r1.2).mpr ⟨j, r2, by rw [sy]; exact l⟩⟩
    · obtain rfl : i = ps.length := by omega
      exact ⟨fun _ => .refl (Nat.lt_succ_self _), fun _ => .refl _⟩
/-- the parent of an asker, the parent of this one .. -/
inductive Fore (ps : List (Option Nat)) : Nat → List Nat → Prop
  | top {i : Nat} : ps[i]? = some none → Fore ps i []
  | up {i j : Nat} {fs : List Nat} : ps[i]? = some (some j) → Fore ps j fs → Fore ps i (j :: fs)
theorem Fore.anc {ps : List (Option Nat)} {i : Nat} {fs : List Nat} (h : Fore ps i fs) (t : Nat) : t ∈ i :: fs ↔ Anc ps i t := by
  induction h with
  | @top i e =>
    constructor
    · intro h
      obtain rfl := List.mem_singleton.mp h
      exact .refl _
    · intro h
      cases h with
      | refl => exact List.mem_singleton.mpr rfl
      | up e' _ => rw [e] at e'; cases e'
  | @up i j fs e _ ih =>
    constructor
    · intro h
      rcases List.mem_cons.mp h with rfl | h
      · exact .refl _
      · exact .up e (ih.mp h)
    · intro h
      cases h with
      | refl => exact List.mem_cons_self
      | up e' a =>
        rw [e] at e'
        cases e'
        exact List.mem_cons_of_mem _ (ih.mpr a)
theorem Fore.lt {ps : List (Option Nat)} (up : ∀ i j, ps[i]? = some (some j) → i < j ∧ j < ps.length) {i : Nat} {fs : List Nat} (h : Fore ps i fs) : (∀ t ∈ fs, i < t ∧ t < ps.length) ∧ fs.Nodup := by
  induction h with
  | top _ => exact ⟨fun _ z => (nomatch z), List.nodup_nil⟩
  | @up i j fs e _ ih =>
    have z := up _ _ e
    refine ⟨fun t ht => ?_, List.nodup_cons.mpr ⟨fun m => ?_, ih.2⟩⟩
    · rcases List.mem_cons.mp ht with rfl | ht
      · exact z
      · have := ih.1 t ht
        exact ⟨by omega, this.2⟩
    · have := ih.1 j m
      omega
theorem fore_ex {ps : List (Option Nat)} (up : ∀ i j, ps[i]? = some (some j) → i < j ∧ j < ps.length) : ∀ (d i : Nat), ps.length - i ≤ d → i < ps.length → ∃ fs, Fore ps i fs
  | 0, i, h, hi => by omega
  | d + 1, i, h, hi => by
    cases e : ps[i] with
    | none => exact ⟨[], Fore.top (by rw [List.getElem?_eq_getElem hi, e])⟩
    | some j =>
      have e' : ps[i]? = some (some j) := by rw [List.getElem?_eq_getElem hi, e]
      obtain ⟨h1, h2⟩ := up i j e'
      obtain ⟨fs, f⟩ := fore_ex up d j (by omega) h2
      exact ⟨j :: fs, .up e' f⟩
/-! ### rows by steps -/
/-- d links lead from s to a place, all below n -/
inductive Hops (lk : Nat → Nat → Bool) (n s : Nat) : Nat → Nat → Prop
  | z : s < n → Hops lk n s 0 s
  | s {d x y : Nat} : Hops lk n s d x → lk x y = true → y < n → Hops lk n s (d + 1) y
theorem Hops.lt {n s d x : Nat} (h : Hops lk n s d x) : x < n := by
  cases h with
  | z h => exact h
  | s _ _ h => exact h
theorem Hops.mono {n m s d x : Nat} (le : n ≤ m) (h : Hops lk n s d x) : Hops lk m s d x := by
  induction h with
  | z h => exact .z (by omega)
  | s _ l h ih => exact .s ih l (by omega)
theorem Hops.cut {m s d x : Nat} (hs : s < m) (h : Hops lk (m + 1) s d x) : Hops lk m s d x ∨ ∃ d' y, d' + 1 ≤ d ∧ Hops lk m s d' y ∧ lk y m = true := by
  induction h with
  | z _ => exact .inl (.z hs)
  | @s d x y a l hy ih =>
    rcases ih with ih | ⟨d', z, h1, h2, h3⟩
    · rcases Nat.lt_or_ge y m with lt | ge
      · exact .inl (.s ih l lt)
      · obtain rfl : y = m := by omega
        exact .inr ⟨d, x, Nat.le_refl _, ih, l⟩
    · exact .inr ⟨d', z, by omega, h2, h3⟩
theorem Hops.conn {n s d x : Nat} (h : Hops lk n s d x) : Conn lk n s x := by
  induction h with
  | z h => exact .refl h
  | s _ l h ih => exact .step ih l h
theorem Conn.hops {n s x : Nat} (h : Conn lk n s x) : ∃ d, Hops lk n s d x := by
  induction h with
  | refl h => exact ⟨0, .z h⟩
  | step _ l h ih =>
    obtain ⟨d, ih⟩ := ih
    exact ⟨d + 1, .s ih l h⟩
/-- a row of places -/
inductive PathTo (lk : Nat → Nat → Bool) (n s : Nat) : List Nat → Nat → Prop
  | one : s < n → PathTo lk n s [s] s
  | snoc {r : List Nat} {x y : Nat} : PathTo lk n s r x → lk x y = true → y < n → PathTo lk n s (r ++ [y]) y
theorem PathTo.hops {n s x : Nat} {r : List Nat} (h : PathTo lk n s r x) : ∃ d, r.length = d + 1 ∧ Hops lk n s d x := by
  induction h with
  | one h => exact ⟨0, rfl, .z h⟩
  | snoc _ l h ih =>
    obtain ⟨d, e, ih⟩ := ih
    exact ⟨d + 1, by rw [List.length_append, e]; rfl, .s ih l h⟩
/-- a queue of places, each with its number of links and the one it came from; the first a of them are done -/
structure Bfs (lk : Nat → Nat → Bool) (n s : Nat) (q lv : List Nat) (pr : List (Option Nat)) (a b : Nat) : Prop where
  nd : q.Nodup
  lt : ∀ x ∈ q, x < n
  l1 : lv.length = q.length
  l2 : pr.length = q.length
  q0 : q[0]? = some s
  v0 : lv[0]? = some 0
  p0 : pr[0]? = some none
  mono : ∀ (j k x y : Nat), j ≤ k → lv[j]? = some x → lv[k]? = some y → x ≤ y
  from_ : ∀ (j x : Nat), 0 < j → q[j]? = some x → ∃ p y v : Nat, p < j ∧ p < b ∧ q[p]? = some y ∧ pr[j]? = some (some y) ∧ lv[p]? = some v ∧ lv[j]? = some (v + 1) ∧ lk y x = true
  done : ∀ (p x v y : Nat), p < a → q[p]? = some x → lv[p]? = some v → y < n → lk x y = true → ∃ j u : Nat, q[j]? = some y ∧ lv[j]? = some u ∧ u ≤ v + 1
theorem nodup_ix' {xs : List Nat} (nd : xs.Nodup) {i j : Nat} (l1 : i < xs.length) (l2 : j < xs.length) : xs[i] = xs[j] ↔ i = j := by
  constructor
  · intro e
    rcases Nat.lt_trichotomy i j with lt | rfl | gt
    · exact absurd e (List.pairwise_iff_getElem.mp nd i j l1 l2 lt)
    · rfl
    · exact absurd e.symm (List.pairwise_iff_getElem.mp nd j i l2 l1 gt)
  · rintro rfl
    rfl
theorem getElem?_inj' {xs : List Nat} (nd : xs.Nodup) {i j x : Nat} (h1 : xs[i]? = some x) (h2 : xs[j]? = some x) : i = j := by
  obtain ⟨l1, e1⟩ := List.getElem?_eq_some_iff.mp h1
  obtain ⟨l2, e2⟩ := List.getElem?_eq_some_iff.mp h2
  exact (nodup_ix' nd l1 l2).mp (e1.trans e2.symm)
theorem Bfs.start {n s : Nat} (h : s < n) : Bfs lk n s [s] [0] [none] 0 0 := by
  refine ⟨by simp, by simpa using h, rfl, rfl, rfl, rfl, rfl, fun j k x y hjk h1 h2 => ?_, fun j x hj e => ?_, fun p x v y hp => by omega⟩
  · cases j with
    | zero => simp at h1; omega
    | succ j => simp at h1
  · cases j with
    | zero => omega
    | succ j => simp at e
theorem Bfs.min {n s : Nat} {q lv : List Nat} {pr : List (Option Nat)} {a b : Nat} (B : Bfs lk n s q lv pr a b) {d x : Nat} (h : Hops lk n s d x) (hd : ∀ p v : Nat, lv[p]? = some v → v < d → p < a) : ∃ j u : Nat, q[j]? = some x ∧ lv[j]? = some u ∧ u ≤ d := by
  induction h with
  | z h => exact ⟨0, 0, B.q0, B.v0, Nat.le_refl _⟩
  | @s d x y _ l hy ih =>
    obtain ⟨j, u, e1, e2, le⟩ := ih fun p v e z => hd p v e (by omega)
    obtain ⟨k, w, e3, e4, le2⟩ := B.done j x u y (hd j u e2 (by omega)) e1 e2 hy l
    exact ⟨k, w, e3, e4, by omega⟩
theorem Bfs.least {n s : Nat} {q lv : List Nat} {pr : List (Option Nat)} {a : Nat} (B : Bfs lk n s q lv pr a a) {j x u d : Nat} (hj : q[j]? = some x) (hu : lv[j]? = some u) (h : Hops lk n s d x) : u ≤ d := by
  cases j with
  | zero =>
    rw [B.v0] at hu
    cases hu
    exact Nat.zero_le _
  | succ j =>
    obtain ⟨p, y, v, h1, h2, h3, h4, h5, h6, h7⟩ := B.from_ (j + 1) x (Nat.succ_pos _) hj
    rw [hu] at h6
    cases h6
    rcases Nat.lt_or_ge d (v + 1) with lt | ge
    · obtain ⟨k, w, e1, e2, le⟩ := B.min h fun p' v' e z => by
        rcases Nat.lt_or_ge p' p with l | g
        · omega
        · have := B.mono p p' v v' g h5 e
          omega
      obtain rfl := getElem?_inj' B.nd hj e1
      rw [hu] at e2
      cases e2
      omega
    · exact ge
theorem Bfs.none {n s : Nat} {q lv : List Nat} {pr : List (Option Nat)} {a : Nat} (B : Bfs lk n s q lv pr a a) (ha : q.length ≤ a) {x : Nat} (hx : x ∉ q) : ∀ d, ¬ Hops lk n s d x := fun d h => by
  obtain ⟨j, u, e1, _⟩ := B.min h fun p v e _ => by
    have := (List.getElem?_eq_some_iff.mp e).1
    have := B.l1
    omega
  exact hx (List.mem_of_getElem? e1)
/-- one place more, from the one at a -/
theorem Bfs.add {n s : Nat} {q lv : List Nat} {pr : List (Option Nat)} {a x y v : Nat} (B : Bfs lk n s q lv pr a (a + 1)) (hx : q[a]? = some x) (hv : lv[a]? = some v) (hy : y < n) (nq : y ∉ q) (l : lk x y = true) : Bfs lk n s (q ++ [y]) (lv ++ [v + 1]) (pr ++ [some x]) a (a + 1) := by
  have la := (List.getElem?_eq_some_iff.mp hx).1
  have ap : ∀ {α : Type} {xs : List α} {i : Nat} {z w : α}, xs[i]? = some z → (xs ++ [w])[i]? = some z := fun {α xs i z w} e => by
    rw [List.getElem?_append_left (List.getElem?_eq_some_iff.mp e).1]
    exact e
  have hi : ∀ (k u : Nat), (lv ++ [v + 1])[k]? = some u → lv[k]? = some u ∨ (k = lv.length ∧ u = v + 1) := fun k u e => by
    rcases Nat.lt_or_ge k lv.length with lt | ge
    · rw [List.getElem?_append_left lt] at e
      exact .inl e
    · rw [List.getElem?_append_right ge] at e
      cases c : k - lv.length with
      | zero => rw [c] at e; simp at e; exact .inr ⟨by omega, e.symm⟩
      | succ c' => rw [c] at e; simp at e
  have lvle : ∀ k u, lv[k]? = some u → u ≤ v + 1 := fun k u e => by
    have lk' := (List.getElem?_eq_some_iff.mp e).1
    cases k with
    | zero => rw [B.v0] at e; cases e; omega
    | succ k =>
      have lq : k + 1 < q.length := by rw [← B.l1]; exact lk'
      have hq : q[k + 1]? = some (q[k + 1]'lq) := List.getElem?_eq_getElem lq
      obtain ⟨p, z, w, h1, h2, h3, h4, h5, h6, h7⟩ := B.from_ (k + 1) _ (Nat.succ_pos _) hq
      rw [e] at h6
      cases h6
      have := B.mono p a w v (by omega) h5 hv
      omega
  refine ⟨?_, fun z hz => ?_, by simp [B.l1], by simp [B.l2], ap B.q0, ap B.v0, ap B.p0, fun j k u w hjk h1 h2 => ?_, fun j z hj e => ?_, fun p z u w hp e1 e2 hw hl => ?_⟩
  · rw [List.nodup_append]
    refine ⟨B.nd, by simp, fun z hz w hw e => ?_⟩
    obtain rfl := List.mem_singleton.mp hw
    subst e
    exact nq hz
  · rcases List.mem_append.mp hz with hz | hz
    · exact B.lt z hz
    · obtain rfl := List.mem_singleton.mp hz
      exact hy
  · rcases hi j u h1 with h1 | ⟨rfl, rfl⟩
    · rcases hi k w h2 with h2 | ⟨_, rfl⟩
      · exact B.mono j k u w hjk h1 h2
      · exact lvle j u h1
    · rcases hi k w h2 with h2 | ⟨_, rfl⟩
      · have := (List.getElem?_eq_some_iff.mp h2).1
        omega
      · exact Nat.le_refl _
  · rcases Nat.lt_or_ge j q.length with lt | ge
    · rw [List.getElem?_append_left lt] at e
      obtain ⟨p, y', v', h1, h2, h3, h4, h5, h6, h7⟩ := B.from_ j z hj e
      exact ⟨p, y', v', h1, h2, ap h3, ap h4, ap h5, ap h6, h7⟩
    · rw [List.getElem?_append_right ge] at e
      cases c : j - q.length with
      | succ c' => rw [c] at e; simp at e
      | zero =>
        rw [c] at e
        simp at e
        subst e
        obtain rfl : j = q.length := by omega
        refine ⟨a, x, v, la, by omega, ap hx, ?_, ap hv, ?_, l⟩
        · rw [List.getElem?_append_right (by rw [B.l2]; exact Nat.le_refl _), B.l2]
          simp
        · rw [List.getElem?_append_right (by rw [B.l1]; exact Nat.le_refl _), B.l1]
          simp
  · have lp : p < q.length := by omega
    rw [List.getElem?_append_left lp] at e1
    rw [List.getElem?_append_left (by rw [B.l1]; exact lp)] at e2
    obtain ⟨j, t, e3, e4, le⟩ := B.done p z u w hp e1 e2 hw hl
    exact ⟨j, t, ap e3, ap e4, le⟩
theorem Bfs.go {n s : Nat} {q lv : List Nat} {pr : List (Option Nat)} {a : Nat} (B : Bfs lk n s q lv pr a a) : Bfs lk n s q lv pr a (a + 1) :=
  ⟨B.nd, B.lt, B.l1, B.l2, B.q0, B.v0, B.p0, B.mono, fun j x hj e => let ⟨p, y, v, h1, h2, r⟩ := B.from_ j x hj e; ⟨p, y, v, h1, by omega, r⟩, B.done⟩
theorem Bfs.next {n s : Nat} {q lv : List Nat} {pr : List (Option Nat)} {a x v : Nat} (B : Bfs lk n s q lv pr a (a + 1)) (hx : q[a]? = some x) (hv : lv[a]? = some v) (all : ∀ y < n, lk x y = true → y ∈ q) : Bfs lk n s q lv pr (a + 1) (a + 1) := by
  refine ⟨B.nd, B.lt, B.l1, B.l2, B.q0, B.v0, B.p0, B.mono, B.from_, fun p z u w hp e1 e2 hw hl => ?_⟩
  rcases Nat.lt_or_ge p a with lt | ge
  · exact B.done p z u w lt e1 e2 hw hl
  · obtain rfl : p = a := by omega
    rw [hx] at e1
    cases e1
    rw [hv] at e2
    cases e2
    obtain ⟨j, hj⟩ := List.mem_iff_getElem?.mp (all w hw hl)
    have lj := (List.getElem?_eq_some_iff.mp hj).1
    cases j with
    | zero => exact ⟨0, 0, hj, B.v0, by omega⟩
    | succ j =>
      obtain ⟨p', y', v', h1, h2, h3, h4, h5, h6, h7⟩ := B.from_ (j + 1) w (Nat.succ_pos _) hj
      have := B.mono p' p v' v (by omega) h5 hv
      exact ⟨j + 1, v' + 1, hj, h6, by omega⟩
end
end Eld
end L2

set_option Elab.async false
set_option linter.all false
/-! ## whom an asker has above it: the first one behind it that is linked to its group -/
namespace L2
namespace Eld
section
variable {lk : Nat → Nat → Bool}
def AboveIs (lk : Nat → Nat → Bool) (n i : Nat) : Option Nat → Prop
  | some j => i < j ∧ j < n ∧ (∃ y, Conn lk (i + 1) i y ∧ lk y j = true) ∧ ∀ t, i < t → t < j → ∀ y, Conn lk (i + 1) i y → lk y t = false
  | none => ∀ t, i < t → t < n → ∀ y, Conn lk (i + 1) i y → lk y t = false
abbrev Above (lk : Nat → Nat → Bool) (ps : List (Option Nat)) : Prop := ∀ (i : Nat) o, ps[i]? = some o → AboveIs lk ps.length i o
theorem AboveIs.one {n i : Nat} : ∀ {o o' : Option Nat}, AboveIs lk n i o → AboveIs lk n i o' → o = o'
  | none, none, _, _ => rfl
  | none, some j, h, ⟨h1, h2, ⟨y, h3, h4⟩, _⟩ => by
    have := h j h1 h2 y h3
    rw [h4] at this
    cases this
  | some j, none, ⟨h1, h2, ⟨y, h3, h4⟩, _⟩, h => by
    have := h j h1 h2 y h3
    rw [h4] at this
    cases this
  | some j, some k, ⟨h1, h2, ⟨y, h3, h4⟩, h5⟩, ⟨g1, g2, ⟨z, g3, g4⟩, g5⟩ => by
    rcases Nat.lt_trichotomy j k with lt | rfl | gt
    · have := g5 j h1 lt y h3
      rw [h4] at this
      cases this
    · rfl
    · have := h5 k g1 gt z g3
      rw [g4] at this
      cases this
theorem Above.unique {ps qs : List (Option Nat)} (h : Above lk ps) (h' : Above lk qs) (hl : ps.length = qs.length) : ps = qs := by
  refine List.ext_getElem? fun i => ?_
  rcases Nat.lt_or_ge i ps.length with lt | ge
  · have e1 : ps[i]? = some ps[i] := List.getElem?_eq_getElem lt
    have e2 : qs[i]? = some (qs[i]'(by omega)) := List.getElem?_eq_getElem _
    have a := h i _ e1
    have b := h' i _ e2
    rw [hl] at a
    rw [e1, e2, a.one b]
  · rw [List.getElem?_eq_none ge, List.getElem?_eq_none (by omega)]
theorem conn_stay {m i x : Nat} (h : ∀ t, i < t → t < m → ∀ y, Conn lk (i + 1) i y → lk y t = false) (c : Conn lk m i x) : Conn lk (i + 1) i x := by
  induction c with
  | refl _ => exact .refl (Nat.lt_succ_self _)
  | @step j k _ l hk ih =>
    rcases Nat.lt_or_ge i k with lt | ge
    · have := h k lt hk j ih
      rw [l] at this
      cases this
    · exact .step ih l (by omega)
theorem Elim.above {ps : List (Option Nat)} (E : Elim lk ps) : Above lk ps := by
  intro i o e
  have hi := (List.getElem?_eq_some_iff.mp e).1
  have link : ∀ t, i < t → t < ps.length → ∀ y, Conn lk (i + 1) i y → lk y t = true → Anc ps i t := fun t h1 h2 y c l =>
    (E.an i t (Nat.le_of_lt h1) h2).mpr (.step (c.mono (by omega)) l (Nat.lt_succ_self _))
  cases o with
  | none =>
    intro t h1 h2 y c
    cases l : lk y t with
    | false => rfl
    | true =>
      cases link t h1 h2 y c l with
      | refl => omega
      | up e' _ => rw [e] at e'; cases e'
  | some j =>
    obtain ⟨h1, h2⟩ := E.up i j e
    have no : ∀ t, i < t → t < j → ∀ y, Conn lk (i + 1) i y → lk y t = false := fun t h3 h4 y c => by
      cases l : lk y t with
      | false => rfl
      | true =>
        cases link t h3 (by omega) y c l with
        | refl => omega
        | up e' a =>
          rw [e] at e'
          cases e'
          have := a.le E.up
          omega
    obtain ⟨y, c, l⟩ := (Conn.last h1).mp ((E.an i j (Nat.le_of_lt h1) h2).mp (.up e (.refl _)))
    exact ⟨h1, h2, ⟨y, conn_stay no c, l⟩, no⟩
theorem Fore.sorted {ps : List (Option Nat)} (up : ∀ i j, ps[i]? = some (some j) → i < j ∧ j < ps.length) {i : Nat} {fs : List Nat} (h : Fore ps i fs) : fs.Pairwise (· < ·) := by
  induction h with
  | top _ => exact .nil
  | @up i j fs e f ih => exact List.pairwise_cons.mpr ⟨fun t ht => ((f.lt up).1 t ht).1, ih⟩
theorem Fore.one {ps : List (Option Nat)} {i : Nat} {fs gs : List Nat} (h : Fore ps i fs) (h' : Fore ps i gs) : fs = gs := by
  induction h generalizing gs with
  | top e =>
    cases h' with
    | top _ => rfl
    | up e' _ => rw [e] at e'; cases e'
  | up e _ ih =>
    cases h' with
    | top e' => rw [e] at e'; cases e'
    | up e' f =>
      rw [e] at e'
      cases e'
      rw [ih f]
/-! ### a group: the asker, and the groups of those whose parent it is -/
theorem Anc.last {ps : List (Option Nat)} {y i : Nat} : Anc ps y i ↔ y = i ∨ ∃ c, Anc ps y c ∧ ps[c]? = some (some i) := by
  constructor
  · intro h
    induction h with
    | refl _ => exact .inl rfl
    | @up a b t e _ ih =>
      rcases ih with rfl | ⟨c, h1, h2⟩
      · exact .inr ⟨a, .refl _, e⟩
      · exact .inr ⟨c, .up e h1, h2⟩
  · rintro (rfl | ⟨c, h1, h2⟩)
    · exact .refl _
    · exact h1.trans (.up h2 (.refl _))
theorem Anc.chain {ps : List (Option Nat)} {y c d : Nat} (h : Anc ps y c) (h' : Anc ps y d) : Anc ps c d ∨ Anc ps d c := by
  induction h with
  | refl _ => exact .inl h'
  | @up a b t e a1 ih =>
    cases h' with
    | refl => exact .inr (.up e a1)
    | up e' a' =>
      rw [e] at e'
      cases e'
      exact ih a'
theorem Anc.child_one {ps : List (Option Nat)} (up : ∀ i j, ps[i]? = some (some j) → i < j ∧ j < ps.length) {y c d i : Nat} (h : Anc ps y c) (h' : Anc ps y d) (ec : ps[c]? = some (some i)) (ed : ps[d]? = some (some i)) : c = d := by
  rcases h.chain h' with a | a
  · cases a with
    | refl => rfl
    | up e a =>
      rw [ec] at e
      cases e
      have := a.le up
      have := (up _ _ ed).1
      omega
  · cases a with
    | refl => rfl
    | up e a =>
      rw [ed] at e
      cases e
      have := a.le up
      have := (up _ _ ec).1
      omega
/-- those whose parent is i -/
def kids (ps : List (Option Nat)) (i : Nat) : List Nat := (List.range ps.length).filter fun c => decide (ps[c]? = some (some i))
theorem mem_kids {ps : List (Option Nat)} {i c : Nat} : c ∈ kids ps i ↔ ps[c]? = some (some i) := by
  unfold kids
  rw [List.mem_filter, List.mem_range, decide_eq_true_eq]
  exact ⟨fun h => h.2, fun h => ⟨(List.getElem?_eq_some_iff.mp h).1, h⟩⟩
theorem group_perm {ps : List (Option Nat)} (E : Elim lk ps) (sy : ∀ i j, lk i j = lk j i) {i : Nat} (hi : i < ps.length) {g : Nat → List Nat} (hg : ∀ c, (c = i ∨ c ∈ kids ps i) → (g c).Nodup ∧ ∀ y, y ∈ g c ↔ Conn lk (c + 1) y c) :
    (((kids ps i).map g).flatten ++ [i]).Perm (g i) := by
  have anc : ∀ c, c < ps.length → (c = i ∨ c ∈ kids ps i) → ∀ y, y ∈ g c ↔ Anc ps y c := fun c hc hk y => by
    rw [(hg c hk).2 y]
    constructor
    · intro h
      have := h.lt1
      exact (E.an y c (by omega) hc).mpr h
    · intro h
      exact (E.an y c (h.le E.up) hc).mp h
  have kl : ∀ c, c ∈ kids ps i → c < ps.length ∧ c < i := fun c hc => by
    have e := mem_kids.mp hc
    exact ⟨(List.getElem?_eq_some_iff.mp e).1, (E.up _ _ e).1⟩
  have mem : ∀ y, y ∈ ((kids ps i).map g).flatten ↔ ∃ c, ps[c]? = some (some i) ∧ Anc ps y c := fun y => by
    rw [List.mem_flatten]
    constructor
    · rintro ⟨l, hl, hy⟩
      obtain ⟨c, hc, rfl⟩ := List.mem_map.mp hl
      exact ⟨c, mem_kids.mp hc, (anc c (kl c hc).1 (.inr hc) y).mp hy⟩
    · rintro ⟨c, hc, hy⟩
      have hk := mem_kids.mpr hc
      exact ⟨_, List.mem_map.mpr ⟨c, hk, rfl⟩, (anc c (kl c hk).1 (.inr hk) y).mpr hy⟩
  refine (List.perm_ext_iff_of_nodup ?_ (hg i (.inl rfl)).1).mpr fun y => ?_
  · rw [List.nodup_append]
    refine ⟨?_, by simp, fun a ha b hb => ?_⟩
    · refine List.pairwise_flatten.mpr ?_
      refine ⟨fun l hl => ?_, ?_⟩
      · obtain ⟨c, hc, rfl⟩ := List.mem_map.mp hl
        exact (hg c (.inr hc)).1
      · rw [List.pairwise_map]
        have nd : (kids ps i).Pairwise (· ≠ ·) := List.nodup_range.sublist List.filter_sublist
        refine nd.imp_of_mem fun {c d} hc hd ne x h1 z h2 e => ?_
        subst e
        exact ne (Anc.child_one E.up ((anc c (kl c hc).1 (.inr hc) x).mp h1) ((anc d (kl d hd).1 (.inr hd) x).mp h2) (mem_kids.mp hc) (mem_kids.mp hd))
    · obtain ⟨c, hc, h⟩ := (mem a).mp ha
      have := h.le E.up
      have := (E.up _ _ hc).1
      rw [List.mem_singleton.mp hb]
      omega
  · rw [anc i hi (.inl rfl) y, List.mem_append, mem y, Anc.last, List.mem_singleton]
    constructor
    · rintro (⟨c, h1, h2⟩ | rfl)
      · exact .inr ⟨c, h2, h1⟩
      · exact .inl rfl
    · rintro (rfl | ⟨c, h1, h2⟩)
      · exact .inr rfl
      · exact .inl ⟨c, h2, h1⟩
/-- one that is linked to all, ahead: one chain -/
def chainP (n : Nat) : List (Option Nat) := (List.range n).map fun i => if i + 1 < n then some (i + 1) else none
theorem chain_above {n : Nat} (h : ∀ i, i < n → lk 0 i = true) (sy : ∀ i j, lk i j = lk j i) : Above lk (chainP n) := by
  intro i o e
  have hl : (chainP n).length = n := by simp [chainP]
  have hi : i < n := by
    have := (List.getElem?_eq_some_iff.mp e).1
    omega
  have eo : o = if i + 1 < n then some (i + 1) else none := by
    unfold chainP at e
    rw [List.getElem?_map, List.getElem?_range hi] at e
    exact (Option.some.inj e).symm
  rw [hl, eo]
  have c0 : Conn lk (i + 1) i 0 := by
    cases i with
    | zero => exact .refl (by omega)
    | succ i => exact .step (.refl (by omega)) (by rw [sy]; exact h _ hi) (by omega)
  by_cases hn : i + 1 < n
  · rw [if_pos hn]
    exact ⟨by omega, hn, ⟨0, c0, h _ hn⟩, fun t h1 h2 => by omega⟩
  · rw [if_neg hn]
    exact fun t h1 h2 => by omega
theorem Above.congr {lk' : Nat → Nat → Bool} {ps : List (Option Nat)} (h : Above lk ps) (e : ∀ i j, i < ps.length → j < ps.length → lk i j = lk' i j) : Above lk' ps := by
  have cc : ∀ {m i x : Nat} , m ≤ ps.length → (Conn lk m i x ↔ Conn lk' m i x) := fun {m i x} hm => by
    constructor
    · intro c
      induction c with
      | refl h => exact .refl h
      | step a l h ih =>
        have := a.lt2
        exact .step ih (by rw [← e _ _ (by omega) (by omega)]; exact l) h
    · intro c
      induction c with
      | refl h => exact .refl h
      | step a l h ih =>
        have := a.lt2
        exact .step ih (by rw [e _ _ (by omega) (by omega)]; exact l) h
  intro i o hi
  have il := (List.getElem?_eq_some_iff.mp hi).1
  have a := h i o hi
  cases o with
  | none =>
    intro t h1 h2 y c
    have c' := (cc (by omega)).mpr c
    have := c'.lt2
    rw [← e _ _ (by omega) h2]
    exact a t h1 h2 y c'
  | some j =>
    obtain ⟨h1, h2, ⟨y, h3, h4⟩, h5⟩ := a
    have := h3.lt2
    refine ⟨h1, h2, ⟨y, (cc (by omega)).mp h3, by rw [← e _ _ (by omega) h2]; exact h4⟩, fun t g1 g2 z c => ?_⟩
    have c' := (cc (by omega)).mpr c
    have := c'.lt2
    rw [← e _ _ (by omega) (by omega)]
    exact h5 t g1 g2 z c'
end
end Eld
end L2

set_option Elab.async false
set_option linter.all false
set_option maxRecDepth 100000
set_option maxHeartbeats 4000000
/-! ## sum(lists, []) -/
namespace PySem.EldS
open PySem PySem.Spec
/-- the lists from the i-th on, k of them, behind one another -/
def restL (zs : Nat → Array Value) : Nat → Nat → Array Value
  | _, 0 => #[]
  | i, k + 1 => zs i ++ restL zs (i + 1) k
theorem subl_str : isSubtype (.type "list") (.type "str") = pure false := by rw [isSubtype_type]; kernel_rfl
theorem subl_bytes : isSubtype (.type "list") (.type "bytes") = pure false := by rw [isSubtype_type]; kernel_rfl
theorem subl_bytearray : isSubtype (.type "list") (.type "bytearray") = pure false := by rw [isSubtype_type]; kernel_rfl
theorem args_sum2 (a b : Value) : argsOk "sum" ⟨[a, b], []⟩ := by unfold argsOk; kernel_rfl
section
variable {prog : Program} {w : World} {A : Around} {R : Result → Shared → Prop} {I : Addr} {fp wr : List Addr} {n : Nat} {P : Nat → Value → Prop} {St : Nat → Heap → Prop}
theorem codeAny_sum_lists (W : Walks prog w A.in1 I fp wr n P St) (las : Nat → Addr) (zs : Nat → Array Value) (hP : ∀ i v, P i v → v = .ref (las i)) (S : Addr) (hSf : S ∉ fp) :
    ∀ (k i : Nat) (s : Shared) (T c cT : Nat) (acc : Array Value), n - i = k → i ≤ n → St i s.heap → s.heap.get? S = some { cls := .type "list", dict := none, data := .seq #[.ref T] c, slots := #[] } → IsL s.heap T acc cT → T ≠ S → T ∉ wr →
    (∀ j, i ≤ j → j < n → ∃ m, IsL s.heap (las j) (zs j) m ∧ las j ∉ wr ∧ las j ≠ S) → (∀ b ∈ wr, b < S) → acc.size + (restL zs i k).size ≤ sizeLine →
    (∀ h' tk T' c', (∀ b o, b ∉ wr → b ≠ S → s.heap.get? b = some o → h'.get? b = some o) → IsL h' T' (acc ++ restL zs i k) c' → (T' = T ∨ S < T') → R (.ok (.ret (.ref T'))) { s with heap := h', toks := tk }) →
    codeAny (model prog w) A (.builtin "sum.loop" ⟨[.ref I, .ref S, rawInt 2, rawInt 0], []⟩) R s := by
  have hSw : S ∉ wr := fun h => hSf (W.sub _ h)
  intro k
  induction k with
  | zero =>
    intro i s T c cT acc hk hi hst hS hT hTS hTw hls hwr hz hR
    have hin : i = n := by omega
    subst hin
    refine codeAny_builtin F.entry_sum_loop ?_
    rw [Around.under_plainId F.plain_sum_loop _]
    show wpAny _ A.in1 (seqItems? (.ref S) >>= _) _ _ s
    refine wpAny_bind (wpAny_seqItems hS rfl ?_)
    show wpAny _ A.in1 (tryCatch (pyNext (.ref I)) _ >>= _) _ _ s
    refine wpAny_bind (wpAny_tryCatch (W.done s _ _ hst fun h' tk hk' => ?_))
    refine wpAny_pure (hR h' tk T cT (fun b o hb _ e => hk' b o hb e) ?_ (.inl rfl))
    show h'.get? T = _
    rw [hk' T _ hTw hT]
    simp [restL]
  | succ k ih =>
    intro i s T c cT acc hk hi hst hS hT hTS hTw hls hwr hz hR
    have hlt : i < n := by omega
    refine codeAny_builtin F.entry_sum_loop ?_
    rw [Around.under_plainId F.plain_sum_loop _]
    show wpAny _ A.in1 (seqItems? (.ref S) >>= _) _ _ s
    refine wpAny_bind (wpAny_seqItems hS rfl ?_)
    show wpAny _ A.in1 (tryCatch (pyNext (.ref I)) _ >>= _) _ _ s
    refine wpAny_bind (wpAny_tryCatch (W.item i s _ _ hlt hst fun v h' tk hPv hst' hk' => ?_))
    obtain rfl := hP i v hPv
    have hS' := hk' S _ hSw hS
    have hT' : IsL h' T acc cT := hk' T _ hTw hT
    obtain ⟨m, hL, hLw, hLS⟩ := hls i (Nat.le_refl _) hlt
    have hL' : IsL h' (las i) (zs i) m := hk' _ _ hLw hL
    have hz' : acc.size + (zs i).size + (restL zs (i + 1) k).size ≤ sizeLine := by
      have : (restL zs i (k + 1)).size = (zs i).size + (restL zs (i + 1) k).size := by simp [restL]
      omega
    show wpAny _ A.in1 ((holding [Value.ref (las i)] (binaryOp .Add (.ref T) (.ref (las i)))).attempt >>= _) _ _ _
    refine wpAny_bind (wpAny_attempt (wpAny_holding (PySem.P.add_list hT' hL' ?_ (by omega))))
    show wpAny _ A.in1 (updateSeq S (fun _ => #[.ref h'.objs.size]) >>= _) _ _ _
    have hSs' : S < h'.objs.size := Heap.lt_size hS'
    have hSp : (h'.push { cls := .type "list", data := .seq (acc ++ zs i) }).get? S = some { cls := .type "list", dict := none, data := .seq #[.ref T] c, slots := #[] } := Heap.get?_push_of_some _ hS'
    refine wpAny_bind ?_
    refine wpAny_updateSeq hSp rfl ?_
    have hS2 := Heap.get?_update_self (Obj.mapSeq fun _ => #[Value.ref h'.objs.size]) hSp rfl
    refine wpAny_bind (wpAny_letGo ?_)
    refine wpAny_bind ?_
    refine wpAny_updateSeq hS2 rfl (wpAny_pure ⟨plainId_quiet F.plain_sum_loop _, ?_⟩)
    have keep : ∀ b o, b ≠ S → h'.get? b = some o → (((h'.push { cls := .type "list", data := .seq (acc ++ zs i) }).update S (Obj.mapSeq fun _ => #[Value.ref h'.objs.size])).update S (Obj.mapSeq fun _ => #[Value.ref h'.objs.size])).get? b = some o := fun b o hb e =>
      (Heap.get?_update_other _ _ (Ne.symm hb)).trans ((Heap.get?_update_other _ _ (Ne.symm hb)).trans (Heap.get?_push_of_some _ e))
    have nS : h'.objs.size ≠ S := Nat.ne_of_gt hSs'
    have hTn : IsL (((h'.push { cls := .type "list", data := .seq (acc ++ zs i) }).update S (Obj.mapSeq fun _ => #[Value.ref h'.objs.size])).update S (Obj.mapSeq fun _ => #[Value.ref h'.objs.size])) h'.objs.size (acc ++ zs i) 0 :=
      (Heap.get?_update_other _ _ (Ne.symm nS)).trans ((Heap.get?_update_other _ _ (Ne.symm nS)).trans (Heap.get?_push_size _ rfl))
    refine ih (i + 1) _ h'.objs.size _ 0 (acc ++ zs i) (by omega) hlt (W.frame _ _ _ hst' fun b hb o e => keep b o (fun z => hSf (z ▸ hb)) e) (Heap.get?_update_self _ hS2 rfl) hTn nS (fun z => Nat.lt_asymm hSs' (hwr _ z)) (fun j hj hjn => ?_) hwr (by simp; omega) fun h'' tk'' T' c' hk'' hL'' ho => ?_
    · obtain ⟨m, h1, h2, h3⟩ := hls j (by omega) hjn
      exact ⟨m, keep _ _ h3 (hk' _ _ h2 h1), h2, h3⟩
    · refine hR h'' tk'' T' c' (fun b o hbw hbS e => hk'' b o hbw hbS (keep b o hbS (hk' b o hbw e))) ?_ ?_
      · rw [show acc ++ restL zs i (k + 1) = acc ++ zs i ++ restL zs (i + 1) k by simp [restL]]
        exact hL''
      · rcases ho with rfl | ho
        · exact .inr hSs'
        · exact .inr ho
end
section
variable {prog : Program} {w : World} {A : Around} {E : Value → Shared → Prop} {s : Shared}
theorem iter_any {l : Addr} {vs : Array Value} {Q : Value → Shared → Prop} (hl : s.heap.IsList l vs)
    (h : ∀ s₂ : Shared, s₂ = { s with heap := s.heap.push { cls := .type "list_iterator", data := .fields #[.ref l, .int 0 0] } } →
      (s₂.heap.IsListIter s.heap.objs.size l 0 ∧ s₂.heap.IsList l vs) → l ≠ s.heap.objs.size → Q (.ref s.heap.objs.size) s₂) :
    wpAny (model prog w) A (pyIter (.ref l)) Q E s := by
  have hlt : l < s.heap.objs.size := by obtain ⟨_, e, _⟩ := hl; exact Heap.lt_size e
  exact wpAny_pyIter_list hl (h _ rfl ⟨⟨_, Heap.get?_push_size _ rfl, rfl, rfl⟩, hl.push _⟩ (Nat.ne_of_lt hlt))
theorem call_sum_lists {l e : Addr} {ls : Array Value} {las : Nat → Addr} {zs : Nat → Array Value} {ne : Nat} {acc : Array Value} {Q : Value → Shared → Prop} (hh : A.handled = none) (hl : s.heap.IsList l ls) (he : IsL s.heap e acc ne)
    (hv : ∀ (i : Nat) (v : Value), ls[i]? = some v → v = Value.ref (las i)) (hls : ∀ j, j < ls.size → ∃ m, IsL s.heap (las j) (zs j) m) (hz : acc.size + (restL zs 0 ls.size).size ≤ sizeLine)
    (h : ∀ h' tk T' c', (∀ b o, s.heap.get? b = some o → h'.get? b = some o) → IsL h' T' (acc ++ restL zs 0 ls.size) c' → (T' = e ∨ s.heap.objs.size ≤ T') → Q (.ref T') { s with heap := h', toks := tk }) :
    wpAny (model prog w) A (call (.builtin "sum") [Value.ref l, Value.ref e]) Q E s := by
  refine call_function_tree F.kind_sum F.plain_sum F.entry_sum (args_sum2 _ _) ?_
  unfold Builtin.«sum»
  simp only [List.length_cons, List.length_nil]
  rw [if_neg (by decide)]
  refine wpAny_bind (wpAny_of_eq (show Builtin.Builtins.bindParams "sum" ["start"] 0 ⟨[Value.ref e], []⟩ = pure [some (Value.ref e)] from rfl) ?_)
  refine wpAny_bind (iter_any hl fun s₂ e2 st hne => ?_)
  subst e2
  have hte : ({ s with heap := s.heap.push { cls := .type "list_iterator", data := .fields #[.ref l, .int 0 0] } } : Shared).TypeIs (.ref e) "list" := ⟨_, Heap.get?_push_of_some _ he, rfl⟩
  refine wpAny_bind (wpAny_pure ?_)
  simp only [List.forIn_cons, List.forIn_nil]
  refine wpAny_bind (wpAny_bind (wpAny_bind (wpAny_isInstance (T := "list") (b := false) hte subl_str ?_)))
  simp only [Bool.false_eq_true, if_false]
  refine wpAny_pure (wpAny_bind (wpAny_bind (wpAny_isInstance (T := "list") (b := false) hte subl_bytes ?_)))
  simp only [Bool.false_eq_true, if_false]
  refine wpAny_pure (wpAny_bind (wpAny_bind (wpAny_isInstance (T := "list") (b := false) hte subl_bytearray ?_)))
  simp only [Bool.false_eq_true, if_false]
  refine wpAny_pure (wpAny_pure ?_)
  refine wpAny_bind (wpAny_newObj_type ?_)
  have szp : (s.heap.push { cls := .type "list_iterator", data := .fields #[.ref l, .int 0 0] }).objs.size = s.heap.objs.size + 1 := Heap.size_push _ _
  have hSf : (s.heap.push { cls := .type "list_iterator", data := .fields #[.ref l, .int 0 0] }).objs.size ∉ [s.heap.objs.size, l] := fun hm => by
    rw [szp] at hm
    have hlt : l < s.heap.objs.size := by obtain ⟨_, e, _⟩ := hl; exact Heap.lt_size e
    rcases List.mem_cons.mp hm with q | q
    · exact Nat.succ_ne_self _ q
    · rw [← List.mem_singleton.mp q] at hlt
      exact Nat.not_succ_lt_self hlt
  have old : ∀ b o, s.heap.get? b = some o → ((s.heap.push { cls := .type "list_iterator", data := .fields #[.ref l, .int 0 0] }).push { cls := .type "list", data := .seq #[Value.ref e] }).get? b = some o := fun b o q => Heap.get?_push_of_some _ (Heap.get?_push_of_some _ q)
  have lt : ∀ b o, s.heap.get? b = some o → b ∉ [s.heap.objs.size] ∧ b ≠ (s.heap.push { cls := .type "list_iterator", data := .fields #[.ref l, .int 0 0] }).objs.size := fun b o q => by
    have := Heap.lt_size q
    rw [szp]
    exact ⟨fun z => by rw [List.mem_singleton.mp z] at this; exact Nat.lt_irrefl _ this, fun z => by rw [z] at this; exact Nat.not_succ_lt_self this⟩
  refine wpAny_pure ⟨plainId_quiet F.plain_sum_loop _, codeAny_sum_lists (Walks.list (A := A.in1) hh _ l hne ls) las zs hv (s.heap.push { cls := .type "list_iterator", data := .fields #[.ref l, .int 0 0] }).objs.size hSf ls.size 0 _ e 0 ne acc rfl (Nat.zero_le _)
    ⟨st.1.at fun o q => Heap.get?_push_of_some _ q, st.2.push _⟩ (Heap.get?_push_size _ rfl) (old _ _ he) (lt _ _ he).2 (lt _ _ he).1 (fun j _ hj => ?_) (fun b hb => by rw [List.mem_singleton.mp hb, szp]; exact Nat.lt_succ_self _) hz fun h' tk T' c' hk hL ho => ?_⟩
  · obtain ⟨m, hm⟩ := hls j hj
    exact ⟨m, old _ _ hm, (lt _ _ hm).1, (lt _ _ hm).2⟩
  · refine h h' tk T' c' (fun b o q => hk b o (lt b o q).1 (lt b o q).2 (old b o q)) hL ?_
    rcases ho with rfl | ho
    · exact .inl rfl
    · rw [szp] at ho
      exact .inr (Nat.le_of_lt (Nat.lt_of_succ_lt ho))
end
end PySem.EldS

set_option Elab.async false
set_option linter.all false
set_option maxRecDepth 100000
set_option maxHeartbeats 4000000
namespace L2
namespace Eld
open PySem PySem.Spec PyProof.Rows
theorem rest_flat (vss : List (List Value)) : ∀ pre : List (List Value), PySem.EldS.restL (fun j => ((pre ++ vss).getD j []).toArray) pre.length vss.length = vss.flatten.toArray := by
  induction vss with
  | nil => intro pre; rfl
  | cons v vss ih =>
    intro pre
    have e := ih (pre ++ [v])
    rw [List.append_assoc, List.singleton_append, List.length_append, List.length_singleton] at e
    show (((pre ++ v :: vss).getD pre.length []).toArray ++ PySem.EldS.restL _ (pre.length + 1) vss.length) = _
    rw [e]
    simp
theorem vals_refs_eq : ∀ {ls : List Addr} {us : List Value}, Vals (ls.map V.ref) us → us = ls.map Value.ref
  | [], us, h => by
    rw [List.map_nil] at h
    cases h
    rfl
  | l :: ls, us, h => by
    rw [List.map_cons] at h
    cases h with
    | cons r t =>
      cases r
      rw [vals_refs_eq t, List.map_cons]
def rSumL (K : PySem.W.Frag) : List V → Hp → VK → Prop := fun vs H Q => ∃ (a e : Addr) (ls : List Addr) (xss : List (List V)), vs = [.ref a, .ref e] ∧ SqL K H a (ls.map V.ref) ∧ H e = some (.lst []) ∧ Paired (fun (l : Addr) (xs : List V) => H l = some (.lst xs)) ls xss ∧ xss.flatten.length ≤ sizeLine ∧
  ∀ H' p, Same H H' → H' p = some (.lst xss.flatten) → Q (.ref p) H'
section
variable {X : Cx}
theorem lists_at {pins : List (Addr × Obj)} {σ : St} {H : Hp} {s : Shared} (I : Inv X pins σ H s) : ∀ {ls : List Addr} {xss : List (List V)}, Paired (fun (l : Addr) (xs : List V) => H l = some (.lst xs)) ls xss → ∃ vss : List (List Value), vss.length = ls.length ∧ Vals xss.flatten vss.flatten ∧ ∀ j l, ls[j]? = some l → ∃ n, IsL s.heap l (vss.getD j []).toArray n
  | _, _, .nil => ⟨[], rfl, .nil, fun j l e => by simp at e⟩
  | _, _, .cons h t => by
    obtain ⟨vss, h1, h2, h3⟩ := lists_at I t
    obtain ⟨z, its, n, r, hl, e⟩ := I.lstM h
    refine ⟨its :: vss, by simp [h1], r.append h2, fun j l el => ?_⟩
    cases j with
    | zero =>
      obtain rfl := Option.some.inj el
      exact ⟨n, e⟩
    | succ j => exact h3 j l el
theorem cr_sumL (hc : X.calm = true) : CallR X (.builtin "sum") (rSumL X.K) := by
  intro pins s σ H vs us Q I r h
  obtain ⟨a, e, ls, xss, rfl, hs, he, hp, hz, q⟩ := h
  obtain ⟨its, rv, hl, _⟩ := I.list hs
  obtain rfl := vals_refs_eq rv
  obtain ⟨_, its2, n2, r2, _, e2⟩ := I.lstM he
  cases r2
  obtain ⟨vss, l1, v1, at1⟩ := lists_at I hp
  have hus : us = [.ref a, .ref e] := by
    cases r with
    | cons r1 t1 =>
      cases t1 with
      | cons r2 t2 =>
        cases t2
        cases r1
        cases r2
        rfl
  subst hus
  have hsz : (ls.map Value.ref).toArray.size = vss.length := by simp [l1]
  have fl := rest_flat vss []
  rw [List.nil_append, List.length_nil] at fl
  refine PySem.EldS.call_sum_lists (las := fun i => ls.getD i 0) (zs := fun j => (vss.getD j []).toArray) (I.ok.hd hc) hl.isList e2 (fun i v hv => ?_) (fun j hj => ?_) ?_ fun h' tk T' c' hk hL ho => ?_
  · rw [List.getElem?_toArray, List.getElem?_map] at hv
    cases c : ls[i]? with
    | none => rw [c] at hv; cases hv
    | some l =>
      rw [c] at hv
      obtain rfl := Option.some.inj hv
      simp [List.getD, c]
  · rw [hsz, l1] at hj
    obtain ⟨n, hn⟩ := at1 j ls[j] (List.getElem?_eq_getElem hj)
    refine ⟨n, ?_⟩
    have : ls.getD j 0 = ls[j] := by simp [List.getD, hj]
    show IsL s.heap (ls.getD j 0) _ n
    rw [this]
    exact hn
  · rw [hsz, fl]
    have := v1.length
    simp only [List.size_toArray, List.length_nil, Nat.zero_add]
    omega
  · rw [hsz, fl] at hL
    have hL' : IsL h' T' vss.flatten.toArray c' := by simpa using hL
    rcases ho with rfl | ho
    · have e3 := hk _ _ e2
      rw [hL'] at e3
      have ee : vss.flatten.toArray = ([] : List Value).toArray := by
        injection e3 with e3
        injection e3 with _ _ e4 _
        injection e4
      have ef : vss.flatten = [] := by simpa using congrArg Array.toList ee
      rw [ef] at v1
      have ex : xss.flatten = [] := by
        generalize xss.flatten = ys at v1
        cases v1
        rfl
      exact ⟨.ref T', H, I.kept hk, rfl, q H T' (Same.refl _) (by rw [ex]; exact he)⟩
    · exact ⟨.ref T', upd H T' (.lst xss.flatten), I.laid hk ho ⟨hz, vss.flatten, c', v1, hL'⟩, rfl, q _ T' (fun b u z => (upd_ne (ne_of_none z (I.hok.fresh ho))).trans z) upd_same⟩
end
end Eld
end L2

set_option Elab.async false
set_option linter.all false
set_option maxRecDepth 100000
set_option maxHeartbeats 4000000
/-! ## sorted(d.values()) of texts -/
namespace L2
namespace Eld
open PySem PySem.Spec PyProof.Rows
def tSortedVals (td : TE) : TE := fun σ H Q => td σ H fun x H1 => ∃ (a : Addr) (kvs : List (Key × V)) (is : List Str), x = V.ref a ∧ Rd H1 a (.dK kvs) ∧ kvs.map (·.2) = is.map V.str ∧ is.length < 64 ∧
  ∀ ys p, ys.Perm is → sortedS ys = true → H1 p = none → Q (.ref p) (upd H1 p (.lst (ys.map V.str)))
section
variable {X : Cx} {o : Expr} {td : TE} {p apos mpos pos : Pos}
theorem pe_sortedVals (hc : X.calm = true) (hg : Gl X "sorted") (hm : X.mg "sorted" = none) (hd : PE X o td) (hbase : attributeBase o "values" X.env (eval o X.env) = eval o X.env := by rfl) (hline : (apos.endLine == mpos.line) = true := by rfl)
    (hse : starEach [Expr.Call (.Attribute o "values" apos) [] [] mpos] X.env = [(false, eval (Expr.Call (.Attribute o "values" apos) [] [] mpos) X.env)] := by rfl) :
    PE X (.Call (.Name "sorted" p) [.Call (.Attribute o "values" apos) [] [] mpos] [] pos) (tSortedVals td) := by
  refine ⟨fun pins s σ H Q I h => ?_⟩
  refine wpAny_Call_Name_kw (ld_blt I hg hm (u := .builtin "sorted") (by first | rfl | decide +kernel) ?_ (by first | decide +kernel | decide) (by first | decide +kernel | decide))
  rw [hse]
  refine PySem.callWith_builtin1 (wpAny_Call_method0_late hbase hline (thn (hd.run pins s σ H _ I h) fun v s1 ⟨x, H1, I1, r1, a, kvs, is, ex, ha, hv, h64, q⟩ => ?_))
  subst ex
  obtain rfl : v = Value.ref a := r1
  obtain ⟨_, hsys, vs, rel, dof⟩ := dk_rd I1.hok ha
  obtain ⟨ep, dat⟩ := dof.dictAt
  have dat' := dat
  obtain ⟨ob, es, ho, ex, hdat, hko, hpr, hnd⟩ := dat'
  refine ⟨"dict", "dict.values", F.plainAttrs_dict, F.slot_dict_values, F.type_dict_values, ⟨ob, ho, ex.1⟩, fun b e => ?_, Calls.callWith_builtin rfl (PySem.evalArgs_none ?_)⟩
  · cases e
    exact ⟨ob, ho, ex.2.1⟩
  refine call_meetsIn F.slot_dict_values ⟨ob, ho, ex.1⟩ F.entry_dict_values (F.args_dict_values_1 _) (meets_dict_values (mixKind X.prog X.w) a hsys) ⟨⟨vs, dof⟩, ?_⟩
  have k1 : ∀ b u, s1.heap.get? b = some u → (s1.heap.push { cls := .type "dict_values", data := .fields #[.ref a] }).get? b = some u := fun b u e => Heap.get?_push_of_some _ e
  have dat1 : (s1.heap.push { cls := .type "dict_values", data := .fields #[.ref a] }).DictAt (mixKind X.prog X.w) a vs ep := dat.keep k1
  have hlv : vs.length = is.length := by
    have e1 := congrArg List.length hv
    rw [List.length_map, List.length_map] at e1
    rw [← e1]
    exact (KV.length rel).symm
  have h16 : vs.length ≤ sizeLine := by rw [hlv, sizeLine_eq]; omega
  have hlt : a < s1.heap.objs.size := Heap.lt_size ho
  have hv1 : (s1.heap.push { cls := .type "dict_values", data := .fields #[.ref a] }).IsValuesView s1.heap.objs.size a := ⟨_, Heap.get?_push_size _ rfl, rfl, rfl⟩
  refine Calls.call_function_entry PyProof.Rows.kind_sorted PyProof.Rows.plain_sorted PyProof.Rows.entry_sorted (PyProof.Rows.args_sorted1 _) ?_
  unfold Builtin.«sorted»
  refine wpAny_bind (m := checkCount "sorted" 1 1 _) (wpAny_pure ?_)
  refine wpAny_bind (PySem.W.kdu_collect (A := X.A.in1) (PySem.W.kdl_values (knd := mixKind X.prog X.w) (kvs := vs) (ep := ep) (r := s1.heap.objs.size) (d := a)) (I.ok.hd hc) ⟨hv1, dat1⟩ h16 fun h' tk acc hk hacc => ?_)
  have hal : acc.toList.length = is.length := by rw [Array.length_toList, hacc.1, hlv]
  have hS : StrsAre acc.toList is := L2.strs_at hal fun j v e => by
    obtain ⟨k, e1⟩ := hacc.2 j v (by rw [← Array.getElem?_toList]; exact e)
    obtain ⟨x, h1, h2⟩ := KV.at' rel e1
    have e3 : (kvs.map (·.2))[j]? = some x := by rw [List.getElem?_map, h1] <;> rfl
    rw [hv, List.getElem?_map] at e3
    obtain ⟨y, hy, e4⟩ := Option.map_eq_some_iff.mp e3
    subst e4
    obtain ⟨t, e5⟩ := h2
    exact ⟨y, t, hy, e5⟩
  have I2 : Inv X pins σ H1 { s1 with heap := h', toks := tk } := I1.kept fun b u e => hk b u (k1 b u e)
  refine wpAny_bind (wpAny_newList ?_ (by rw [hal, sizeLine_eq]; omega))
  have hoL : (h'.push (seqObj "list" acc.toList.toArray 0)).get? h'.objs.size = some (seqObj "list" acc.toList.toArray 0) := Heap.get?_push_size _ rfl
  show wpAny _ _ _ _ _ { s1 with heap := h'.push (seqObj "list" acc.toList.toArray 0), toks := tk }
  refine wpAny_bind (wpAny_holding (wpAny_call_entry PyProof.Rows.slot_list_sort ⟨_, hoL, rfl⟩ PyProof.Rows.entry_list_sort
    (list_sort_treeK strKind_oneLt (s := { s1 with heap := h'.push (seqObj "list" acc.toList.toArray 0), toks := tk }) hoL hS.keysOf (fun v₁ v₂ rest e => keyKind_strs (by rw [← e]; exact hS)) (by rw [hal]; exact h64) fun st' hp hs => ⟨_, rfl, ?_⟩)
    (PyProof.Rows.args_list_sort _)))
  obtain ⟨ys, g1, g2, g3⟩ := sorted_out_str hS hp hs
  obtain ⟨e', he'⟩ := PyProof.Rows.sortedHeap_at (vs := acc.toList) (out := (arrOf st').map (·.2)) hoL
  have hlen : (ys.map V.str).length ≤ sizeLine := by
    rw [List.length_map, g2.length_eq]
    exact Nat.le_trans (Nat.le_of_lt h64) (by decide)
  refine wpAny_pure ⟨_, rfl, .ref h'.objs.size, upd H1 h'.objs.size (.lst (ys.map V.str)), I2.laid (t' := tk) (fun b u e => ?_) (Nat.le_refl _)
    (show ObjOk X.prog X.w _ _ _ (.lst (ys.map V.str)) from ⟨hlen, ((arrOf st').map (·.2)).toList, e', vals_of_strs g1, by rw [Array.toArray_toList]; exact he'⟩), rfl, q ys _ g2 g3 (I2.hok.fresh (Nat.le_refl _))⟩
  have hb : b < h'.objs.size := Heap.lt_size e
  rw [PyProof.Rows.sortedHeap_old (Nat.ne_of_lt hb) (by rw [size_push']; exact Nat.lt_succ_of_lt hb)]
  exact Heap.get?_push_of_some _ e
end
end Eld
end L2

set_option Elab.async false
set_option linter.all false
set_option maxRecDepth 100000
set_option maxHeartbeats 4000000
/-! ## dicts by numbers; which kinds two have in common; linked -/
namespace L2
namespace Eld
open PySem PySem.Spec PyProof.Rows PySem.EldX
structure Blt2 (mg : Str → Option Value) : Prop where
  any : mg "any" = none
  zip : mg "zip" = none
  enumerate : mg "enumerate" = none
  dict : mg "dict" = none
/-! ### dicts with numbered keys -/
def keyed (f : Nat → Str) (g : Nat → V) (n : Nat) : List (Key × V) := (List.range n).map fun i => ((.inr (f i) : Key), g i)
theorem keyed_length (f : Nat → Str) (g : Nat → V) (n : Nat) : (keyed f g n).length = n := by simp [keyed]
theorem keyed_succ (f : Nat → Str) (g : Nat → V) (n : Nat) : keyed f g (n + 1) = keyed f g n ++ [(.inr (f n), g n)] := by
  unfold keyed
  rw [List.range_succ, List.map_append]
  rfl
theorem keyed_congr {f : Nat → Str} {g g' : Nat → V} {n : Nat} (h : ∀ i < n, g i = g' i) : keyed f g n = keyed f g' n := by
  unfold keyed
  refine List.map_congr_left fun i hi => ?_
  rw [h i (List.mem_range.mp hi)]
abbrev InjB (f : Nat → Str) (n : Nat) : Prop := ∀ i j, i < n → j < n → f i = f j → i = j
theorem valV_app_none {l1 l2 : List (Key × V)} {k : Key} (h1 : valV l1 k = none) (h2 : valV l2 k = none) : valV (l1 ++ l2) k = none := by
  induction l1 with
  | nil => exact h2
  | cons p r ih =>
    by_cases e : p.1 = k
    · rw [valV_pos e] at h1
      cases h1
    · rw [valV_neg e] at h1
      rw [List.cons_append, valV_neg e]
      exact ih h1
theorem valV_no {f : Nat → Str} {g : Nat → V} {y : Str} : ∀ {n : Nat}, (∀ i < n, f i ≠ y) → valV (keyed f g n) (.inr y) = none
  | 0, _ => rfl
  | n + 1, h => by
    rw [keyed_succ]
    have ih := valV_no (f := f) (g := g) (y := y) (n := n) fun i hi => h i (by omega)
    have ne : ¬ (((.inr (f n) : Key)) = .inr y) := fun e => h n (by omega) (by cases e; rfl)
    exact valV_app_none ih (valV_neg ne)
theorem valV_app_some {l1 l2 : List (Key × V)} {k : Key} {v : V} (h : valV l1 k = some v) : valV (l1 ++ l2) k = some v := by
  induction l1 with
  | nil => cases h
  | cons p r ih =>
    by_cases e : p.1 = k
    · rw [valV_pos e] at h
      rw [List.cons_append, valV_pos e]
      exact h
    · rw [valV_neg e] at h
      rw [List.cons_append, valV_neg e]
      exact ih h
theorem valV_app_right {l1 l2 : List (Key × V)} {k : Key} (h : valV l1 k = none) : valV (l1 ++ l2) k = valV l2 k := by
  induction l1 with
  | nil => rfl
  | cons p r ih =>
    by_cases e : p.1 = k
    · rw [valV_pos e] at h
      cases h
    · rw [valV_neg e] at h
      rw [List.cons_append, valV_neg e]
      exact ih h
theorem valV_keyed {f : Nat → Str} {g : Nat → V} : ∀ {n j : Nat}, InjB f n → j < n → valV (keyed f g n) (.inr (f j)) = some (g j)
  | 0, j, _, h => by omega
  | n + 1, j, inj, h => by
    rw [keyed_succ]
    rcases Nat.lt_or_ge j n with lt | ge
    · exact valV_app_some (valV_keyed (fun a b ha hb => inj a b (by omega) (by omega)) lt)
    · obtain rfl : j = n := by omega
      rw [valV_app_right (valV_no fun i hi e => by have := inj i j (by omega) (by omega) e; omega)]
      exact valV_pos rfl
theorem putK_keyed {f : Nat → Str} {g : Nat → V} {n j : Nat} {v : V} (inj : InjB f n) (h : j < n) : putK (keyed f g n) (.inr (f j)) v = keyed f (fun i => if i = j then v else g i) n := by
  unfold putK
  rw [if_pos (by rw [valV_any, valV_keyed inj h]; rfl)]
  unfold keyed
  rw [List.map_map]
  refine List.map_congr_left fun i hi => ?_
  have hi := List.mem_range.mp hi
  by_cases e : i = j
  · subst e
    simp
  · have : ¬ (f i = f j) := fun z => e (inj i j hi h z)
    simp [e, this]
theorem putK_keyed_new {f : Nat → Str} {g : Nat → V} {n : Nat} {v : V} (inj : InjB f (n + 1)) : putK (keyed f g n) (.inr (f n)) v = keyed f (fun i => if i = n then v else g i) (n + 1) := by
  rw [putK_new _ (valV_no fun i hi e => by have := inj i n (by omega) (by omega) e; omega), keyed_succ, if_pos rfl]
  rw [keyed_congr (g' := fun i => if i = n then v else g i) fun i hi => by rw [if_neg (by omega)]]
/-! ### dicts as sets -/
def sk (K : List Str) : List (Key × V) := K.map fun x => (.inr x, .bl true)
theorem valV_sk {x : Str} : ∀ K : List Str, (valV (sk K) (.inr x)).isSome = decide (x ∈ K)
  | [] => rfl
  | y :: K => by
    have ih := valV_sk (x := x) K
    by_cases e : y = x
    · subst e
      rw [show sk (y :: K) = ((.inr y : Key), V.bl true) :: sk K from rfl, valV_pos rfl]
      simp
    · rw [show sk (y :: K) = ((.inr y : Key), V.bl true) :: sk K from rfl, valV_neg (fun z => e (by cases z; rfl)), ih]
      simp [Ne.symm e]
def ins (K : List Str) (x : Str) : List Str := if x ∈ K then K else K ++ [x]
theorem putK_sk (K : List Str) (x : Str) : putK (sk K) (.inr x) (.bl true) = sk (ins K x) := by
  unfold putK ins
  rw [valV_any, valV_sk]
  by_cases h : x ∈ K
  · rw [if_pos (decide_eq_true h), if_pos h]
    unfold sk
    rw [List.map_map]
    refine List.map_congr_left fun y _ => ?_
    by_cases e : y = x
    · simp [e]
    · simp [e]
  · rw [if_neg (by simpa using h), if_neg h]
    simp [sk]
theorem mem_ins {K : List Str} {x y : Str} : y ∈ ins K x ↔ y ∈ K ∨ y = x := by
  unfold ins
  split
  · rename_i h
    exact ⟨.inl, fun z => z.elim id fun e => e ▸ h⟩
  · simp
theorem nd_ins {K : List Str} {x : Str} (h : K.Nodup) : (ins K x).Nodup := by
  unfold ins
  split
  · exact h
  · rename_i hx
    rw [List.nodup_append]
    refine ⟨h, by simp, fun a ha b hb e => ?_⟩
    obtain rfl := List.mem_singleton.mp hb
    subst e
    exact hx ha
def insAll (K L : List Str) : List Str := L.foldl ins K
theorem mergeK_sk : ∀ (L K : List Str), mergeK (sk K) (sk L) = sk (insAll K L)
  | [], K => rfl
  | x :: L, K => by
    show mergeK (putK (sk K) (.inr x) (.bl true)) (sk L) = _
    rw [putK_sk]
    exact mergeK_sk L (ins K x)
theorem mem_insAll {y : Str} : ∀ {L K : List Str}, y ∈ insAll K L ↔ y ∈ K ∨ y ∈ L
  | [], K => by simp [insAll]
  | x :: L, K => by
    show y ∈ insAll (ins K x) L ↔ _
    rw [mem_insAll, mem_ins, List.mem_cons]
    exact or_assoc
theorem nd_insAll : ∀ {L K : List Str}, K.Nodup → (insAll K L).Nodup
  | [], K, h => h
  | x :: L, K, h => nd_insAll (L := L) (nd_ins h)
/-! ### in common -/
def share (xs ys : List Str) : Bool := xs.any fun x => decide (x ∈ ys)
theorem share_comm (xs ys : List Str) : share xs ys = share ys xs := by
  rw [Bool.eq_iff_iff]
  simp only [share, List.any_eq_true, decide_eq_true_eq]
  exact ⟨fun ⟨x, a, b⟩ => ⟨x, b, a⟩, fun ⟨x, a, b⟩ => ⟨x, b, a⟩⟩
theorem share_iff {xs ys : List Str} : share xs ys = true ↔ ∃ x, x ∈ xs ∧ x ∈ ys := by
  simp only [share, List.any_eq_true, decide_eq_true_eq]
theorem walk_list_strs {K : PySem.W.Frag} {a : Addr} {xs : List Str} : Walk (Itl K a) xs.length (fun H => SqL K H a (xs.map V.str)) (YAt (xs.map V.str)) := by
  have := walk_list (K := K) (a := a) (xs := xs.map V.str)
  rw [List.length_map] at this
  exact this
section
variable {P : Program} {w : World} {K : PySem.W.Frag} {mg : Str → Option Value} {base : Heap} {CA fI pN gN pF gF pM gM fE CL fLI fLE fLL fLA fLN fLK fLR fLP : Addr}
def spShareL (K : PySem.W.Frag) : Sp := fun vs H Q _ => ∃ (l m : Addr) (xs ys : List Str), vs = [.ref l, .ref m] ∧ SqL K H l (xs.map V.str) ∧ SqL K H m (ys.map V.str) ∧ xs.length ≤ 1000 ∧ ∀ H', Same H H' → Q (.bl (share xs ys)) H'
def spShareD (K : PySem.W.Frag) : Sp := fun vs H Q _ => ∃ (l m : Addr) (xs ys : List Str), vs = [.ref l, .ref m] ∧ SqL K H l (xs.map V.str) ∧ H m = some (.dK (sk ys)) ∧ xs.length ≤ 1000 ∧ ∀ H', Same H H' → Q (.bl (share xs ys)) H'
theorem ok_shareL {f : Addr} {fd : FuncData} {k : Nat} (F : Fun K "_share" "_share" sShare f fd) (B2 : Blt2 mg) : FnOk P w K mg base CX0 (k + 1) f fd ["kinds", "others"] (spShareL K) := by
  refine F.ok scShare (fun vs H Q E h => ?_) (fun cdv A outer s H vs Q E hr h => ?_)
  · obtain ⟨l, m, xs, ys, rfl, _⟩ := h
    rfl
  · obtain ⟨l, m, xs, ys, rfl, hS, hM, hz, q⟩ := h
    refine ⟨_, (pss_one (ps_ret (pe_callB (cr_any rfl) (by rfl) B2.any (by decide +kernel) (pa_cons (pe_lc (own := [("kind", 2)]) (g := gName 2) (tt := tYes) (te := tOp (rIn K false) (tVar 2) (tVar 1)) rfl scShare.nd (pi_list (pv 0)) (blkOk_by (own := [("kind", 2)]) (N := NShare) (sc := defScope sShare) (by decide +kernel)) (fun _ _ _ _ _ => pg_name (i := 2) scShare.nd rfl (.inl rfl)) (fun _ _ _ _ _ => pts_nil) (fun _ _ _ _ _ => (pe_cmpR op_in_seq (pv 2) (pv 1) (by rfl)))) pa_nil)))), ?_⟩
    refine ⟨.ref l, rfl, l, rfl, ⟨_, hS⟩, fun D hD => ?_⟩
    refine lc_out (walk_list_strs) (fun i y _ => ∃ x, xs[i]? = some x ∧ y = .bl (decide (x ∈ ys))) (Nat.lt_of_le_of_lt hz (by decide)) hD (fun G s => s.seq hS) (fun _ _ _ _ y => y.1) (fun _ _ _ _ _ _ _ o => o) ?_ ?_
    · rintro i v G hi sG ⟨_, hv⟩ R hR
      obtain ⟨x, hx, rfl⟩ := str_at hv
      refine ⟨rfl, .str x, rfl, .ref m, rfl, m, _, rfl, .inl (sG.seq hM), rfl, strs_flat _, ?_⟩
      rw [inV_strs]
      exact hR _ G (Same.refl _) ⟨x, hx, rfl⟩
    · intro G acc sG hG hl ho
      have e := eq_map_of (f := fun x => V.bl (decide (x ∈ ys))) hl ho
      rw [e] at hG
      refine ⟨D, xs.map fun x => decide (x ∈ ys), rfl, SqL.of (by rw [List.map_map]; exact hG), ?_⟩
      rw [List.any_map]
      exact q G sG
theorem ok_shareD {f : Addr} {fd : FuncData} {k : Nat} (F : Fun K "_share" "_share" sShare f fd) (B2 : Blt2 mg) : FnOk P w K mg base CX0 (k + 1) f fd ["kinds", "others"] (spShareD K) := by
  refine F.ok scShare (fun vs H Q E h => ?_) (fun cdv A outer s H vs Q E hr h => ?_)
  · obtain ⟨l, m, xs, ys, rfl, _⟩ := h
    rfl
  · obtain ⟨l, m, xs, ys, rfl, hS, hM, hz, q⟩ := h
    refine ⟨_, (pss_one (ps_ret (pe_callB (cr_any rfl) (by rfl) B2.any (by decide +kernel) (pa_cons (pe_lc (own := [("kind", 2)]) (g := gName 2) (tt := tYes) rfl scShare.nd (pi_list (pv 0)) (blkOk_by (own := [("kind", 2)]) (N := NShare) (sc := defScope sShare) (by decide +kernel)) (fun _ _ _ _ _ => pg_name (i := 2) scShare.nd rfl (.inl rfl)) (fun _ _ _ _ _ => pts_nil) (fun _ _ _ _ _ => (pe_cmp (pc_din (hu_of hr) (pv 2) (pv 1))))) pa_nil)))), ?_⟩
    refine ⟨.ref l, rfl, l, rfl, ⟨_, hS⟩, fun D hD => ?_⟩
    refine lc_out (walk_list_strs) (fun i y _ => ∃ x, xs[i]? = some x ∧ y = .bl (decide (x ∈ ys))) (Nat.lt_of_le_of_lt hz (by decide)) hD (fun G s => s.seq hS) (fun _ _ _ _ y => y.1) (fun _ _ _ _ _ _ _ o => o) ?_ ?_
    · rintro i v G hi sG ⟨_, hv⟩ R hR
      obtain ⟨x, hx, rfl⟩ := str_at hv
      refine ⟨rfl, .str x, rfl, .ref m, rfl, m, _, rfl, DGet.k (k := .inr x) (sG _ _ hM), ?_⟩
      rw [valV_sk]
      exact hR _ G (Same.refl _) ⟨x, hx, rfl⟩
    · intro G acc sG hG hl ho
      have e := eq_map_of (f := fun x => V.bl (decide (x ∈ ys))) hl ho
      rw [e] at hG
      refine ⟨D, xs.map fun x => decide (x ∈ ys), rfl, SqL.of (by rw [List.map_map]; exact hG), ?_⟩
      rw [List.any_map]
      exact q G sG
/-! ### need_line, linked -/
def spNeedLine (CL CA : Addr) : Sp := fun vs H Q _ => ∃ (a : Addr) (as : List Addr) (ks : List Ask), vs = [.ref a] ∧ LineAt CL CA H a as ks ∧ Q .non H
theorem ok_needLine {f : Addr} {fd : FuncData} {k : Nat} (F : Fun K "need_line" "need_line" sNeedLine f fd) (B : Blt mg) (T : LCls K CL fLI fLE fLL fLA fLN fLK fLR fLP) (gL : mg "Line" = some (.ref CL)) : FnOk P w K mg base CX0 (k + 1) f fd ["value"] (spNeedLine CL CA) := by
  refine F.ok scNeedLine (fun vs H Q E h => ?_) (fun cdv A outer s H vs Q E hr h => ?_)
  · obtain ⟨a, as, ks, rfl, _⟩ := h
    rfl
  · obtain ⟨a, as, ks, rfl, ⟨dx, t, h1, _⟩, q⟩ := h
    refine ⟨_, (pss_one (ps_if (pt_not (pt_val (pe_callB call_isi (by rfl) B.isinstance (by decide +kernel) (pa_cons (pv 0) (pa_cons (pe_glob (v := .ref CL) rfl gL rfl) pa_nil))))) (pss_one (ps_dead _)) pss_nil)), ?_⟩
    exact ⟨.ref a, rfl, .ref a, .ref CL, .ref CL, .ref CL, true, rfl, .own CL, tyx_ask T.ins h1, T.ins.me, true, rfl, iteF q⟩
end
end Eld
end L2

set_option Elab.async false
set_option linter.all false
set_option maxRecDepth 100000
set_option maxHeartbeats 4000000
/-! ## parents -/
namespace L2
namespace Eld
open PySem PySem.Spec PyProof.Rows PySem.EldX
section
variable {J : It} {n : Nat} {G : Hp → Prop} {Y : Nat → Hp → V → Hp → Prop}
/-- a dict comprehension over it -/
theorem dc_it (w : Walk J n G Y) {g : TG} {tt : TT} {tk tv : TE} {vs : List Nat} {σ : St} {H1 : Hp} {D : Addr} {Qd : Hp → Prop} (Pv : Nat → Hp → Prop) (h0 : Pv 0 (upd H1 D (.dK []))) (hG : ∀ i H, i ≤ n → Pv i H → G H)
    (hs : ∀ i x H H', i < n → Pv i H → Y i H x H' → g x (wipe σ vs) H' fun σ2 H2 => wipe σ2 vs = wipe σ vs ∧ tt σ2 H2 fun b H3 =>
      if b = true then tk σ2 H3 fun y H4 => tv σ2 H4 fun z H5 => ∃ kvs k, y = kV k ∧ H5 D = some (.dK kvs) ∧ kvs.length < sizeLine ∧ Pv (i + 1) (upd H5 D (.dK (putK kvs k z))) else Pv (i + 1) H3) (hd : ∀ H, Pv n H → Qd H) :
    ∃ W : Nat → Nat → Hp → Prop, (∃ m, W 0 m (upd H1 D (.dK []))) ∧ ∀ i m H, W i m H →
      (J.stop i H ∧ Qd H) ∨ (J.go i H ∧ ∃ Nx : Hp → Prop, (∀ H', Nx H' → ∃ m', m' < m ∧ W (i + 1) m' H') ∧ ∀ x H', J.yld i H x H' → g x (wipe σ vs) H' fun σ2 H2 => wipe σ2 vs = wipe σ vs ∧ tt σ2 H2 fun b H3 =>
        if b = true then tk σ2 H3 fun y H4 => tv σ2 H4 fun z H5 => ∃ kvs k, y = kV k ∧ H5 D = some (.dK kvs) ∧ kvs.length < sizeLine ∧ Nx (upd H5 D (.dK (putK kvs k z))) else Nx H3) := by
  refine ⟨fun i m H => m = n - i ∧ i ≤ n ∧ Pv i H, ⟨n, by simp, Nat.zero_le _, h0⟩, ?_⟩
  rintro i m H ⟨rfl, hi, p⟩
  rcases Nat.lt_or_ge i n with lt | ge
  · exact .inr ⟨w.goes i H lt (hG i H hi p), Pv (i + 1), fun H' q => ⟨n - (i + 1), by omega, rfl, lt, q⟩, fun x H' y => hs i x H H' lt p (w.yields i H x H' lt (hG i H hi p) y)⟩
  · obtain rfl : i = n := by omega
    exact .inl ⟨w.stops H (hG i H hi p), hd H p⟩
end
/-- the keys of a dict that is locked -/
theorem walk_dkeys {d : Addr} {o : Obj} {kvs : List (Key × V)} {xs : List Str} (h : kvs.map Prod.fst = xs.map .inr) : Walk (Itk d o kvs) xs.length (fun H => H d = some (.frz o (.dK kvs))) (YAt (xs.map V.str)) := by
  have hl : kvs.length = xs.length := by
    have := congrArg List.length h
    simpa using this
  have w := walk_keys (d := d) (o := o) (kvs := kvs)
  rw [hl] at w
  refine ⟨w.goes, w.stops, fun i H x H' hi g y => ?_⟩
  obtain ⟨e, k, v, e1, rfl⟩ := w.yields i H x H' hi g y
  refine ⟨e, ?_⟩
  have e2 : (kvs.map Prod.fst)[i]? = some k := by
    rw [List.getElem?_map, e1]
    rfl
  rw [h, List.getElem?_map] at e2
  rw [List.getElem?_map]
  cases c : xs[i]? with
  | none => rw [c] at e2; cases e2
  | some y =>
    rw [c] at e2
    obtain rfl : (Sum.inr y : Key) = k := Option.some.inj e2
    rfl
/-- what keep lets through; a turn may lay new things -/
theorem lc_keepS {J : It} {n : Nat} {G : Hp → Prop} {xs : List Str} {keep : Str → Bool} (w : Walk J n G (YAt (xs.map V.str))) (hn : n = xs.length) {g : TG} {tt : TT} {te : TE} {vs : List Nat} {σ : St} {H1 : Hp} {D : Addr} {Qd : Hp → Prop} (hz : xs.length ≤ 1000) (hD : H1 D = none) (hG : ∀ H, Same H1 H → G H)
    (hs : ∀ x H, Same H1 H → x ∈ xs → ∀ (N : VK) (M : Hp → Prop), (∀ H', Same H H' → keep x = true → N (.str x) H') → (∀ H', Same H H' → keep x = false → M H') → g (.str x) (wipe σ vs) H fun σ2 H2 => wipe σ2 vs = wipe σ vs ∧ tt σ2 H2 fun b H3 => if b = true then te σ2 H3 N else M H3)
    (hd : ∀ H, Same H1 H → H D = some (.lst ((xs.filter keep).map V.str)) → Qd H) :
    ∃ W : Nat → Nat → Hp → Prop, (∃ m, W 0 m (upd H1 D (.lst []))) ∧ ∀ i m H, W i m H →
      (J.stop i H ∧ Qd H) ∨ (J.go i H ∧ ∃ Nx : Hp → Prop, (∀ H', Nx H' → ∃ m', m' < m ∧ W (i + 1) m' H') ∧ ∀ x H', J.yld i H x H' → g x (wipe σ vs) H' fun σ2 H2 => wipe σ2 vs = wipe σ vs ∧ tt σ2 H2 fun b H3 =>
        if b = true then te σ2 H3 fun y H4 => ∃ acc, H4 D = some (.lst acc) ∧ acc.length < sizeLine ∧ Nx (upd H4 D (.lst (acc ++ [y]))) else Nx H3) := by
  subst hn
  refine lc_it w (fun i H => Same H1 H ∧ H D = some (.lst (((xs.take i).filter keep).map V.str))) ⟨Same.fresh hD, by rw [upd_same]; rfl⟩ (fun i H _ p => hG H p.1) ?_ fun H p => hd H p.1 (by rw [p.2, List.take_length])
  rintro i v H H' hi ⟨s, e⟩ ⟨rfl, hv⟩
  obtain ⟨x, hx, rfl⟩ := str_at hv
  have et : xs.take (i + 1) = xs.take i ++ [x] := by rw [List.take_add_one, hx]; rfl
  refine hs x H' s (List.mem_of_getElem? hx) _ _ (fun H2 s2 hk => ?_) fun H2 s2 hk => ?_
  · refine ⟨_, s2 _ _ e, ?_, (s.trans s2).put hD, ?_⟩
    · rw [List.length_map, sizeLine_eq]
      have := List.length_filter_le keep (xs.take i)
      rw [List.length_take] at this
      omega
    · rw [upd_same, et, List.filter_append, List.map_append]
      simp [hk]
  · refine ⟨s.trans s2, ?_⟩
    rw [s2 _ _ e, et, List.filter_append]
    simp [hk]
/-! ### askers by numbers -/
def nmA (ks : List Ask) (i : Nat) : Str := ((ks[i]?).map Ask.nm).getD ""
def fitsA (ks : List Ask) (i : Nat) : List Str := ((ks[i]?).map Ask.ks).getD []
def lkA (ks : List Ask) (i j : Nat) : Bool := share (fitsA ks i) (fitsA ks j)
theorem lkA_sym (ks : List Ask) (i j : Nat) : lkA ks i j = lkA ks j i := share_comm _ _
theorem nmA_at {ks : List Ask} {i : Nat} {k : Ask} (h : ks[i]? = some k) : nmA ks i = k.nm := by simp [nmA, h]
theorem fitsA_at {ks : List Ask} {i : Nat} {k : Ask} (h : ks[i]? = some k) : fitsA ks i = k.ks := by simp [fitsA, h]
theorem nmA_inj {ks : List Ask} (nd : (ks.map Ask.nm).Nodup) : InjB (nmA ks) ks.length := fun i j hi hj e => by
  have ei : (ks.map Ask.nm)[i]? = some (nmA ks i) := by
    rw [List.getElem?_map, List.getElem?_eq_getElem hi, nmA_at (List.getElem?_eq_getElem hi)]
    rfl
  have ej : (ks.map Ask.nm)[j]? = some (nmA ks j) := by
    rw [List.getElem?_map, List.getElem?_eq_getElem hj, nmA_at (List.getElem?_eq_getElem hj)]
    rfl
  rw [← e] at ej
  obtain ⟨l1, e1⟩ := List.getElem?_eq_some_iff.mp ei
  obtain ⟨l2, e2⟩ := List.getElem?_eq_some_iff.mp ej
  rcases Nat.lt_trichotomy i j with lt | h | gt
  · exact absurd (e1.trans e2.symm) (List.pairwise_iff_getElem.mp nd i j l1 l2 lt)
  · exact h
  · exact absurd (e2.trans e1.symm) (List.pairwise_iff_getElem.mp nd j i l2 l1 gt)
def parV (ks : List Ask) (ps : List (Option Nat)) (i : Nat) : V := match ps[i]? with
  | some (some j) => .str (nmA ks j)
  | _ => .non
abbrev parD (ks : List Ask) (ps : List (Option Nat)) : List (Key × V) := keyed (nmA ks) (parV ks ps) ps.length
/-- the dict of roots -/
def rootD (ks : List Ask) (rs : List (Nat × Addr)) : List (Key × V) := rs.map fun p => (.inr (nmA ks p.1), .ref p.2)
theorem rootD_fst (ks : List Ask) (rs : List (Nat × Addr)) : (rootD ks rs).map Prod.fst = (rs.map fun p => nmA ks p.1).map .inr := by
  unfold rootD
  rw [List.map_map, List.map_map]
  rfl
theorem valV_root {ks : List Ask} {n : Nat} (inj : InjB (nmA ks) n) : ∀ {rs : List (Nat × Addr)} {p : Nat × Addr}, (∀ q ∈ rs, q.1 < n) → (rs.map Prod.fst).Nodup → p ∈ rs → valV (rootD ks rs) (.inr (nmA ks p.1)) = some (.ref p.2)
  | [], _, _, _, h => (nomatch h)
  | q :: rs, p, lt, nd, h => by
    rw [List.map_cons, List.nodup_cons] at nd
    by_cases e : q = p
    · subst e
      exact valV_pos rfl
    · have hp : p ∈ rs := by
        rcases List.mem_cons.mp h with h | h
        · exact absurd h.symm e
        · exact h
      have ne : ¬ ((.inr (nmA ks q.1) : Key)) = .inr (nmA ks p.1) := fun z => by
        have z' : nmA ks q.1 = nmA ks p.1 := Sum.inr.inj z
        have := inj q.1 p.1 (lt q List.mem_cons_self) (lt p h) z'
        exact nd.1 (List.mem_map.mpr ⟨p, hp, this.symm⟩)
      rw [show rootD ks (q :: rs) = ((.inr (nmA ks q.1) : Key), V.ref q.2) :: rootD ks rs from rfl, valV_neg ne]
      exact valV_root inj (fun z hz => lt z (List.mem_cons_of_mem _ hz)) nd.2 hp
theorem dropK_root {ks : List Ask} {n : Nat} (inj : InjB (nmA ks) n) {rs : List (Nat × Addr)} {r : Nat} (lt : ∀ q ∈ rs, q.1 < n) (hr : r < n) : dropK (rootD ks rs) (.inr (nmA ks r)) = rootD ks (rs.filter fun q => decide (q.1 ≠ r)) := by
  unfold dropK rootD
  rw [List.filter_map]
  congr 1
  refine List.filter_congr fun q hq => ?_
  refine decide_eq_decide.mpr ⟨fun h e => h ?_, fun h e => h (inj q.1 r (lt q hq) hr (Sum.inr.inj e))⟩
  show (Sum.inr (nmA ks q.1) : Key) = Sum.inr (nmA ks r)
  rw [e]
section
variable {P : Program} {w : World} {K : PySem.W.Frag} {mg : Str → Option Value} {base : Heap} {CA fI pN gN pF gF pM gM fE : Addr}
theorem nodup_map_inj {α β : Type} {xs : List α} {f : α → β} (nd : xs.Nodup) (inj : ∀ a ∈ xs, ∀ b ∈ xs, f a = f b → a = b) : (xs.map f).Nodup := by
  induction xs with
  | nil => exact List.nodup_nil
  | cons x xs ih =>
    rw [List.nodup_cons] at nd
    rw [List.map_cons, List.nodup_cons]
    refine ⟨fun h => ?_, ih nd.2 fun a ha b hb => inj a (List.mem_cons_of_mem _ ha) b (List.mem_cons_of_mem _ hb)⟩
    obtain ⟨y, hy, e⟩ := List.mem_map.mp h
    have := inj y (List.mem_cons_of_mem _ hy) x List.mem_cons_self e
    subst this
    exact nd.1 hy
/-! ### _parents -/
def spParents (K : PySem.W.Frag) (CA : Addr) : Sp := fun vs H Q _ => ∃ (l : Addr) (as : List Addr) (ks : List Ask) (U : List Str), vs = [.ref l] ∧ SqL K H l (as.map V.ref) ∧ Asks CA H as ks ∧ (ks.map Ask.nm).Nodup ∧ ks.length ≤ 900 ∧ U.length ≤ 64 ∧ (∀ k ∈ ks, k.ks.Nodup ∧ ∀ x ∈ k.ks, x ∈ U) ∧
  ∀ (H' : Hp) (p : Addr) (ps : List (Option Nat)), Same H H' → H p = none → H' p = some (.dK (parD ks ps)) → Elim (lkA ks) ps → ps.length = ks.length → Q (.ref p) H'
/-- the state behind m askers -/
structure ParI (ks : List Ask) (H0 : Hp) (dp dk : Addr) (ps : List (Option Nat)) (rs : List (Nat × Addr)) (H : Hp) : Prop where
  same : Same H0 H
  atp : H dp = some (.dK (parD ks ps))
  atk : H dk = some (.dK (rootD ks rs))
  el : Elim (lkA ks) ps
  nd : (rs.map Prod.fst).Nodup
  mem : ∀ r, r ∈ rs.map Prod.fst ↔ ps[r]? = some none
  kd : ∀ p ∈ rs, p.2 ≠ dp ∧ p.2 ≠ dk ∧ H0 p.2 = none ∧ ∃ Kr : List Str, H p.2 = some (.dK (sk Kr)) ∧ Kr.Nodup ∧ ∀ x, x ∈ Kr ↔ ∃ i, Root ps i p.1 ∧ x ∈ fitsA ks i
theorem ok_parents {f fShare : Addr} {fd dShare dAN dAF : FuncData} (F : Fun K "_parents" "_parents" sParents f fd) (B : Blt mg) (B2 : Blt2 mg) (FShare : Fun K "_share" "_share" sShare fShare dShare) (gShare : mg "_share" = some (.ref fShare))
    (TA : ACls K CA fI pN gN pF gF pM gM fE) (FAN : Fun K "name" "Asker.name" sAName gN dAN) (FAF : Fun K "fits" "Asker.fits" sAFits gF dAF) : FnOk P w K mg base CX0 3 f fd ["askers"] (spParents K CA) := by
  have GShare : FnOk P w K mg base CX0 1 fShare dShare ["kinds", "others"] (spShareD K) := ok_shareD FShare B2
  have bShare : Binds K dShare ["kinds", "others"] [] := FShare.binds fun _ _ _ _ _ _ us hl => match us, hl with | [_, _], _ => rfl
  have GAName : FnOk P w K mg base CX0 1 gN dAN ["self"] (spAName CA) := ok_aname FAN TA
  have bAName : Binds K dAN ["self"] [] := FAN.binds fun _ _ _ _ _ _ us hl => match us, hl with | [_], _ => rfl
  have GAFits : FnOk P w K mg base CX0 1 gF dAF ["self"] (spAFits CA) := ok_afits FAF B TA
  have bAFits : Binds K dAF ["self"] [] := FAF.binds fun _ _ _ _ _ _ us hl => match us, hl with | [_], _ => rfl
  refine F.ok scParents (fun vs H Q E h => ?_) (fun cdv A outer s H vs Q E hr h => ?_)
  · obtain ⟨l, as, ks, U, rfl, _⟩ := h
    rfl
  · obtain ⟨l, as, ks, U, rfl, hS, hA, hnd, hz, hU, hk, q⟩ := h
    refine ⟨_, (pss_cons (ps_set (i := 1) scParents.nd rfl (.inl rfl) pe_dnewK)
      (pss_cons (ps_set (i := 2) scParents.nd rfl (.inr rfl) pe_dnewK)
      (pss_cons (ps_for PassesOwn.never rfl (pi_list (pv 0)) (pg_name (i := 3) scParents.nd rfl (.inr rfl))
        (pss_cons (ps_lock (ps_setLc (i := 4) (own := [("name", 6)]) (g := gName 6) (tt := tB (tCall (spShareD K) [] E0 (tCons (tProp CA (spAFits CA) [] E0 (tVar 3)) (tCons (tDGet (tVar 2) (tVar 6)) tNil)))) rfl scParents.nd rfl rfl (sw_true rfl rfl rfl (by decide +kernel)) (pi_keys (pv 2)) (blkOk_by (own := [("name", 6)]) (N := NParents) (sc := defScope sParents) (by decide +kernel)) (fun _ _ _ _ _ => pg_name (i := 6) scParents.nd rfl (.inl rfl)) (fun _ _ _ _ _ => pts_one (pt_val (pe_call GShare (hr.mono (by decide)) (by rfl) gShare FShare.kp bShare .nil pass0 (pa_cons (pe_prop (pv 3) TA.ins.cl TA.pF GAFits (hr.mono (by decide)) bAFits .nil pass0 rfl) (pa_cons (pe_dget (hu_of hr) (pv 2) (pv 6) (fun _ _ => rfl)) pa_nil))))) (fun _ _ _ _ _ => (pv 6))))
      (pss_cons (ps_setDc (i := 5) (own := [("kind", 7)]) (g := gName 7) (tt := tYes) rfl scParents.nd rfl rfl (sw_trueD rfl rfl rfl (by decide +kernel)) (pi_list (pe_prop (pv 3) TA.ins.cl TA.pF GAFits (hr.mono (by decide)) bAFits .nil pass0 rfl)) (blkOk_by (own := [("kind", 7)]) (N := NParents) (sc := defScope sParents) (by decide +kernel)) (fun _ _ _ _ _ => pg_name (i := 7) scParents.nd rfl (.inl rfl)) (fun _ _ _ _ _ => pts_nil) (fun _ _ _ _ _ => (pv 7)) (fun _ _ _ _ _ => pe_bl))
      (pss_cons (ps_for PassesOwn.never rfl (pi_list (pv 4)) (pg_name (i := 6) scParents.nd rfl (.inl rfl))
        (pss_cons (ps_dput (hu_of hr) (pv 1) (pv 6) (pe_prop (pv 3) TA.ins.cl TA.pN GAName (hr.mono (by decide)) bAName .nil pass0 rfl) rfl)
      (pss_one (ps_expr (pe_bm PySem.F.plainAttrs_dict PySem.F.slot_dict_update PySem.F.type_dict_update mt_dupdate (pv 5) (pa_cons (pe_dpop1 (pv 2) (pv 6) (by constructor <;> rfl)) pa_nil))))))
      (pss_cons (ps_dput (hu_of hr) (pv 1) (pe_prop (pv 3) TA.ins.cl TA.pN GAName (hr.mono (by decide)) bAName .nil pass0 rfl) pe_non rfl)
      (pss_one (ps_dput (hu_of hr) (pv 2) (pe_prop (pv 3) TA.ins.cl TA.pN GAName (hr.mono (by decide)) bAName .nil pass0 rfl) (pv 5) rfl)))))))
      (pss_one (ps_ret (pv 1)))))), ?_⟩
    refine fun dp ndp => fun dk ndk => ?_
    have ndk0 : H dk = none := Same.free (Same.fresh ndp) ndk
    have nkp : dk ≠ dp := fun e => by
      rw [e, upd_same] at ndk
      cases ndk
    have inj := nmA_inj hnd
    have hla := hA.len
    refine ⟨.ref l, rfl, l, rfl, ⟨_, ((Same.fresh ndp).trans (Same.fresh ndk)).seq hS⟩, for_list (K := K) (a := l) (xs := as.map V.ref) (fun m σ H' => ∃ ps rs v3 v4 v5 v6 v7, σ = [some (.ref l), some (.ref dp), some (.ref dk), v3, v4, v5, v6, v7] ∧ ParI ks H dp dk ps rs H' ∧ ps.length = m)
      ⟨[], [], _, _, _, _, _, rfl, ⟨(Same.fresh ndp).trans (Same.fresh ndk), by rw [upd_ne (Ne.symm nkp), upd_same]; rfl, by rw [upd_same]; rfl, .nil, List.nodup_nil, fun r => by simp, fun p hp => (nomatch hp)⟩, rfl⟩ (fun i σ H' _ ⟨_, _, _, _, _, _, _, _, I, _⟩ => I.same.seq hS) ?_ ?_⟩
    · rintro m x σ H1 hx ⟨ps, rs, v3, v4, v5, v6, v7, rfl, I, hm⟩
      obtain ⟨a, ha, rfl⟩ := ref_at hx
      obtain ⟨k, hk1, Ak0⟩ := hA.get ha
      have Ak := Ak0.same I.same
      have hml : m < ks.length := (List.getElem?_eq_some_iff.mp hk1).1
      obtain ⟨kn, kU⟩ := hk k (List.mem_of_getElem? hk1)
      have nmk := nmA_at hk1
      have fmk := fitsA_at hk1
      have k64 : k.ks.length ≤ 64 := Nat.le_trans (nodup_le _ U kn kU) hU
      have injm : InjB (nmA ks) m := fun i j hi hj => inj i j (by omega) (by omega)
      have rlt : ∀ q ∈ rs, q.1 < m := fun q hq => by
        have := (List.getElem?_eq_some_iff.mp ((I.mem q.1).mp (List.mem_map.mpr ⟨q, hq, rfl⟩))).1
        omega
      have fU : ∀ i x, x ∈ fitsA ks i → x ∈ U := fun i x hx => by
        unfold fitsA at hx
        cases e : ks[i]? with
        | none => rw [e] at hx; simp at hx
        | some k' => rw [e] at hx; exact (hk k' (List.mem_of_getElem? e)).2 x (by simpa using hx)
      have rl : (rs.map fun p => nmA ks p.1).length ≤ 1000 := by
        have hn : ((rs.map Prod.fst).map (nmA ks)).Nodup := nodup_map_inj I.nd fun i hi j hj e => by
          obtain ⟨p, hp, rfl⟩ := List.mem_map.mp hi
          obtain ⟨p', hp', rfl⟩ := List.mem_map.mp hj
          exact injm _ _ (rlt p hp) (rlt p' hp') e
        have := nodup_le _ (ks.map Ask.nm) hn fun y hy => by
          obtain ⟨i, hi, rfl⟩ := List.mem_map.mp hy
          obtain ⟨p, hp, rfl⟩ := List.mem_map.mp hi
          have hlt := rlt p hp
          have : p.1 < ks.length := by omega
          exact List.mem_map.mpr ⟨ks[p.1], List.getElem_mem this, (nmA_at (List.getElem?_eq_getElem this)).symm⟩
        simp only [List.length_map] at this ⊢
        omega
      -- who is joined
      let J : Nat → Bool := fun r => @decide (∃ i, Root ps i r ∧ lkA ks m i = true) (Classical.propDecidable _)
      have hJ : ∀ r, J r = true ↔ ∃ i, Root ps i r ∧ lkA ks m i = true := fun r => @decide_eq_true_iff _ (Classical.propDecidable _)
      have shareJ : ∀ p ∈ rs, ∀ Kr : List Str, (∀ x, x ∈ Kr ↔ ∃ i, Root ps i p.1 ∧ x ∈ fitsA ks i) → share k.ks Kr = J p.1 := fun p hp Kr hKr => by
        rw [Bool.eq_iff_iff, share_iff, hJ]
        constructor
        · rintro ⟨x, h1, h2⟩
          obtain ⟨i, h3, h4⟩ := (hKr x).mp h2
          exact ⟨i, h3, share_iff.mpr ⟨x, by rw [fmk]; exact h1, h4⟩⟩
        · rintro ⟨i, h3, h4⟩
          obtain ⟨x, h1, h2⟩ := share_iff.mp h4
          exact ⟨x, by rw [← fmk]; exact h1, (hKr x).mpr ⟨i, h3, h2⟩⟩
      let keep : Str → Bool := fun x => rs.any fun p => decide (nmA ks p.1 = x) && J p.1
      have keepJ : ∀ p ∈ rs, keep (nmA ks p.1) = J p.1 := fun p hp => by
        rw [Bool.eq_iff_iff]
        show (rs.any fun q => decide (nmA ks q.1 = nmA ks p.1) && J q.1) = true ↔ _
        rw [List.any_eq_true]
        constructor
        · rintro ⟨q, hq, h⟩
          rw [Bool.and_eq_true, decide_eq_true_eq] at h
          have := injm _ _ (rlt q hq) (rlt p hp) h.1
          rw [← this]
          exact h.2
        · intro h
          exact ⟨p, hp, by rw [Bool.and_eq_true, decide_eq_true_eq]; exact ⟨rfl, h⟩⟩
      refine ⟨dk, .dK (rootD ks rs), I.atk, trivial, fun od => ⟨.ref dk, rfl, dk, od, rfl, .inl ⟨_, upd_same, fun D hD => ?_⟩⟩⟩
      have nDk : D ≠ dk := fun e => by
        rw [e, upd_same] at hD
        cases hD
      have hD1 : H1 D = none := by rwa [upd_ne nDk] at hD
      refine lc_keepS (walk_dkeys (rootD_fst ks rs)) (by simp) (keep := keep) rl hD (fun G s => s _ _ upd_same) (fun x G sG hx N M hN hM => ?_) fun G sG eG => ?_
      · obtain ⟨p, hp, rfl⟩ := List.mem_map.mp hx
        obtain ⟨np1, np2, _, Kr, eKr, _, hKr⟩ := I.kd p hp
        have off : ∀ b o, b ≠ dk → H1 b = some o → G b = some o := fun b o hb e => sG b o (by rw [upd_ne hb]; exact e)
        obtain ⟨dx, t, a1, a2⟩ := id Ak
        have AG : AskAt CA G a k := ⟨dx, t, off _ _ (fun e => by rw [e, I.atk] at a1; cases a1) a1, off _ _ (fun e => by rw [e, I.atk] at a2; cases a2) a2⟩
        obtain ⟨dx', fs', hI⟩ := AG.ins
        refine ⟨rfl, .ref a, rfl, a, dx', fs', rfl, hI, a, k, rfl, AG, fun l1 nl1 => ?_⟩
        have s1 := Same.fresh (o := .lst (k.ks.map V.str)) nl1
        refine ⟨.ref dk, rfl, .str (nmA ks p.1), rfl, dk, .ref p.2, rfl, .inl ⟨rootD ks rs, .inr (nmA ks p.1), .inr ⟨od, s1 _ _ (sG _ _ upd_same)⟩, rfl, (valV_root injm rlt I.nd hp).symm⟩, ?_⟩
        refine ⟨l1, p.2, k.ks, Kr, rfl, SqL.of upd_same, s1 _ _ (off _ _ np2 eKr), by omega, fun G2 s2 => ⟨_, rfl, ?_⟩⟩
        rw [shareJ p hp Kr hKr, ← keepJ p hp]
        cases hb : keep (nmA ks p.1) with
        | true => exact iteT ⟨.str (nmA ks p.1), rfl, hN G2 (s1.trans s2) hb⟩
        | false => exact iteF (hM G2 (s1.trans s2) hb)
      · have eD : (rs.map fun p => nmA ks p.1).filter keep = (rs.filter fun p => J p.1).map fun p => nmA ks p.1 := by
          rw [List.filter_map]
          congr 1
          exact List.filter_congr fun p hp => keepJ p hp
        rw [eD] at eG
        generalize hjs : rs.filter (fun p => J p.1) = js at eG
        have jsr : ∀ p, p ∈ js ↔ p ∈ rs ∧ J p.1 = true := fun p => by rw [← hjs, List.mem_filter]
        refine ⟨sG _ _ upd_same, ?_⟩
        have nGD : D ≠ dk := nDk
        -- unlocked
        generalize hH2 : upd G dk (.dK (rootD ks rs)) = H2
        have s12 : Same H1 H2 := fun b o e => by
          by_cases hb : b = dk
          · rw [hb, I.atk] at e
            rw [hb, ← hH2, upd_same]
            exact e
          · rw [← hH2, upd_ne hb]
            exact sG b o (by rw [upd_ne hb]; exact e)
        have eD2 : H2 D = some (.lst ((js.map fun p => nmA ks p.1).map V.str)) := by
          rw [← hH2, upd_ne nDk]
          exact eG
        have A2 := Ak.same s12
        obtain ⟨dx2, fs2, hI2⟩ := A2.ins
        refine ⟨.ref a, rfl, a, dx2, fs2, rfl, hI2, a, k, rfl, A2, fun l2 nl2 => ⟨l2, rfl, ⟨_, SqL.of upd_same⟩, fun dn ndn => ?_⟩⟩
        have s23 := Same.fresh (o := .lst (k.ks.map V.str)) nl2
        have nln : dn ≠ l2 := fun e => by
          rw [e, upd_same] at ndn
          cases ndn
        refine dc_it walk_list_strs (fun i G3 => Same (upd H2 l2 (.lst (k.ks.map V.str))) G3 ∧ G3 dn = some (.dK (sk (insAll [] (k.ks.take i))))) ⟨Same.fresh ndn, by rw [upd_same]; rfl⟩ (fun i G3 _ p => SqL.of (p.1 _ _ upd_same)) ?_ ?_
        · rintro i v G3 G3' hi ⟨s3, e3⟩ ⟨rfl, hv⟩
          obtain ⟨c, hc, rfl⟩ := str_at hv
          refine ⟨rfl, ?_⟩
          unfold tYes
          show (if true = true then _ else _)
          rw [if_pos rfl]
          refine ⟨.str c, rfl, sk (insAll [] (k.ks.take i)), .inr c, rfl, e3, ?_, s3.put ndn, ?_⟩
          · have hn : (insAll [] (k.ks.take i)).Nodup := nd_insAll List.nodup_nil
            have := nodup_le _ U hn fun y hy => by
              rcases mem_insAll.mp hy with h | h
              · cases h
              · exact kU y (List.mem_of_mem_take h)
            unfold sk
            rw [List.length_map, sizeLine_eq]
            omega
          · rw [upd_same, putK_sk, List.take_add_one, hc]
            show _ = some (HO.dK (sk (insAll [] (k.ks.take i ++ [c]))))
            unfold insAll
            rw [List.foldl_append]
            rfl
        · rintro H3 ⟨s3, e3⟩
          rw [List.take_length] at e3
          have s03 : Same H1 H3 := s12.trans (s23.trans s3)
          have eD3 : H3 D = some (.lst ((js.map fun p => nmA ks p.1).map V.str)) := s3 _ _ (s23 _ _ eD2)
          have ep3 := s03 _ _ I.atp
          have ek3 := s03 _ _ I.atk
          have ndn1 : H1 dn = none := Same.free (s12.trans s23) ndn
          have npn : dn ≠ dp := fun e => by rw [e, I.atp] at ndn1; cases ndn1
          have nkn : dn ≠ dk := fun e => by rw [e, I.atk] at ndn1; cases ndn1
          have nDp : D ≠ dp := fun e => by rw [e, I.atp] at hD1; cases hD1
          have nDn : D ≠ dn := fun e => by
            have : (upd H2 l2 (.lst (k.ks.map V.str))) D = some _ := s23 _ _ eD2
            rw [e, ndn] at this
            cases this
          have ndn0 : H dn = none := Same.free I.same ndn1
          refine ⟨.ref D, rfl, D, rfl, ⟨_, SqL.of eD3⟩, for_list (K := K) (a := D) (xs := (js.map fun p => nmA ks p.1).map V.str) (fun t σ G4 => ∃ Kt v6 v7, σ = [some (.ref l), some (.ref dp), some (.ref dk), some (.ref a), some (.ref D), some (.ref dn), v6, v7] ∧
              Kept (fun b => b = dp ∨ b = dk ∨ b = dn) H3 G4 ∧ G4 dp = some (.dK (keyed (nmA ks) (fun i => if i ∈ (js.take t).map Prod.fst then .str k.nm else parV ks ps i) m)) ∧ G4 dk = some (.dK (rootD ks (rs.filter fun q => decide (q.1 ∉ (js.take t).map Prod.fst)))) ∧
              G4 dn = some (.dK (sk Kt)) ∧ Kt.Nodup ∧ ∀ x, x ∈ Kt ↔ x ∈ k.ks ∨ ∃ q ∈ js.take t, ∃ i, Root ps i q.1 ∧ x ∈ fitsA ks i)
            ⟨insAll [] k.ks, _, _, rfl, Kept.refl, ?_, ?_, e3, nd_insAll List.nodup_nil, fun x => ?_⟩ (fun i σ G4 _ ⟨_, _, _, _, kk, _⟩ => SqL.of (kk _ _ (fun e => e.elim nDp fun e => e.elim nDk nDn) eD3)) ?_ ?_⟩
          · rw [ep3]
            show some (HO.dK (keyed _ _ ps.length)) = _
            rw [hm]
            refine congrArg some (congrArg HO.dK (keyed_congr fun i _ => ?_))
            simp
          · rw [ek3]
            congr 3
            exact (List.filter_eq_self.mpr fun q _ => by simp).symm
          · rw [mem_insAll]
            simp
          · rintro t x σ G4 hx ⟨Kt, v6, v7, rfl, kk, e1, e2, e4, ndK, hKt⟩
            obtain ⟨y, hy, rfl⟩ := str_at hx
            rw [List.getElem?_map] at hy
            obtain ⟨p, hp, rfl⟩ : ∃ p, js[t]? = some p ∧ nmA ks p.1 = y := by
              cases e : js[t]? with
              | none => rw [e] at hy; cases hy
              | some p => rw [e] at hy; exact ⟨p, rfl, Option.some.inj hy⟩
            obtain ⟨pr, pJ⟩ := (jsr p).mp (List.mem_of_getElem? hp)
            obtain ⟨np1, np2, np0, Kr, eKr, nKr, hKr⟩ := I.kd p pr
            have np3 : p.2 ≠ dn := fun e => by rw [e, ndn1] at eKr; cases eKr
            have off : ∀ b o, b ≠ dp → b ≠ dk → b ≠ dn → H3 b = some o → G4 b = some o := fun b o h1 h2 h3 e => kk b o (fun z => z.elim h1 fun z => z.elim h2 h3) e
            have A4 : AskAt CA G4 a k := by
              obtain ⟨dx, tt, a1, a2⟩ := Ak.same s03
              exact ⟨dx, tt, off _ _ (fun e => by rw [e, ep3] at a1; cases a1) (fun e => by rw [e, ek3] at a1; cases a1) (fun e => by rw [e, e3] at a1; cases a1) a1,
                off _ _ (fun e => by rw [e, ep3] at a2; cases a2) (fun e => by rw [e, ek3] at a2; cases a2) (fun e => by rw [e, e3] at a2; cases a2) a2⟩
            obtain ⟨dx4, fs4, hI4⟩ := A4.ins
            have eK4 : G4 p.2 = some (.dK (sk Kr)) := off _ _ np1 np2 np3 (s03 _ _ eKr)
            have plt := rlt p pr
            have jnd : (js.map Prod.fst).Nodup := by
              rw [← hjs]
              exact I.nd.sublist (List.filter_sublist.map _)
            have pnew : p.1 ∉ (js.take t).map Prod.fst := fun h => by
              rw [List.map_take] at h
              obtain ⟨i, hi⟩ := List.mem_iff_getElem?.mp h
              have hit : i < t := by
                have := (List.getElem?_eq_some_iff.mp hi).1
                rw [List.length_take] at this
                omega
              rw [List.getElem?_take_of_lt hit] at hi
              have hp' : (js.map Prod.fst)[t]? = some p.1 := by
                rw [List.getElem?_map, hp]
                rfl
              have := getElem?_inj' jnd hi hp'
              omega
            refine ⟨.ref a, rfl, a, dx4, fs4, rfl, hI4, a, k, rfl, A4, .ref dp, rfl, .str (nmA ks p.1), rfl, dp, _, rfl, DPut.k (k := .inr (nmA ks p.1)) e1 (by rw [keyed_length, sizeLine_eq]; omega), ?_⟩
            rw [putK_keyed injm plt]
            have e4' : ∀ o, upd G4 dp o dn = some (.dK (sk Kt)) := fun o => by rw [upd_ne npn]; exact e4
            have e2' : ∀ o, upd G4 dp o dk = some (.dK (rootD ks (rs.filter fun q => decide (q.1 ∉ (js.take t).map Prod.fst)))) := fun o => by rw [upd_ne nkp]; exact e2
            have prf : p ∈ rs.filter fun q => decide (q.1 ∉ (js.take t).map Prod.fst) := List.mem_filter.mpr ⟨pr, decide_eq_true pnew⟩
            have ndf : ((rs.filter fun q => decide (q.1 ∉ (js.take t).map Prod.fst)).map Prod.fst).Nodup := I.nd.sublist (List.filter_sublist.map _)
            have ltf : ∀ q ∈ rs.filter (fun q => decide (q.1 ∉ (js.take t).map Prod.fst)), q.1 < m := fun q hq => rlt q (List.mem_filter.mp hq).1
            refine ⟨.ref dn, rfl, .inr (.inr (.inl ⟨rfl, .inl ⟨_, e4' _⟩⟩)), .ref dk, rfl, dk, rfl, .inl ⟨_, .inl (e2' _)⟩, .str (nmA ks p.1), rfl, _, .inr (nmA ks p.1), .ref p.2, e2' _, rfl, valV_root injm ltf ndf prf, ?_⟩
            rw [dropK_root injm ltf plt]
            have KtU : ∀ x ∈ Kt, x ∈ U := fun x hx => by
              rcases (hKt x).mp hx with h | ⟨q, _, i, _, h⟩
              · exact kU x h
              · exact fU i x h
            have KrU : ∀ x ∈ Kr, x ∈ U := fun x hx => by
              obtain ⟨i, _, h⟩ := (hKr x).mp hx
              exact fU i x h
            have z1 := nodup_le _ U ndK KtU
            have z2 := nodup_le _ U nKr KrU
            refine ⟨dn, p.2, sk Kt, sk Kr, rfl, rfl, by rw [upd_ne nkn]; exact e4' _, by rw [upd_ne np2, upd_ne np1]; exact eK4, Ne.symm np3, ?_, ?_⟩
            · unfold sk
              rw [List.length_map, List.length_map, sizeLine_eq]
              omega
            · rw [mergeK_sk]
              have etk : js.take (t + 1) = js.take t ++ [p] := by
                rw [List.take_add_one, hp]
                rfl
              refine ⟨insAll Kt Kr, _, _, rfl, fun b o hb e => ?_, ?_, ?_, upd_same, nd_insAll ndK, fun x => ?_⟩
              · have h1 : b ≠ dp := fun z => hb (.inl z)
                have h2 : b ≠ dk := fun z => hb (.inr (.inl z))
                have h3 : b ≠ dn := fun z => hb (.inr (.inr z))
                rw [upd_ne h3, upd_ne h2, upd_ne h1]
                exact off b o h1 h2 h3 e
              · rw [upd_ne (Ne.symm npn), upd_ne (Ne.symm nkp), upd_same]
                congr 2
                refine keyed_congr fun i _ => ?_
                rw [etk]
                by_cases hi : i = p.1
                · subst hi
                  simp
                · simp [hi]
              · rw [upd_ne (Ne.symm nkn), upd_same]
                congr 3
                rw [List.filter_filter]
                refine List.filter_congr fun q _ => ?_
                rw [etk]
                by_cases hq : q.1 = p.1
                · simp [hq]
                · simp [hq]
              · rw [mem_insAll, hKt, hKr, etk]
                constructor
                · rintro ((h | ⟨q, h1, h2⟩) | h)
                  · exact .inl h
                  · exact .inr ⟨q, List.mem_append_left _ h1, h2⟩
                  · exact .inr ⟨p, List.mem_append_right _ (List.mem_singleton.mpr rfl), h⟩
                · rintro (h | ⟨q, h1, h2⟩)
                  · exact .inl (.inl h)
                  · rcases List.mem_append.mp h1 with h1 | h1
                    · exact .inl (.inr ⟨q, h1, h2⟩)
                    · obtain rfl := List.mem_singleton.mp h1
                      exact .inr h2
          · rintro σ G4 ⟨Kt, v6, v7, rfl, kk, e1, e2, e4, ndK, hKt⟩
            have tl : js.take ((js.map fun p => nmA ks p.1).map V.str).length = js := by
              rw [List.length_map, List.length_map, List.take_length]
            rw [tl] at e1 e2 hKt
            have off : ∀ b o, b ≠ dp → b ≠ dk → b ≠ dn → H3 b = some o → G4 b = some o := fun b o h1 h2 h3 e => kk b o (fun z => z.elim h1 fun z => z.elim h2 h3) e
            have A4 : AskAt CA G4 a k := by
              obtain ⟨dx, tt, a1, a2⟩ := Ak.same s03
              exact ⟨dx, tt, off _ _ (fun e => by rw [e, ep3] at a1; cases a1) (fun e => by rw [e, ek3] at a1; cases a1) (fun e => by rw [e, e3] at a1; cases a1) a1,
                off _ _ (fun e => by rw [e, ep3] at a2; cases a2) (fun e => by rw [e, ek3] at a2; cases a2) (fun e => by rw [e, e3] at a2; cases a2) a2⟩
            obtain ⟨dx4, fs4, hI4⟩ := A4.ins
            have A5 : ∀ o, AskAt CA (upd G4 dp o) a k := fun o => by
              obtain ⟨dx, tt, a1, a2⟩ := A4
              exact ⟨dx, tt, by rw [upd_ne (fun e => by rw [e, e1] at a1; cases a1)]; exact a1, by rw [upd_ne (fun e => by rw [e, e1] at a2; cases a2)]; exact a2⟩
            have jm : ∀ i, i ∈ js.map Prod.fst ↔ ps[i]? = some none ∧ J i = true := fun i => by
              constructor
              · intro h
                obtain ⟨p, hp, rfl⟩ := List.mem_map.mp h
                obtain ⟨h1, h2⟩ := (jsr p).mp hp
                exact ⟨(I.mem p.1).mp (List.mem_map.mpr ⟨p, h1, rfl⟩), h2⟩
              · rintro ⟨h1, h2⟩
                obtain ⟨p, hp, rfl⟩ := List.mem_map.mp ((I.mem i).mpr h1)
                exact List.mem_map.mpr ⟨p, (jsr p).mpr ⟨hp, h2⟩, rfl⟩
            have injm1 : InjB (nmA ks) (m + 1) := fun i j hi hj => inj i j (by omega) (by omega)
            refine ⟨.ref dp, rfl, .ref a, rfl, a, dx4, fs4, rfl, hI4, a, k, rfl, A4, dp, _, rfl, DPut.k (k := .inr k.nm) e1 (by rw [keyed_length, sizeLine_eq]; omega), ?_⟩
            obtain ⟨dx5, fs5, hI5⟩ := (A5 (.dK (putK (keyed (nmA ks) (fun i => if i ∈ js.map Prod.fst then .str k.nm else parV ks ps i) m) (.inr k.nm) .non))).ins
            have e25 : ∀ o, upd G4 dp o dk = some (.dK (rootD ks (rs.filter fun q => decide (q.1 ∉ js.map Prod.fst)))) := fun o => by rw [upd_ne nkp]; exact e2
            refine ⟨.ref dn, rfl, .ref dk, rfl, .ref a, rfl, a, dx5, fs5, rfl, hI5, a, k, rfl, A5 _, dk, _, rfl, DPut.k (k := .inr k.nm) (e25 _) ?_, ?_⟩
            · have := List.length_filter_le (fun q : Nat × Addr => decide (q.1 ∉ js.map Prod.fst)) rs
              have r2 := rl
              unfold rootD
              rw [List.length_map] at r2 ⊢
              rw [sizeLine_eq]
              omega
            · have hjF : ∀ q : Nat × Addr, q ∈ rs.filter (fun q => decide (q.1 ∉ js.map Prod.fst)) ↔ q ∈ rs ∧ J q.1 = false := fun q => by
                rw [List.mem_filter, decide_eq_true_eq, jm]
                constructor
                · rintro ⟨h1, h2⟩
                  refine ⟨h1, Bool.eq_false_iff.mpr fun z => h2 ⟨(I.mem q.1).mp (List.mem_map.mpr ⟨q, h1, rfl⟩), z⟩⟩
                · rintro ⟨h1, h2⟩
                  exact ⟨h1, fun z => by rw [h2] at z; exact Bool.noConfusion z.2⟩
              have up := I.el.up
              have hJ' : ∀ r, ps[r]? = some none → (J r = true ↔ ∃ i, Root ps i r ∧ lkA ks ps.length i = true) := fun r _ => by rw [hm]; exact hJ r
              have valn : valV (rootD ks (rs.filter fun q => decide (q.1 ∉ js.map Prod.fst))) (.inr k.nm) = none := by
                cases e : valV (rootD ks (rs.filter fun q => decide (q.1 ∉ js.map Prod.fst))) (.inr k.nm) with
                | none => rfl
                | some v =>
                  obtain ⟨q, hq, eq⟩ := List.mem_map.mp (valV_in e)
                  obtain ⟨p, hp, rfl⟩ := List.mem_map.mp hq
                  have en : nmA ks p.1 = k.nm := Sum.inr.inj eq
                  rw [← nmk] at en
                  have := inj p.1 m (by have := rlt p ((hjF p).mp hp).1; omega) hml en
                  have := rlt p ((hjF p).mp hp).1
                  omega
              refine ⟨addP ps J, (rs.filter fun q => decide (q.1 ∉ js.map Prod.fst)) ++ [(m, dn)], _, _, _, _, _, rfl, ⟨fun b o e => ?_, ?_, ?_, I.el.add (lkA_sym ks) hJ', ?_, fun r => ?_, fun p hp => ?_⟩, by rw [addP_length, hm]⟩
              · have h1 : b ≠ dp := fun z => by rw [z, ndp] at e; cases e
                have h2 : b ≠ dk := fun z => by rw [z, ndk0] at e; cases e
                have h3 : b ≠ dn := fun z => by rw [z, ndn0] at e; cases e
                rw [upd_ne h2, upd_ne h1]
                exact off b o h1 h2 h3 (s03 _ _ (I.same _ _ e))
              · rw [upd_ne (Ne.symm nkp), upd_same, ← nmk, putK_keyed_new injm1]
                unfold parD
                rw [addP_length, hm]
                congr 2
                refine keyed_congr fun i hi => ?_
                rcases Nat.lt_or_ge i m with lt | ge
                · rw [if_neg (by omega)]
                  by_cases hj : i ∈ js.map Prod.fst
                  · rw [if_pos hj]
                    have e : (addP ps J)[i]? = some (some m) := addP_some.mpr (.inr ⟨((jm i).mp hj).1, ((jm i).mp hj).2, hm.symm⟩)
                    simp only [parV, e]
                  · rw [if_neg hj]
                    have : (addP ps J)[i]? = some (ps[i]?.getD none) := by
                      rw [addP_old (by omega), if_neg fun z => hj ((jm i).mpr z)]
                    have e2 : ps[i]? = some (ps[i]?.getD none) := by
                      rw [List.getElem?_eq_getElem (by omega)]
                      rfl
                    unfold parV
                    rw [this, ← e2]
                · obtain rfl : i = m := by omega
                  rw [if_pos rfl]
                  have : (addP ps J)[i]? = some none := by rw [← hm]; exact addP_new
                  simp only [parV, this]
              · rw [upd_same, putK_new _ valn]
                unfold rootD
                rw [List.map_append, ← nmk]
                rfl
              · rw [List.map_append, List.nodup_append]
                refine ⟨I.nd.sublist (List.filter_sublist.map _), by simp, fun i hi j hj e => ?_⟩
                obtain ⟨p, hp, rfl⟩ := List.mem_map.mp hi
                have h1 := rlt p ((hjF p).mp hp).1
                have h2 : j = m := by simpa using hj
                omega
              · rw [addP_none, List.map_append, List.mem_append]
                constructor
                · rintro (h | h)
                  · obtain ⟨p, hp, rfl⟩ := List.mem_map.mp h
                    obtain ⟨h1, h2⟩ := (hjF p).mp hp
                    exact .inr ⟨(I.mem p.1).mp (List.mem_map.mpr ⟨p, h1, rfl⟩), h2⟩
                  · left
                    rw [hm]
                    simpa using h
                · rintro (h | ⟨h1, h2⟩)
                  · right
                    rw [hm] at h
                    simpa using h
                  · left
                    obtain ⟨p, hp, rfl⟩ := List.mem_map.mp ((I.mem r).mpr h1)
                    exact List.mem_map.mpr ⟨p, (hjF p).mpr ⟨hp, h2⟩, rfl⟩
              · rcases List.mem_append.mp hp with hp | hp
                · obtain ⟨h1, h2⟩ := (hjF p).mp hp
                  obtain ⟨np1, np2, np0, Kr, eKr, nKr, hKr⟩ := I.kd p h1
                  have np3 : p.2 ≠ dn := fun e => by rw [e, ndn1] at eKr; cases eKr
                  have plt := rlt p h1
                  refine ⟨np1, np2, np0, Kr, by rw [upd_ne np2, upd_ne np1]; exact off _ _ np1 np2 np3 (s03 _ _ eKr), nKr, fun x => ?_⟩
                  rw [hKr]
                  have hroot : ∀ i, Root (addP ps J) i p.1 ↔ Root ps i p.1 := fun i => by
                    unfold Root
                    rw [anc_old (by omega), addP_none]
                    constructor
                    · rintro ⟨z1, z2⟩
                      exact ⟨z1, z2.elim (fun z => by omega) fun z => z.1⟩
                    · rintro ⟨z1, z2⟩
                      exact ⟨z1, .inr ⟨z2, h2⟩⟩
                  exact ⟨fun ⟨i, z1, z2⟩ => ⟨i, (hroot i).mpr z1, z2⟩, fun ⟨i, z1, z2⟩ => ⟨i, (hroot i).mp z1, z2⟩⟩
                · obtain rfl : p = (m, dn) := by simpa using hp
                  refine ⟨npn, nkn, ndn0, Kt, by rw [upd_ne nkn, upd_ne npn]; exact e4, ndK, fun x => ?_⟩
                  rw [hKt]
                  show _ ↔ ∃ i, Root (addP ps J) i m ∧ _
                  have top : (addP ps J)[m]? = some none := by rw [← hm]; exact addP_new
                  constructor
                  · rintro (h | ⟨q, hq, i, hi, hx⟩)
                    · exact ⟨m, ⟨.refl m, top⟩, by rw [fmk]; exact h⟩
                    · have hlt := hi.1.le up
                      have ql := rlt q ((jsr q).mp hq).1
                      have := (anc_new (J := J) up (i := i) (by omega)).mpr ⟨q.1, hi, ((jsr q).mp hq).2⟩
                      rw [hm] at this
                      exact ⟨i, ⟨this, top⟩, hx⟩
                  · rintro ⟨i, ⟨hi, _⟩, hxx⟩
                    have le := hi.le (addP_up up)
                    rcases Nat.lt_or_ge i m with lt | ge
                    · rw [← hm] at hi
                      obtain ⟨r, hr, j⟩ := (anc_new (J := J) up (i := i) (by omega)).mp hi
                      obtain ⟨q, hq, e⟩ := List.mem_map.mp ((jm r).mpr ⟨hr.2, j⟩)
                      exact .inr ⟨q, hq, i, by rw [e]; exact hr, hxx⟩
                    · obtain rfl : i = m := by omega
                      rw [fmk] at hxx
                      exact .inl hxx
    · rintro σ H1 ⟨ps, rs, v3, v4, v5, v6, v7, rfl, I, hm⟩
      refine ⟨.ref dp, rfl, q H1 dp ps I.same ndp I.atp I.el (by rw [hm, List.length_map]; exact hla)⟩
end
end Eld
end L2

set_option Elab.async false
set_option linter.all false
set_option maxRecDepth 100000
set_option maxHeartbeats 4000000
/-! ## forebears, groups -/
namespace L2
namespace Eld
open PySem PySem.Spec PyProof.Rows PySem.EldX
def lastV (ks : List Ask) : List Nat → V
  | [] => .non
  | j :: _ => .str (nmA ks j)
theorem parV_fore {ks : List Ask} {ps : List (Option Nat)} {i : Nat} {fs : List Nat} (h : Fore ps i fs) : parV ks ps i = lastV ks fs := by
  cases h with
  | top e => simp only [parV, e, lastV]
  | up e _ => simp only [parV, e, lastV]
theorem Fore.lt0 {ps : List (Option Nat)} {i : Nat} {fs : List Nat} (h : Fore ps i fs) : i < ps.length := by
  cases h with
  | top e => exact (List.getElem?_eq_some_iff.mp e).1
  | up e _ => exact (List.getElem?_eq_some_iff.mp e).1
theorem Fore.rest {ps : List (Option Nat)} {i j : Nat} {fs : List Nat} (h : Fore ps i (j :: fs)) : Fore ps j fs := by
  cases h with
  | up _ r => exact r
theorem rd_same {H H' : Hp} {a : Addr} {u : HO} (s : Same H H') (h : Rd H a u) : Rd H' a u := by
  rcases h with h | ⟨o, h⟩
  · exact .inl (s _ _ h)
  · exact .inr ⟨o, s _ _ h⟩
theorem nodup_leN : ∀ (l m : List Nat), l.Nodup → (∀ y ∈ l, y ∈ m) → l.length ≤ m.length
  | [], _, _, _ => Nat.zero_le _
  | x :: l, m, hn, hm => by
    obtain ⟨a, b, rfl⟩ := List.append_of_mem (hm x (List.mem_cons_self ..))
    rw [List.nodup_cons] at hn
    have := nodup_leN l (a ++ b) hn.2 fun y hy => by
      rcases List.mem_append.mp (hm y (List.mem_cons_of_mem _ hy)) with h | h
      · exact List.mem_append_left _ h
      · rcases List.mem_cons.mp h with h | h
        · subst h
          exact absurd hy hn.1
        · exact List.mem_append_right _ h
    rw [List.length_append] at this
    rw [List.length_cons, List.length_append, List.length_cons]
    omega
theorem nodup_sub_len {n : Nat} : ∀ {xs : List Nat}, xs.Nodup → (∀ x ∈ xs, x < n) → xs.length ≤ n := fun {xs} nd h => by
  have := nodup_leN xs (List.range n) nd fun x hx => List.mem_range.mpr (h x hx)
  simpa using this
abbrev nmsV (ks : List Ask) (ys : List Nat) : List V := ys.map fun y => V.str (nmA ks y)
section
variable {P : Program} {w : World} {K : PySem.W.Frag} {mg : Str → Option Value} {base : Heap} {CA fI pN gN pF gF pM gM fE CL fLI fLE fLL fLA fLN fLK fLR fLP : Addr}
/-! ### _forebears -/
def spFore : Sp := fun vs H Q _ => ∃ (d : Addr) (ks : List Ask) (ps : List (Option Nat)) (i : Nat) (fs : List Nat), vs = [.ref d, .str (nmA ks i)] ∧ Rd H d (.dK (parD ks ps)) ∧ InjB (nmA ks) ps.length ∧ Fore ps i fs ∧ fs.length ≤ 900 ∧
  ∀ (H' : Hp) (p : Addr), Same H H' → H p = none → H' p = some (.lst (nmsV ks fs)) → Q (.ref p) H'
theorem ok_fore {f : Addr} {fd : FuncData} {k : Nat} (F : Fun K "_forebears" "_forebears" sForebears f fd) : FnOk P w K mg base CX0 (k + 1) f fd ["parents", "name"] spFore := by
  refine F.ok scForebears (fun vs H Q E h => ?_) (fun cdv A outer s H vs Q E hr h => ?_)
  · obtain ⟨d, ks, ps, i, fs, rfl, _⟩ := h
    rfl
  · obtain ⟨d, ks, ps, i, fs, rfl, hd, inj, hf, hz, q⟩ := h
    refine ⟨_, (pss_cons (ps_set (i := 2) scForebears.nd rfl (.inl rfl) (pe_lst pa_nil))
      (pss_cons (ps_set (i := 3) scForebears.nd rfl (.inl rfl) (pe_dget (hu_of hr) (pv 0) (pv 1) (fun _ _ => rfl)))
      (pss_cons (ps_while PassesOwn.never (pt_cmp (pc_notN (pv 3)))
        (pss_cons (ps_expr (pe_bm PySem.F.plainAttrs_list PySem.F.slot_list_append PySem.F.type_list_append mt_append (pv 2) (pa_cons (pv 3) pa_nil)))
      (pss_one (ps_set (i := 3) scForebears.nd rfl (.inl rfl) (pe_dget (hu_of hr) (pv 0) (pv 3) (fun _ _ => rfl))))))
      (pss_one (ps_ret (pv 2)))))), ?_⟩
    refine ⟨(by show 0 ≤ sizeLine; decide), fun fp nfp => ?_⟩
    have s1 := Same.fresh (o := .lst []) nfp
    refine ⟨.ref d, rfl, .str (nmA ks i), rfl, d, parV ks ps i, rfl, .inl ⟨_, .inr (nmA ks i), rd_same s1 hd, rfl, (valV_keyed inj hf.lt0).symm⟩, ?_⟩
    rw [parV_fore hf]
    refine ⟨fun m σ H' => ∃ pre rest, fs = pre ++ rest ∧ m = rest.length ∧ σ = [some (.ref d), some (.str (nmA ks i)), some (.ref fp), some (lastV ks rest)] ∧ Same H H' ∧ H' fp = some (.lst (nmsV ks pre)) ∧ ∀ j r, rest = j :: r → Fore ps j r,
      ⟨fs.length, [], fs, rfl, rfl, rfl, s1, upd_same, fun j r e => by subst e; exact hf.rest⟩, ?_⟩
    rintro m σ H' ⟨pre, rest, e1, e2, rfl, sm, e3, hr'⟩
    cases rest with
    | nil =>
      refine ⟨.non, rfl, _, rfl, iteF ⟨.ref fp, rfl, ?_⟩⟩
      rw [List.append_nil] at e1
      subst e1
      exact q H' fp sm nfp e3
    | cons j r =>
      have fj := hr' j r rfl
      have lp : pre.length < 1000 := by
        rw [e1, List.length_append, List.length_cons] at hz
        omega
      refine ⟨.str (nmA ks j), rfl, _, rfl, iteT ⟨fun σ' H2 => ∃ m', m' < m ∧ _, fun σ' H2 h => h, ?_⟩⟩
      refine ⟨.ref fp, rfl, .inl ⟨rfl, _, SqL.of e3⟩, .str (nmA ks j), rfl, fp, _, _, rfl, rfl, e3, by rw [List.length_map, sizeLine_eq]; omega, ?_⟩
      have s2 : Same H (upd H' fp (.lst (nmsV ks pre ++ [.str (nmA ks j)]))) := sm.put nfp
      refine ⟨.ref d, rfl, .str (nmA ks j), rfl, d, parV ks ps j, rfl, .inl ⟨_, .inr (nmA ks j), rd_same s2 hd, rfl, (valV_keyed inj fj.lt0).symm⟩, ?_⟩
      rw [parV_fore fj]
      refine ⟨r.length, by rw [e2]; exact Nat.lt_succ_self _, pre ++ [j], r, by rw [e1, List.append_assoc]; rfl, rfl, rfl, s2, by rw [upd_same]; simp [nmsV], fun j' r' e => by subst e; exact fj.rest⟩
/-! ### _groups -/
noncomputable def ancB (ps : List (Option Nat)) (i : Nat) (y : Nat) : Bool := @decide (Anc ps y i) (Classical.propDecidable _)
theorem ancB_iff {ps : List (Option Nat)} {i y : Nat} : ancB ps i y = true ↔ Anc ps y i := @decide_eq_true_iff _ (Classical.propDecidable _)
def spGroups : Sp := fun vs H Q _ => ∃ (d : Addr) (ks : List Ask) (ps : List (Option Nat)), vs = [.ref d] ∧ H d = some (.dK (parD ks ps)) ∧ InjB (nmA ks) ps.length ∧ (∀ i j, ps[i]? = some (some j) → i < j ∧ j < ps.length) ∧ ps.length ≤ 900 ∧
  ∀ (H' : Hp) (p : Addr) (g : Nat → Addr), Same H H' → H p = none → H' p = some (.dK (keyed (nmA ks) (fun i => .ref (g i)) ps.length)) → (∀ i < ps.length, H (g i) = none ∧ H' (g i) = some (.lst (nmsV ks ((List.range ps.length).filter (ancB ps i))))) → Q (.ref p) H'
theorem ok_groups {f fFore : Addr} {fd dFore : FuncData} (F : Fun K "_groups" "_groups" sGroups f fd) (FFore : Fun K "_forebears" "_forebears" sForebears fFore dFore) (gFore : mg "_forebears" = some (.ref fFore)) : FnOk P w K mg base CX0 2 f fd ["parents"] spGroups := by
  have GFore : FnOk P w K mg base CX0 1 fFore dFore ["parents", "name"] spFore := ok_fore FFore
  have bFore : Binds K dFore ["parents", "name"] [] := FFore.binds fun _ _ _ _ _ _ us hl => match us, hl with | [_, _], _ => rfl
  refine F.ok scGroups (fun vs H Q E h => ?_) (fun cdv A outer s H vs Q E hr h => ?_)
  · obtain ⟨d, ks, ps, rfl, _⟩ := h
    rfl
  · obtain ⟨d, ks, ps, rfl, hd, inj, up, hz, q⟩ := h
    refine ⟨_, (pss_cons (ps_lock (ps_setDc (i := 1) (own := [("name", 2)]) (g := gName 2) (tt := tYes) rfl scGroups.nd rfl rfl (sw_trueD rfl rfl rfl (by decide +kernel)) (pi_keys (pv 0)) (blkOk_by (own := [("name", 2)]) (N := NGroups) (sc := defScope sGroups) (by decide +kernel)) (fun _ _ _ _ _ => pg_name (i := 2) scGroups.nd rfl (.inl rfl)) (fun _ _ _ _ _ => pts_nil) (fun _ _ _ _ _ => (pv 2)) (fun _ _ _ _ _ => (pe_lst pa_nil))))
      (pss_cons (ps_lock (ps_for PassesOwn.never rfl (pi_keys (pv 0)) (pg_name (i := 2) scGroups.nd rfl (.inl rfl))
        (pss_cons (ps_expr (pe_bm PySem.F.plainAttrs_list PySem.F.slot_list_append PySem.F.type_list_append mt_append (pe_dget (hu_of hr) (pv 1) (pv 2) (fun _ _ => rfl)) (pa_cons (pv 2) pa_nil)))
      (pss_one (ps_for PassesOwn.never rfl (pi_list (pe_call GFore (hr.mono (by decide)) (by rfl) gFore FFore.kp bFore .nil pass0 (pa_cons (pv 0) (pa_cons (pv 2) pa_nil)))) (pg_name (i := 3) scGroups.nd rfl (.inl rfl))
        (pss_one (ps_expr (pe_bm PySem.F.plainAttrs_list PySem.F.slot_list_append PySem.F.type_list_append mt_append (pe_dget (hu_of hr) (pv 1) (pv 3) (fun _ _ => rfl)) (pa_cons (pv 2) pa_nil)))))))))
      (pss_one (ps_ret (pv 1))))), ?_⟩
    generalize hn : ps.length = n at inj hz q
    have kf : (parD ks ps).map Prod.fst = ((List.range n).map (nmA ks)).map .inr := by
      unfold parD keyed
      rw [List.map_map, List.map_map, hn]
      rfl
    have nl : ((List.range n).map (nmA ks)).length = n := by simp
    refine ⟨d, .dK (parD ks ps), hd, trivial, fun od => ⟨.ref d, rfl, d, od, rfl, .inl ⟨_, upd_same, fun D hD => ?_⟩⟩⟩
    have nDd : D ≠ d := fun e => by
      rw [e, upd_same] at hD
      cases hD
    have hD0 : H D = none := by rwa [upd_ne nDd] at hD
    have w1 := walk_dkeys (d := d) (o := od) kf
    rw [nl] at w1
    refine dc_it w1 (fun i G => ∃ g : Nat → Addr, Same (upd H d (.frz od (.dK (parD ks ps)))) G ∧ G D = some (.dK (keyed (nmA ks) (fun j => .ref (g j)) i)) ∧ (∀ j < i, G (g j) = some (.lst []) ∧ upd H d (.frz od (.dK (parD ks ps))) (g j) = none ∧ g j ≠ D) ∧ ∀ j k, j < i → k < i → g j = g k → j = k)
      ⟨fun _ => 0, Same.fresh hD, by rw [upd_same]; rfl, fun j hj => (nomatch hj), fun j k hj => (nomatch hj)⟩ (fun i G _ ⟨g, s, _⟩ => s _ _ upd_same) ?_ ?_
    · rintro i v G G' hi ⟨g, sG, e1, hg, gi⟩ ⟨rfl, hv⟩
      obtain ⟨y, hy, rfl⟩ := str_at hv
      obtain rfl : nmA ks i = y := by
        rw [List.getElem?_map, List.getElem?_range hi] at hy
        exact Option.some.inj hy
      refine ⟨rfl, ?_⟩
      unfold tYes
      show (if true = true then _ else _)
      rw [if_pos rfl]
      refine ⟨.str (nmA ks i), rfl, (by show 0 ≤ sizeLine; decide), fun a na => ?_⟩
      have naD : a ≠ D := fun e => by
        rw [e, e1] at na
        cases na
      have na0 := Same.free sG na
      have gia : ∀ j < i, g j ≠ a := fun j hj e => by
        have := (hg j hj).1
        rw [e, na] at this
        cases this
      refine ⟨_, .inr (nmA ks i), rfl, by rw [upd_ne (Ne.symm naD)]; exact e1, by rw [keyed_length, sizeLine_eq]; omega, fun j => if j = i then a else g j, (sG.trans (Same.fresh na)).put hD, ?_, fun j hj => ?_, fun j k hj hk e => ?_⟩
      · rw [upd_same, putK_keyed_new fun p r hp hr => inj p r (by omega) (by omega)]
        refine congrArg some (congrArg HO.dK (keyed_congr fun j hj => ?_))
        by_cases e : j = i
        · simp [e]
        · simp [e]
      · by_cases e : j = i
        · subst e
          simp only [if_true]
          exact ⟨by rw [upd_ne naD]; exact upd_same, na0, naD⟩
        · obtain ⟨h1, h2, h3⟩ := hg j (by omega)
          simp only [if_neg e]
          exact ⟨by rw [upd_ne h3, upd_ne (gia j (by omega))]; exact h1, h2, h3⟩
      · by_cases e1 : j = i
        · by_cases e2 : k = i
          · omega
          · simp only [if_pos e1, if_neg e2] at e
            exact absurd e.symm (gia k (by omega))
        · by_cases e2 : k = i
          · simp only [if_neg e1, if_pos e2] at e
            exact absurd e (gia j (by omega))
          · simp only [if_neg e1, if_neg e2] at e
            exact gi j k (by omega) (by omega) e
    · rintro G ⟨g, sG, e1, hg, gi⟩
      refine ⟨sG _ _ upd_same, ?_⟩
      generalize hH1 : upd G d (.dK (parD ks ps)) = H1
      have ed1 : H1 d = some (.dK (parD ks ps)) := by rw [← hH1, upd_same]
      have s01 : Same H H1 := fun b o e => by
        by_cases hb : b = d
        · rw [hb, hd] at e
          rw [hb, ed1]
          exact e
        · rw [← hH1, upd_ne hb]
          exact sG b o (by rw [upd_ne hb]; exact e)
      have ngd : ∀ j < n, g j ≠ d := fun j hj e => by
        have := (hg j hj).2.1
        rw [e, upd_same] at this
        cases this
      have hg0 : ∀ j < n, H (g j) = none := fun j hj => by
        have := (hg j hj).2.1
        rwa [upd_ne (ngd j hj)] at this
      have eD1 : H1 D = some (.dK (keyed (nmA ks) (fun j => .ref (g j)) n)) := by rw [← hH1, upd_ne nDd]; exact e1
      have eg1 : ∀ j < n, H1 (g j) = some (.lst []) := fun j hj => by rw [← hH1, upd_ne (ngd j hj)]; exact (hg j hj).1
      have ngD : ∀ j < n, g j ≠ D := fun j hj => (hg j hj).2.2
      refine ⟨d, .dK (parD ks ps), ed1, trivial, fun od => ⟨.ref d, rfl, d, od, rfl, .inl ⟨_, upd_same, ?_⟩⟩⟩
      have w2 := walk_dkeys (d := d) (o := od) kf
      rw [nl] at w2
      let S : Addr → Prop := fun b => ∃ j, j < n ∧ b = g j
      have nSd : ¬ S d := fun ⟨j, hj, e⟩ => ngd j hj e.symm
      have nSD : ¬ S D := fun ⟨j, hj, e⟩ => ngD j hj e.symm
      let F1 := upd H1 d (.frz od (.dK (parD ks ps)))
      have eF : F1 D = some (.dK (keyed (nmA ks) (fun j => .ref (g j)) n)) := by
        show upd H1 d _ D = _
        rw [upd_ne nDd]
        exact eD1
      refine for_it w2 (fun t σ G2 => ∃ v2 v3, σ = [some (.ref d), some (.ref D), v2, v3] ∧ Kept S F1 G2 ∧ ∀ j < n, G2 (g j) = some (.lst (nmsV ks ((List.range t).filter (ancB ps j)))))
        ⟨_, _, rfl, Kept.refl, fun j hj => by
          show upd H1 d _ (g j) = _
          rw [upd_ne (ngd j hj)]
          exact eg1 j hj⟩ (fun t σ G2 _ ⟨_, _, _, kk, _⟩ => kk _ _ nSd upd_same) ?_ ?_
      · rintro t v σ G2 G2' ht ⟨v2, v3, rfl, kk, hl⟩ ⟨rfl, hv⟩
        obtain ⟨y, hy, rfl⟩ := str_at hv
        obtain rfl : nmA ks t = y := by
          rw [List.getElem?_map, List.getElem?_range ht] at hy
          exact Option.some.inj hy
        obtain ⟨fs, hf⟩ := fore_ex up _ t (Nat.le_refl _) (by omega)
        obtain ⟨flt, fnd⟩ := hf.lt up
        have fl : fs.length ≤ n := by
          have := nodup_sub_len fnd fun x hx => (flt x hx).2
          omega
        have eD2 := kk _ _ nSD eF
        have small : ∀ (j m : Nat), ((List.range m).filter (ancB ps j)).length ≤ m := fun j m => by
          have := List.length_filter_le (ancB ps j) (List.range m)
          simpa using this
        -- to the group of the asker itself
        refine ⟨.ref D, rfl, .str (nmA ks t), rfl, D, .ref (g t), rfl, .inl ⟨_, .inr (nmA ks t), .inl eD2, rfl, (valV_keyed (g := fun j => .ref (g j)) inj ht).symm⟩, .inl ⟨rfl, _, SqL.of (hl t ht)⟩, .str (nmA ks t), rfl, g t, _, _, rfl, rfl, hl t ht, ?_, ?_⟩
        · have := small t t
          rw [List.length_map, sizeLine_eq]
          omega
        generalize hG3 : upd G2' (g t) (.lst (nmsV ks ((List.range t).filter (ancB ps t)) ++ [.str (nmA ks t)])) = G3
        have k3 : Kept S F1 G3 := fun b o hb e => by
          rw [← hG3, upd_ne (fun z => hb ⟨t, ht, z⟩)]
          exact kk b o hb e
        have l3 : ∀ j < n, G3 (g j) = some (.lst (nmsV ks ((List.range t).filter (ancB ps j) ++ if j ∈ t :: fs.take 0 then [t] else []))) := fun j hj => by
          by_cases e : j = t
          · subst e
            rw [← hG3, upd_same]
            simp
          · rw [← hG3, upd_ne (fun z => e (gi j t hj ht z)), hl j hj]
            simp [e]
        have ed3 := k3 _ _ nSd upd_same
        refine ⟨.ref d, rfl, .str (nmA ks t), rfl, d, ks, ps, t, fs, rfl, .inr ⟨od, ed3⟩, by rw [hn]; exact inj, hf, by omega, fun G4 fp s4 nfp e4 => ⟨fp, rfl, ⟨_, SqL.of e4⟩, ?_⟩⟩
        have nfpS : ¬ S fp := fun ⟨j, hj, e⟩ => by
          have := l3 j hj
          rw [← e, nfp] at this
          cases this
        refine for_list (K := K) (a := fp) (xs := nmsV ks fs) (fun u σ G5 => ∃ v3, σ = [some (.ref d), some (.ref D), some (.str (nmA ks t)), v3] ∧ Kept S G4 G5 ∧ ∀ j < n, G5 (g j) = some (.lst (nmsV ks ((List.range t).filter (ancB ps j) ++ if j ∈ t :: fs.take u then [t] else []))))
          ⟨_, rfl, Kept.refl, fun j hj => s4 _ _ (l3 j hj)⟩ (fun u σ G5 _ ⟨_, _, k5, _⟩ => SqL.of (k5 _ _ nfpS e4)) ?_ ?_
        · rintro u x σ G5 hx ⟨v3, rfl, k5, l5⟩
          obtain ⟨j, hj, rfl⟩ : ∃ j, fs[u]? = some j ∧ V.str (nmA ks j) = x := by
            rw [List.getElem?_map] at hx
            cases e : fs[u]? with
            | none => rw [e] at hx; cases hx
            | some j => rw [e] at hx; exact ⟨j, rfl, Option.some.inj hx⟩
          have hjn : j < n := by
            have := (flt j (List.mem_of_getElem? hj)).2
            omega
          have htj : t < j := (flt j (List.mem_of_getElem? hj)).1
          have jnew : j ∉ t :: fs.take u := fun h => by
            rcases List.mem_cons.mp h with h | h
            · omega
            · obtain ⟨i, hi⟩ := List.mem_iff_getElem?.mp h
              have hit : i < u := by
                have := (List.getElem?_eq_some_iff.mp hi).1
                rw [List.length_take] at this
                omega
              rw [List.getElem?_take_of_lt hit] at hi
              have := getElem?_inj' fnd hi hj
              omega
          have eD5 := k5 _ _ nSD (s4 _ _ (k3 _ _ nSD eF))
          have ej := l5 j hjn
          rw [if_neg jnew, List.append_nil] at ej
          refine ⟨.ref D, rfl, .str (nmA ks j), rfl, D, .ref (g j), rfl, .inl ⟨_, .inr (nmA ks j), .inl eD5, rfl, (valV_keyed (g := fun j => .ref (g j)) inj hjn).symm⟩, .inl ⟨rfl, _, SqL.of ej⟩, .str (nmA ks t), rfl, g j, _, _, rfl, rfl, ej, ?_, ?_⟩
          · have := small j t
            rw [List.length_map, sizeLine_eq]
            omega
          · refine ⟨_, rfl, fun b o hb e => ?_, fun i hi => ?_⟩
            · rw [upd_ne (fun z => hb ⟨j, hjn, z⟩)]
              exact k5 b o hb e
            · have et : fs.take (u + 1) = fs.take u ++ [j] := by
                rw [List.take_add_one, hj]
                rfl
              by_cases e : i = j
              · subst e
                rw [upd_same, et, if_pos (List.mem_cons_of_mem _ (List.mem_append_right _ (List.mem_singleton.mpr rfl)))]
                simp [nmsV]
              · rw [upd_ne (fun z => e (gi i j hi hjn z)), l5 i hi, et]
                have : i ∈ t :: (fs.take u ++ [j]) ↔ i ∈ t :: fs.take u := by simp [e]
                simp only [this]
        · rintro σ G5 ⟨v3, rfl, k5, l5⟩
          rw [List.length_map, List.take_length] at l5
          refine ⟨_, _, rfl, fun b o hb e => k5 b o hb (s4 b o (k3 b o hb e)), fun j hj => ?_⟩
          rw [l5 j hj, List.range_succ, List.filter_append]
          congr 3
          by_cases e : j ∈ t :: fs
          · rw [if_pos e]
            simp [ancB_iff.mpr ((hf.anc j).mp e)]
          · rw [if_neg e]
            have : ancB ps j t = false := Bool.eq_false_iff.mpr fun z => e ((hf.anc j).mpr (ancB_iff.mp z))
            simp [this]
      · rintro σ G2 ⟨v2, v3, rfl, kk, hl⟩
        refine ⟨kk _ _ nSd upd_same, .ref D, rfl, ?_⟩
        refine q _ D g (fun b o e => ?_) hD0 (by rw [upd_ne nDd]; exact kk _ _ nSD eF) fun i hi => ⟨hg0 i hi, by rw [upd_ne (ngd i hi)]; exact hl i hi⟩
        by_cases hb : b = d
        · rw [hb, hd] at e
          rw [hb, upd_same]
          exact e
        · rw [upd_ne hb]
          refine kk b o (fun ⟨j, hj, z⟩ => ?_) (by show upd H1 d _ b = _; rw [upd_ne hb]; exact s01 b o e)
          rw [z, hg0 j hj] at e
          cases e
/-! ### group -/
def spGroup (CL CA : Addr) : Sp := fun vs H Q _ => ∃ (a : Addr) (as : List Addr) (ks : List Ask) (U : List Str) (i : Nat), vs = [.ref a, .str (nmA ks i)] ∧ LineAt CL CA H a as ks ∧ (ks.map Ask.nm).Nodup ∧ ks.length ≤ 900 ∧ U.length ≤ 64 ∧ (∀ k ∈ ks, k.ks.Nodup ∧ ∀ x ∈ k.ks, x ∈ U) ∧ i < ks.length ∧
  ∀ (H' : Hp) (p : Addr) (ys : List Nat), Same H H' → H p = none → H' p = some (.lst (nmsV ks ys)) → ys.Pairwise (· < ·) → (∀ y, y ∈ ys ↔ Conn (lkA ks) (i + 1) y i) → Q (.ref p) H'
theorem ok_group {f fNeedLine fGroups fParents fFore fShare : Addr} {fd dNeedLine dGroups dParents dFore dShare dAN dAF dLN dLP dLA : FuncData} (F : Fun K "group" "group" sGroup f fd) (B : Blt mg) (B2 : Blt2 mg) (FNeedLine : Fun K "need_line" "need_line" sNeedLine fNeedLine dNeedLine) (gNeedLine : mg "need_line" = some (.ref fNeedLine)) (FGroups : Fun K "_groups" "_groups" sGroups fGroups dGroups) (gGroups : mg "_groups" = some (.ref fGroups)) (FParents : Fun K "_parents" "_parents" sParents fParents dParents) (gParents : mg "_parents" = some (.ref fParents))
    (FFore : Fun K "_forebears" "_forebears" sForebears fFore dFore) (gFore : mg "_forebears" = some (.ref fFore)) (FShare : Fun K "_share" "_share" sShare fShare dShare) (gShare : mg "_share" = some (.ref fShare))
    (TA : ACls K CA fI pN gN pF gF pM gM fE) (FAN : Fun K "name" "Asker.name" sAName gN dAN) (FAF : Fun K "fits" "Asker.fits" sAFits gF dAF) (T : LCls K CL fLI fLE fLL fLA fLN fLK fLR fLP) (gL : mg "Line" = some (.ref CL)) (FLN : Fun K "names" "Line.names" sLNames fLN dLN) (FLP : Fun K "place" "Line.place" sLPlace fLP dLP) (FLA : Fun K "askers" "Line.askers" sLAskers fLA dLA) : FnOk P w K mg base CX0 6 f fd ["line", "name"] (spGroup CL CA) := by
  have GNeedLine : FnOk P w K mg base CX0 1 fNeedLine dNeedLine ["value"] (spNeedLine CL CA) := ok_needLine FNeedLine B T gL
  have bNeedLine : Binds K dNeedLine ["value"] [] := FNeedLine.binds fun _ _ _ _ _ _ us hl => match us, hl with | [_], _ => rfl
  have GLPlace : FnOk P w K mg base CX0 4 fLP dLP ["self", "name"] (spLPlace CL CA) := ok_lplace FLP B TA FAN T FLN
  have bLPlace : Binds K dLP ["self", "name"] [] := FLP.binds fun _ _ _ _ _ _ us hl => match us, hl with | [_, _], _ => rfl
  have GLAskers : FnOk P w K mg base CX0 1 fLA dLA ["self"] (spLAskers CL CA) := ok_laskers FLA B T
  have bLAskers : Binds K dLA ["self"] [] := FLA.binds fun _ _ _ _ _ _ us hl => match us, hl with | [_], _ => rfl
  have GParents : FnOk P w K mg base CX0 3 fParents dParents ["askers"] (spParents K CA) := ok_parents FParents B B2 FShare gShare TA FAN FAF
  have bParents : Binds K dParents ["askers"] [] := FParents.binds fun _ _ _ _ _ _ us hl => match us, hl with | [_], _ => rfl
  have GGroups : FnOk P w K mg base CX0 2 fGroups dGroups ["parents"] spGroups := ok_groups FGroups FFore gFore
  have bGroups : Binds K dGroups ["parents"] [] := FGroups.binds fun _ _ _ _ _ _ us hl => match us, hl with | [_], _ => rfl
  refine F.ok scGroup (fun vs H Q E h => ?_) (fun cdv A outer s H vs Q E hr h => ?_)
  · obtain ⟨a, as, ks, U, i, rfl, _⟩ := h
    rfl
  · obtain ⟨a, as, ks, U, i, rfl, hL, hnd, hz, hU, hk, hi, q⟩ := h
    obtain ⟨dx, t, h1, h2, h3⟩ := id hL
    have inj := nmA_inj hnd
    refine ⟨_, (pss_cons (ps_expr (pe_call GNeedLine (hr.mono (by decide)) (by rfl) gNeedLine FNeedLine.kp bNeedLine .nil pass0 (pa_cons (pv 0) pa_nil)))
      (pss_cons (ps_expr (pe_meth (pv 0) T.ins.cl T.mP GLPlace (hr.mono (by decide)) bLPlace .nil pass0 (pa_cons (pv 1) pa_nil)))
      (pss_one (ps_ret (pe_dget (hu_of hr) (pe_call GGroups (hr.mono (by decide)) (by rfl) gGroups FGroups.kp bGroups .nil pass0 (pa_cons (pe_call GParents (hr.mono (by decide)) (by rfl) gParents FParents.kp bParents .nil pass0 (pa_cons (pe_meth0 (pv 0) T.ins.cl T.mA GLAskers (hr.mono (by decide)) bLAskers .nil pass0) pa_nil)) pa_nil)) (pv 1) (fun _ _ => rfl)))))), ?_⟩
    refine ⟨.ref a, rfl, a, as, ks, rfl, hL, .ref a, rfl, a, dx, _, rfl, h1, rfl, .str (nmA ks i), rfl, a, as, ks, nmA ks i, i, ks[i], rfl, hL, by omega, hnd, List.getElem?_eq_getElem hi, (nmA_at (List.getElem?_eq_getElem hi)).symm, fun H1 s1 => ?_⟩
    refine ⟨.ref a, rfl, a, dx, _, rfl, s1 _ _ h1, rfl, a, as, ks, rfl, hL.same s1, fun p1 np1 => ?_⟩
    have s2 := s1.trans (Same.fresh (o := .lst (as.map V.ref)) np1)
    refine ⟨p1, as, ks, U, rfl, SqL.of upd_same, h3.same s2, hnd, hz, hU, hk, fun H3 p3 ps s3 np3 e3 E3 l3 => ?_⟩
    refine ⟨p3, ks, ps, rfl, e3, by rw [l3]; exact inj, E3.up, by omega, fun H4 p4 g s4 np4 e4 hg => ?_⟩
    have hip : i < ps.length := by omega
    obtain ⟨n1, e5⟩ := hg i hip
    refine ⟨.str (nmA ks i), rfl, p4, .ref (g i), rfl, .inl ⟨_, .inr (nmA ks i), .inl e4, rfl, (valV_keyed (g := fun j => .ref (g j)) (by rw [l3]; exact inj) hip).symm⟩, ?_⟩
    refine q H4 (g i) _ (s2.trans (s3.trans s4)) (Same.free (s2.trans s3) n1) e5 (List.Pairwise.filter _ List.pairwise_lt_range) fun y => ?_
    rw [List.mem_filter, List.mem_range, ancB_iff]
    constructor
    · rintro ⟨_, h⟩
      exact (E3.an y i (h.le E3.up) hip).mp h
    · intro h
      have := h.lt1
      exact ⟨by omega, (E3.an y i (by omega) hip).mpr h⟩
end
end Eld
end L2

set_option Elab.async false
set_option linter.all false
set_option maxRecDepth 100000
set_option maxHeartbeats 4000000
/-! ## the law's own links -/
namespace L2
namespace Eld
open PySem PySem.Spec PyProof.Rows PySem.EldX
abbrev intsV (ns : List Nat) : List V := ns.map fun n => V.int (n : Nat)
abbrev intsD (ns : List Nat) : List PyData := ns.map fun n => PyData.int (n : Nat)
theorem ints_lay : ∀ ns : List Nat, PyData.canLayAll0 (intsD ns) = true
  | [] => by simp only [intsD, List.map_nil, PyData.canLayAll0]
  | n :: ns => by
    have ih := ints_lay ns
    simp only [intsD, List.map_cons, PyData.canLayAll0, PyData.canLay0] at ih ⊢
    rw [ih] <;> rfl
theorem ints_depth : ∀ ns : List Nat, PyData.depthAll (intsD ns) ≤ 1
  | [] => by simp only [intsD, List.map_nil, PyData.depthAll]; omega
  | n :: ns => by
    have ih := ints_depth ns
    simp only [intsD, List.map_cons, PyData.depthAll, PyData.depth] at ih ⊢
    omega
theorem shaped_ints (ns : List Nat) : SeqAt.shaped (.list (intsD ns)) = true := by
  unfold SeqAt.shaped
  rw [Bool.and_eq_true, decide_eq_true_eq]
  refine ⟨?_, ?_⟩
  · simp only [PyData.canLay0]
    exact ints_lay ns
  · have := ints_depth ns
    simp only [PyData.depth]
    omega
theorem shaped_nil : SeqAt.shaped (.list []) = true := by decide +kernel
theorem eqv_nil (ds : List PyData) : PyData.eqv (.list ds) (.list []) = ds.isEmpty := by
  cases ds <;> simp [PyData.eqv, PyData.eqvAll]
section
variable {K : PySem.W.Frag} {H : Hp}
theorem dpI_all : ∀ ns : List Nat, DpAll K H (intsV ns) (intsD ns)
  | [] => .nil
  | n :: ns => .cons (.int _) (dpI_all ns)
theorem dp_ints {a : Addr} {ns : List Nat} (h : SqL K H a (intsV ns)) : Dp K H (.ref a) (.list (intsD ns)) := .lst h (dpI_all ns)
theorem dp_nil {a : Addr} (h : SqL K H a []) : Dp K H (.ref a) (.list []) := .lst h .nil
end
/-- what keep lets through, whatever the items are; a turn may lay new things -/
theorem lc_keepG {α : Type} {fv : α → V} {J : It} {n : Nat} {G : Hp → Prop} {xs : List α} {keep : α → Bool} (w : Walk J n G (YAt (xs.map fv))) (hn : n = xs.length) {g : TG} {tt : TT} {te : TE} {vs : List Nat} {σ : St} {H1 : Hp} {D : Addr} {Qd : Hp → Prop} (hz : xs.length ≤ 1000) (hD : H1 D = none) (hG : ∀ H, Same H1 H → G H)
    (hs : ∀ x H, Same H1 H → x ∈ xs → ∀ (N : VK) (M : Hp → Prop), (∀ H', Same H H' → keep x = true → N (fv x) H') → (∀ H', Same H H' → keep x = false → M H') → g (fv x) (wipe σ vs) H fun σ2 H2 => wipe σ2 vs = wipe σ vs ∧ tt σ2 H2 fun b H3 => if b = true then te σ2 H3 N else M H3)
    (hd : ∀ H, Same H1 H → H D = some (.lst ((xs.filter keep).map fv)) → Qd H) :
    ∃ W : Nat → Nat → Hp → Prop, (∃ m, W 0 m (upd H1 D (.lst []))) ∧ ∀ i m H, W i m H →
      (J.stop i H ∧ Qd H) ∨ (J.go i H ∧ ∃ Nx : Hp → Prop, (∀ H', Nx H' → ∃ m', m' < m ∧ W (i + 1) m' H') ∧ ∀ x H', J.yld i H x H' → g x (wipe σ vs) H' fun σ2 H2 => wipe σ2 vs = wipe σ vs ∧ tt σ2 H2 fun b H3 =>
        if b = true then te σ2 H3 fun y H4 => ∃ acc, H4 D = some (.lst acc) ∧ acc.length < sizeLine ∧ Nx (upd H4 D (.lst (acc ++ [y]))) else Nx H3) := by
  subst hn
  refine lc_it w (fun i H => Same H1 H ∧ H D = some (.lst (((xs.take i).filter keep).map fv))) ⟨Same.fresh hD, by rw [upd_same]; rfl⟩ (fun i H _ p => hG H p.1) ?_ fun H p => hd H p.1 (by rw [p.2, List.take_length])
  rintro i v H H' hi ⟨s, e⟩ ⟨rfl, hv⟩
  have ex : xs[i]? = some xs[i] := List.getElem?_eq_getElem hi
  rw [List.getElem?_map, ex] at hv
  obtain rfl : fv xs[i] = v := Option.some.inj hv
  have et : xs.take (i + 1) = xs.take i ++ [xs[i]] := by rw [List.take_add_one, ex]; rfl
  refine hs xs[i] H' s (List.getElem_mem hi) _ _ (fun H2 s2 hk => ?_) fun H2 s2 hk => ?_
  · refine ⟨_, s2 _ _ e, ?_, (s.trans s2).put hD, ?_⟩
    · rw [List.length_map, sizeLine_eq]
      have := List.length_filter_le keep (xs.take i)
      rw [List.length_take] at this
      omega
    · rw [upd_same, et, List.filter_append, List.map_append]
      simp [hk]
  · refine ⟨s.trans s2, ?_⟩
    rw [s2 _ _ e, et, List.filter_append]
    simp [hk]
theorem walk_ints {K : PySem.W.Frag} {a : Addr} {ns : List Nat} : Walk (Itl K a) ns.length (fun H => SqL K H a (intsV ns)) (YAt (intsV ns)) := by
  have := walk_list (K := K) (a := a) (xs := intsV ns)
  rw [List.length_map] at this
  exact this
theorem any_filter {α : Type} (f : α → Bool) (xs : List α) : (!(xs.filter f).isEmpty) = xs.any f := by
  rw [Bool.eq_iff_iff, List.any_eq_true]
  cases e : xs.filter f with
  | nil =>
    refine ⟨fun h => by simp at h, fun ⟨x, h1, h2⟩ => ?_⟩
    have : x ∈ xs.filter f := List.mem_filter.mpr ⟨h1, h2⟩
    rw [e] at this
    cases this
  | cons x r =>
    have : x ∈ xs.filter f := by rw [e]; exact List.mem_cons_self
    obtain ⟨h1, h2⟩ := List.mem_filter.mp this
    exact ⟨fun _ => ⟨x, h1, h2⟩, fun _ => rfl⟩
section
variable {P : Program} {w : World} {K : PySem.W.Frag} {mg : Str → Option Value} {base : Heap} {CA fI pN gN pF gF pM gM fE CL fLI fLE fLL fLA fLN fLK fLR fLP : Addr}
/-! ### _law_linked -/
def spLLinked (CA : Addr) : Sp := fun vs H Q _ => ∃ (a b : Addr) (k l : Ask), vs = [.ref a, .ref b] ∧ AskAt CA H a k ∧ AskAt CA H b l ∧ AskOk k ∧ ∀ H', Same H H' → Q (.bl (share k.ks l.ks)) H'
theorem ok_llinked {f : Addr} {fd dAF : FuncData} (F : Fun K "_law_linked" "_law_linked" sLLinked f fd) (B : Blt mg) (TA : ACls K CA fI pN gN pF gF pM gM fE) (FAF : Fun K "fits" "Asker.fits" sAFits gF dAF) : FnOk P w K mg base CX0 3 f fd ["_law_one", "_law_other"] (spLLinked CA) := by
  have GAFits : FnOk P w K mg base CX0 1 gF dAF ["self"] (spAFits CA) := ok_afits FAF B TA
  have bAFits : Binds K dAF ["self"] [] := FAF.binds fun _ _ _ _ _ _ us hl => match us, hl with | [_], _ => rfl
  refine F.ok scLLinked (fun vs H Q E h => ?_) (fun cdv A outer s H vs Q E hr h => ?_)
  · obtain ⟨a, b, k, l, rfl, _⟩ := h
    rfl
  · obtain ⟨a, b, k, l, rfl, Ak, Al, ok, q⟩ := h
    obtain ⟨dx, fs, hI⟩ := Ak.ins
    refine ⟨_, (pss_one (ps_ret (pe_cmpR (op_neD hr.units) (pe_lc (own := [("_law_kind", 2)]) (g := gName 2) (tt := tTest (tOp (rIn K false) (tVar 2) (tProp CA (spAFits CA) [] E0 (tVar 1)))) rfl scLLinked.nd (pi_list (pe_prop (pv 0) TA.ins.cl TA.pF GAFits (hr.mono (by decide)) bAFits .nil pass0 rfl)) (blkOk_by (own := [("_law_kind", 2)]) (N := NLLinked) (sc := defScope sLLinked) (by decide +kernel)) (fun _ _ _ _ _ => pg_name (i := 2) scLLinked.nd rfl (.inl rfl)) (fun _ _ _ _ _ => pts_one (pt_cmpR op_in_seq (pv 2) (pe_prop (pv 1) TA.ins.cl TA.pF GAFits (hr.mono (by decide)) bAFits .nil pass0 rfl) (by rfl))) (fun _ _ _ _ _ => (pv 2))) (pe_lst pa_nil) (nomark _)))), ?_⟩
    refine ⟨.ref a, rfl, a, dx, fs, rfl, hI, a, k, rfl, Ak, fun p np => ⟨p, rfl, ⟨_, SqL.of upd_same⟩, fun D hD => ?_⟩⟩
    have s1 := Same.fresh (o := .lst (k.ks.map V.str)) np
    refine lc_keepS (xs := k.ks) (keep := fun x => decide (x ∈ l.ks)) walk_list_strs rfl (by have := ok.lt; omega) hD (fun G s => SqL.of (s _ _ upd_same)) (fun x G sG hx N M hN hM => ?_) fun G sG eG => ?_
    · obtain ⟨dx2, fs2, hI2⟩ := (Al.same (s1.trans sG)).ins
      refine ⟨rfl, .str x, rfl, .ref b, rfl, b, dx2, fs2, rfl, hI2, b, l, rfl, Al.same (s1.trans sG), fun p2 np2 => ⟨p2, _, rfl, .inl (SqL.of upd_same), rfl, strs_flat _, _, rfl, ?_⟩⟩
      rw [inV_strs]
      by_cases hm : x ∈ l.ks
      · rw [decide_eq_true hm]
        exact iteT ⟨.str x, rfl, hN _ (Same.fresh np2) (decide_eq_true hm)⟩
      · rw [decide_eq_false hm]
        exact iteF (hM _ (Same.fresh np2) (decide_eq_false hm))
    · refine ⟨(by show 0 ≤ sizeLine; decide), fun e ne => ?_⟩
      have s2 := Same.fresh (o := .lst []) ne
      refine ⟨_, _, dp_sts (SqL.of (s2 _ _ eG)), dp_nil (SqL.of upd_same), shaped_sts fun y hy => ok.ks y (List.mem_filter.mp hy).1, shaped_nil, ?_⟩
      have ev : (!PyData.eqv (.list (sts (k.ks.filter fun x => decide (x ∈ l.ks)))) (.list [])) = share k.ks l.ks := by
        rw [eqv_nil, List.isEmpty_map]
        exact any_filter _ _
      rw [ev]
      exact q _ (s1.trans (sG.trans s2))
/-! ### _law_is_near -/
def spIsNear (K : PySem.W.Frag) (CA : Addr) : Sp := fun vs H Q _ => ∃ (l sl : Addr) (as : List Addr) (ks : List Ask) (ns : List Nat) (i : Nat), vs = [.ref l, .ref sl, .int (i : Nat)] ∧ SqL K H l (as.map V.ref) ∧ Asks CA H as ks ∧ (∀ k ∈ ks, AskOk k) ∧ SqL K H sl (intsV ns) ∧ (∀ n ∈ ns, n < ks.length) ∧ ns.length ≤ 1000 ∧ i < ks.length ∧ ∀ H', Same H H' → Q (.bl (ns.any fun n => lkA ks n i)) H'
theorem ask_nth {CA : Addr} {H : Hp} {as : List Addr} {ks : List Ask} (h : Asks CA H as ks) {i : Nat} (hi : i < ks.length) : ∃ a, as[i]? = some a ∧ AskAt CA H a ks[i] := by
  have hl := h.len
  have e : as[i]? = some (as[i]'(by omega)) := List.getElem?_eq_getElem _
  obtain ⟨k, hk, A⟩ := h.get e
  rw [List.getElem?_eq_getElem hi] at hk
  obtain rfl := Option.some.inj hk
  exact ⟨_, e, A⟩
theorem ok_isNear {f fLLinked : Addr} {fd dLLinked dAF : FuncData} (F : Fun K "_law_is_near" "_law_is_near" sIsNear f fd) (B : Blt mg) (FLLinked : Fun K "_law_linked" "_law_linked" sLLinked fLLinked dLLinked) (gLLinked : mg "_law_linked" = some (.ref fLLinked)) (TA : ACls K CA fI pN gN pF gF pM gM fE) (FAF : Fun K "fits" "Asker.fits" sAFits gF dAF) :
    FnOk P w K mg base CX0 4 f fd ["_law_askers", "_law_some", "_law_at"] (spIsNear K CA) := by
  have GLLinked : FnOk P w K mg base CX0 3 fLLinked dLLinked ["_law_one", "_law_other"] (spLLinked CA) := ok_llinked FLLinked B TA FAF
  have bLLinked : Binds K dLLinked ["_law_one", "_law_other"] [] := FLLinked.binds fun _ _ _ _ _ _ us hl => match us, hl with | [_, _], _ => rfl
  refine F.ok scIsNear (fun vs H Q E h => ?_) (fun cdv A outer s H vs Q E hr h => ?_)
  · obtain ⟨l, sl, as, ks, ns, i, rfl, _⟩ := h
    rfl
  · obtain ⟨l, sl, as, ks, ns, i, rfl, hS, hA, hok, hN, hn, hz, hi, q⟩ := h
    refine ⟨_, (pss_one (ps_ret (pe_cmpR (op_neD hr.units) (pe_lc (own := [("_law_one", 3)]) (g := gName 3) (tt := tB (tCall (spLLinked CA) [] E0 (tCons (tOp (rIxL K) (tVar 0) (tVar 3)) (tCons (tOp (rIxL K) (tVar 0) (tVar 2)) tNil)))) rfl scIsNear.nd (pi_list (pv 1)) (blkOk_by (own := [("_law_one", 3)]) (N := NIsNear) (sc := defScope sIsNear) (by decide +kernel)) (fun _ _ _ _ _ => pg_name (i := 3) scIsNear.nd rfl (.inl rfl)) (fun _ _ _ _ _ => pts_one (pt_val (pe_call GLLinked (hr.mono (by decide)) (by rfl) gLLinked FLLinked.kp bLLinked .nil pass0 (pa_cons (pe_ix ix_list (pv 0) (pv 3) (fun _ _ => rfl)) (pa_cons (pe_ix ix_list (pv 0) (pv 2) (fun _ _ => rfl)) pa_nil))))) (fun _ _ _ _ _ => (pv 3))) (pe_lst pa_nil) (nomark _)))), ?_⟩
    refine ⟨.ref sl, rfl, sl, rfl, ⟨_, hN⟩, fun D hD => ?_⟩
    refine lc_keepG (xs := ns) (fv := fun n => V.int (n : Nat)) (keep := fun n => lkA ks n i) walk_ints rfl hz hD (fun G s => s.seq hN) (fun x G sG hx N M hN' hM => ?_) fun G sG eG => ?_
    · obtain ⟨a, ea, Aa⟩ := ask_nth hA (hn x hx)
      obtain ⟨b, eb, Ab⟩ := ask_nth hA hi
      have hSG := sG.seq hS
      refine ⟨rfl, .ref l, rfl, .int (x : Nat), rfl, l, _, _, .ref a, rfl, rfl, hSG, atI_nat (by rw [List.getElem?_map, ea]; rfl), .ref l, rfl, .int (i : Nat), rfl, l, _, _, .ref b, rfl, rfl, hSG, atI_nat (by rw [List.getElem?_map, eb]; rfl), ?_⟩
      refine ⟨a, b, ks[x]'(hn x hx), ks[i], rfl, Aa.same sG, Ab.same sG, hok _ (List.getElem_mem _), fun G2 s2 => ⟨_, rfl, ?_⟩⟩
      have e : share (ks[x]'(hn x hx)).ks ks[i].ks = lkA ks x i := by
        unfold lkA
        rw [fitsA_at (List.getElem?_eq_getElem (hn x hx)), fitsA_at (List.getElem?_eq_getElem hi)]
      rw [e]
      cases hb : lkA ks x i with
      | true => exact iteT ⟨.int (x : Nat), rfl, hN' G2 s2 hb⟩
      | false => exact iteF (hM G2 s2 hb)
    · refine ⟨(by show 0 ≤ sizeLine; decide), fun e ne => ?_⟩
      have s2 := Same.fresh (o := .lst []) ne
      refine ⟨_, _, dp_ints (SqL.of (s2 _ _ eG)), dp_nil (SqL.of upd_same), shaped_ints _, shaped_nil, ?_⟩
      have ev : (!PyData.eqv (.list (intsD (ns.filter fun n => lkA ks n i))) (.list [])) = ns.any fun n => lkA ks n i := by
        rw [eqv_nil, List.isEmpty_map]
        exact any_filter _ _
      rw [ev]
      exact q _ (sG.trans s2)
end
end Eld
end L2

set_option Elab.async false
set_option linter.all false
set_option maxRecDepth 100000
set_option maxHeartbeats 4000000
/-! ## the law's own growing -/
namespace L2
namespace Eld
open PySem PySem.Spec PyProof.Rows PySem.EldX
theorem inV_ints (x : Nat) (ns : List Nat) : inV (.int (x : Nat)) (intsV ns) = decide (x ∈ ns) := by
  unfold inV
  rw [List.any_map]
  by_cases h : x ∈ ns
  · rw [decide_eq_true h, List.any_eq_true]
    refine ⟨x, h, ?_⟩
    show eqV (V.int (x : Nat)) (V.int (x : Nat)) = true
    unfold eqV
    simp
  · rw [decide_eq_false h, List.any_eq_false]
    intro y hy
    show ¬ eqV (V.int (y : Nat)) (V.int (x : Nat)) = true
    unfold eqV
    simp
    intro e
    have e' : y = x := by omega
    exact h (e' ▸ hy)
theorem ints_flat (ns : List Nat) : (intsV ns).all flatV = true := List.all_eq_true.mpr fun v hv => by
  obtain ⟨x, _, rfl⟩ := List.mem_map.mp hv
  rfl
theorem perm_ints {ns' : List Int} {F : List Nat} (h : ns'.Perm (F.map fun n : Nat => (n : Int))) : ∃ ys : List Nat, ns' = ys.map (fun n : Nat => (n : Int)) ∧ ys.Perm F := by
  refine ⟨ns'.map Int.toNat, ?_, ?_⟩
  · rw [List.map_map]
    refine (List.map_id _).symm.trans (List.map_congr_left fun v hv => ?_)
    obtain ⟨x, _, rfl⟩ := List.mem_map.mp (h.mem_iff.mp hv)
    rfl
  · have q := h.map Int.toNat
    rw [List.map_map] at q
    have e : F.map (Int.toNat ∘ fun n : Nat => (n : Int)) = F := (List.map_congr_left fun _ _ => rfl).trans (List.map_id _)
    rw [e] at q
    exact q
theorem sorted_lt {ys : List Nat} (nd : ys.Nodup) (h : (ys.map fun n : Nat => (n : Int)).Pairwise (· ≤ ·)) : ys.Pairwise (· < ·) := by
  rw [List.pairwise_map] at h
  exact (h.and nd).imp fun ⟨a, b⟩ => by omega
/-- what is new: not found as yet, linked to one of the fresh ones -/
def newL (lk : Nat → Nat → Bool) (i : Nat) (F R : List Nat) : List Nat := (List.range i).filter fun y => decide (y ∉ F) && R.any fun r => lk r y
theorem mem_newL {lk : Nat → Nat → Bool} {i : Nat} {F R : List Nat} {y : Nat} : y ∈ newL lk i F R ↔ y < i ∧ y ∉ F ∧ ∃ r ∈ R, lk r y = true := by
  unfold newL
  rw [List.mem_filter, List.mem_range, Bool.and_eq_true, decide_eq_true_eq, List.any_eq_true]
theorem nd_newL {lk : Nat → Nat → Bool} {i : Nat} {F R : List Nat} (h : F.Nodup) : (F ++ newL lk i F R).Nodup := by
  rw [List.nodup_append]
  refine ⟨h, List.nodup_range.sublist List.filter_sublist, fun a ha b hb e => ?_⟩
  subst e
  exact (mem_newL.mp hb).2.1 ha
section
variable {P : Program} {w : World} {K : PySem.W.Frag} {mg : Str → Option Value} {base : Heap} {CA fI pN gN pF gF pM gM fE CL fLI fLE fLL fLA fLN fLK fLR fLP : Addr}
/-! ### _law_grown -/
def spGrown (K : PySem.W.Frag) (CA : Addr) : Sp := fun vs H Q _ => ∃ (l : Addr) (as : List Addr) (ks : List Ask) (i : Nat), vs = [.ref l, .int (i : Nat)] ∧ SqL K H l (as.map V.ref) ∧ Asks CA H as ks ∧ (∀ k ∈ ks, AskOk k) ∧ i < ks.length ∧ ks.length ≤ 900 ∧
  ∀ (H' : Hp) (p : Addr) (ys : List Nat), Same H H' → H p = none → H' p = some (.lst (intsV ys)) → ys.Pairwise (· < ·) → (∀ y, y ∈ ys ↔ Conn (lkA ks) (i + 1) i y) → Q (.ref p) H'
theorem ok_grown {f fLLinked fIsNear : Addr} {fd dLLinked dIsNear dAF : FuncData} (F : Fun K "_law_grown" "_law_grown" sGrown f fd) (B : Blt mg) (FIsNear : Fun K "_law_is_near" "_law_is_near" sIsNear fIsNear dIsNear) (gIsNear : mg "_law_is_near" = some (.ref fIsNear)) (FLLinked : Fun K "_law_linked" "_law_linked" sLLinked fLLinked dLLinked) (gLLinked : mg "_law_linked" = some (.ref fLLinked)) (TA : ACls K CA fI pN gN pF gF pM gM fE) (FAF : Fun K "fits" "Asker.fits" sAFits gF dAF) :
    FnOk P w K mg base CX0 5 f fd ["_law_askers", "_law_at"] (spGrown K CA) := by
  have GIsNear : FnOk P w K mg base CX0 4 fIsNear dIsNear ["_law_askers", "_law_some", "_law_at"] (spIsNear K CA) := ok_isNear FIsNear B FLLinked gLLinked TA FAF
  have bIsNear : Binds K dIsNear ["_law_askers", "_law_some", "_law_at"] [] := FIsNear.binds fun _ _ _ _ _ _ us hl => match us, hl with | [_, _, _], _ => rfl
  refine F.ok scGrown (fun vs H Q E h => ?_) (fun cdv A outer s H vs Q E hr h => ?_)
  · obtain ⟨l, as, ks, i, rfl, _⟩ := h
    rfl
  · obtain ⟨l, as, ks, i, rfl, hS, hA, hok, hi, hz, q⟩ := h
    refine ⟨_, (pss_cons (ps_par (i := 2) (j := 3) rfl scGrown.nd rfl rfl (by decide) rfl rfl (pa_cons (pe_lst (pa_cons (pv 1) pa_nil)) (pa_cons (pe_lst (pa_cons (pv 1) pa_nil)) pa_nil)) rfl)
      (pss_cons (ps_while PassesOwn.never (pt_cmpR (op_neD hr.units) (pv 3) (pe_lst pa_nil) (nomark _))
        (pss_cons (ps_set (i := 4) scGrown.nd rfl (.inl rfl) (pe_lst pa_nil))
      (pss_cons (ps_for PassesOwn.never rfl (pi_range1 rfl B.range (pa_cons (pv 1) pa_nil)) (pg_name (i := 5) scGrown.nd rfl (.inl rfl))
        (pss_one (ps_if (PW.pt (pw_and (pt_cmpR op_notIn_seq (pv 5) (pv 2) (by rfl)) (pw_and1 (pt_val (pe_call GIsNear (hr.mono (by decide)) (by rfl) gIsNear FIsNear.kp bIsNear .nil pass0 (pa_cons (pv 0) (pa_cons (pv 3) (pa_cons (pv 5) pa_nil)))))))) (pss_one (ps_expr (pe_bm PySem.F.plainAttrs_list PySem.F.slot_list_append PySem.F.type_list_append mt_append (pv 4) (pa_cons (pv 5) pa_nil)))) pss_nil)))
      (pss_one (ps_par (i := 2) (j := 3) rfl scGrown.nd rfl rfl (by decide) rfl rfl (pa_cons (pe_op op_cat (pv 2) (pv 4)) (pa_cons (pv 4) pa_nil)) rfl)))))
      (pss_one (ps_ret (pe_callB cr_sortedI (by rfl) B.sorted (by decide +kernel) (pa_cons (pe_lc (own := [("_law_one", 6)]) (g := gName 6) (tt := tYes) rfl scGrown.nd (pi_list (pv 2)) (blkOk_by (own := [("_law_one", 6)]) (N := NGrown) (sc := defScope sGrown) (by decide +kernel)) (fun _ _ _ _ _ => pg_name (i := 6) scGrown.nd rfl (.inl rfl)) (fun _ _ _ _ _ => pts_nil) (fun _ _ _ _ _ => (pe_callTy call_int1 (by rfl) B.int (by decide +kernel) (pa_cons (pv 6) pa_nil)))) pa_nil)))))), ?_⟩
    refine ⟨.int (i : Nat), rfl, (by show 1 ≤ sizeLine; decide), fun fp nfp => ⟨.int (i : Nat), rfl, (by show 1 ≤ sizeLine; decide), fun rp nrp => ⟨_, _, rfl, ?_⟩⟩⟩
    have s1 := Same.fresh (o := .lst [V.int (i : Nat)]) nfp
    have s2 := s1.trans (Same.fresh (o := .lst [V.int (i : Nat)]) nrp)
    refine ⟨fun m σ H' => ∃ (F R : List Nat) (fp rp : Addr) (v4 v5 v6 : Option V), σ = [some (.ref l), some (.int (i : Nat)), some (.ref fp), some (.ref rp), v4, v5, v6] ∧ Same H H' ∧ H' fp = some (.lst (intsV F)) ∧ H' rp = some (.lst (intsV R)) ∧ F.Nodup ∧ i ∈ F ∧ (∀ x ∈ F, Conn (lkA ks) (i + 1) i x) ∧ (∀ x ∈ R, x ∈ F) ∧ R.length ≤ F.length ∧
        (∀ x ∈ F, x ∉ R → ∀ y < i, lkA ks x y = true → y ∈ F) ∧ m = 2 * (i + 1 - F.length) + (if R = [] then 0 else 1),
      ⟨_, [i], [i], fp, rp, _, _, _, rfl, s2, (Same.fresh nrp) _ _ upd_same, upd_same, by simp, by simp, fun x hx => by obtain rfl := List.mem_singleton.mp hx; exact .refl (Nat.lt_succ_self _), fun _ h => h, Nat.le_refl _, fun x hx nx => absurd hx nx, rfl⟩, ?_⟩
    rintro m σ H' ⟨F, R, fp, rp, v4, v5, v6, rfl, sm, ef, er, fnd, fi, fc, rf, rfle, cl, rfl⟩
    have flt : ∀ x ∈ F, x < i + 1 := fun x hx => (fc x hx).lt2
    have fl := nodup_sub_len fnd flt
    refine ⟨.ref rp, rfl, (by show 0 ≤ sizeLine; decide), fun e ne => ⟨_, _, dp_ints (SqL.of ((Same.fresh (o := .lst []) ne) _ _ er)), dp_nil (SqL.of upd_same), shaped_ints _, shaped_nil, _, rfl, ?_⟩⟩
    have s3 := sm.trans (Same.fresh (o := .lst []) ne)
    have ef3 := (Same.fresh (o := .lst []) ne) _ _ ef
    have er3 := (Same.fresh (o := .lst []) ne) _ _ er
    rw [eqv_nil]
    generalize upd H' e (.lst []) = H3 at s3 ef3 er3
    cases hR : R with
    | nil =>
      refine iteF ?_
      refine ⟨.ref fp, rfl, fp, rfl, ⟨_, SqL.of ef3⟩, fun D hD => ?_⟩
      refine lc_out walk_ints (fun j y _ => ∃ n, F[j]? = some n ∧ y = .int (n : Nat)) (Nat.lt_of_le_of_lt fl (Nat.lt_of_le_of_lt (show i + 1 ≤ 1000 by omega) (by decide))) hD (fun G sG => SqL.of (sG _ _ ef3)) (fun _ _ _ _ y => y.1) (fun _ _ _ _ _ _ _ o => o) ?_ ?_
      · rintro j v G hj sG ⟨_, hv⟩ Rr hRr
        have ex : F[j]? = some F[j] := List.getElem?_eq_getElem hj
        rw [List.getElem?_map, ex] at hv
        obtain rfl := Option.some.inj hv
        exact ⟨rfl, .int (F[j] : Nat), rfl, .inl ⟨_, rfl, hRr _ G (Same.refl _) ⟨F[j], ex, rfl⟩⟩⟩
      · intro G acc sG hG hl ho
        have eacc := eq_map_of (f := fun n => V.int (n : Nat)) hl ho
        refine ⟨D, F.map fun n : Nat => (n : Int), rfl, SqL.of (by rw [hG, eacc, List.map_map]; rfl), fun ns' p pm so np => ?_⟩
        obtain ⟨ys, rfl, py⟩ := perm_ints pm
        have ynd := py.nodup_iff.mpr fnd
        refine q _ p ys (s3.trans (sG.trans (Same.fresh np))) (Same.free (s3.trans sG) np) (by rw [upd_same, List.map_map]; rfl) (sorted_lt ynd so) fun y => ?_
        rw [py.mem_iff]
        refine ⟨fc y, fun h => ?_⟩
        induction h with
        | refl _ => exact fi
        | @step j k _ lk hk ih =>
          rcases Nat.lt_or_ge k i with lt | ge
          · exact cl j ih (by rw [hR]; exact List.not_mem_nil) k lt lk
          · obtain rfl : k = i := by omega
            exact fi
    | cons r0 R0 =>
      rw [← hR]
      have hne : R ≠ [] := by rw [hR]; exact List.cons_ne_nil _ _
      rw [if_neg hne]
      have hb : (!(intsD R).isEmpty) = true := by rw [hR]; rfl
      rw [hb]
      refine iteT ⟨fun σ' H2 => ∃ m', m' < 2 * (i + 1 - F.length) + 1 ∧ _, fun σ' H2 h => h, ?_⟩
      refine ⟨(by show 0 ≤ sizeLine; decide), fun lp nlp => ?_⟩
      have nlp0 := Same.free s3 nlp
      have nlf : lp ≠ fp := fun e => by rw [e, ef3] at nlp; cases nlp
      have nlr : lp ≠ rp := fun e => by rw [e, er3] at nlp; cases nlp
      refine ⟨.int (i : Nat), rfl, (i : Int), rfl, by omega, by omega, ?_⟩
      refine for_range (lo := 0) (n := ((i : Int)).toNat) (fun t σ G => ∃ v5, σ = [some (.ref l), some (.int (i : Nat)), some (.ref fp), some (.ref rp), some (.ref lp), v5, v6] ∧ Same H3 G ∧ G lp = some (.lst (intsV (newL (lkA ks) t F R))))
        ⟨_, rfl, Same.fresh nlp, upd_same⟩ ?_ ?_
      · rintro t σ G ht ⟨v5, rfl, sG, eG⟩
        have ht' : t < i := by omega
        have et : (0 : Int) + (t : Nat) = ((t : Nat) : Int) := by omega
        rw [et]
        have nl1 : newL (lkA ks) (t + 1) F R = newL (lkA ks) t F R ++ if (decide (t ∉ F) && R.any fun r => lkA ks r t) = true then [t] else [] := by
          unfold newL
          rw [List.range_succ, List.filter_append]
          congr 1
          by_cases h : (decide (t ∉ F) && R.any fun r => lkA ks r t) = true
          · rw [if_pos h]
            simp only [List.filter_cons, h, List.filter_nil, if_true]
          · rw [if_neg h]
            simp only [List.filter_cons, h, List.filter_nil]
            rfl
        refine ⟨.int (t : Nat), rfl, .ref fp, rfl, fp, _, rfl, .inl (SqL.of (sG _ _ ef3)), rfl, ints_flat _, _, rfl, ?_⟩
        rw [inV_ints]
        by_cases hm : t ∈ F
        · rw [decide_eq_true hm]
          refine iteF (iteF ⟨_, rfl, sG, ?_⟩)
          rw [nl1, if_neg (by simp [hm]), List.append_nil]
          exact eG
        · rw [decide_eq_false hm]
          refine iteT ⟨.ref l, rfl, .ref rp, rfl, .int (t : Nat), rfl, l, rp, as, ks, R, t, rfl, (s3.trans sG).seq hS, hA.same (s3.trans sG), hok, SqL.of (sG _ _ er3), fun n hn => by have := flt n (rf n hn); omega, ?_, by omega, fun G2 s2 => ⟨_, rfl, ?_⟩⟩
          · have : R.length ≤ 1000 := by omega
            exact this
          have eG2 := s2 _ _ eG
          cases hb2 : R.any fun r => lkA ks r t with
          | true =>
            refine iteT ⟨.ref lp, rfl, .inl ⟨rfl, _, SqL.of eG2⟩, .int (t : Nat), rfl, lp, _, _, rfl, rfl, eG2, ?_, _, rfl, (sG.trans s2).put nlp, ?_⟩
            · have := List.length_filter_le (fun y => decide (y ∉ F) && R.any fun r => lkA ks r y) (List.range t)
              rw [List.length_range] at this
              rw [List.length_map, sizeLine_eq]
              unfold newL
              omega
            · rw [upd_same, nl1, if_pos (by rw [hb2, decide_eq_true hm]; rfl)]
              simp [intsV]
          | false =>
            refine iteF ⟨_, rfl, sG.trans s2, ?_⟩
            rw [nl1, if_neg (by rw [hb2]; simp), List.append_nil]
            exact eG2
      · rintro σ G ⟨v5, rfl, sG, eG⟩
        have ei : ((i : Int)).toNat = i := by omega
        rw [ei] at eG
        have nll := List.length_filter_le (fun y => decide (y ∉ F) && R.any fun r => lkA ks r y) (List.range i)
        rw [List.length_range] at nll
        refine ⟨.ref fp, rfl, .ref lp, rfl, fp, lp, _, _, rfl, rfl, sG _ _ ef3, eG, ?_, fun p np => ⟨.ref lp, rfl, _, _, rfl, ?_⟩⟩
        · rw [List.length_map, List.length_map, sizeLine_eq]
          unfold newL
          omega
        have nd2 := nd_newL (lk := lkA ks) (i := i) (R := R) fnd
        have fl2 : (F ++ newL (lkA ks) i F R).length ≤ i + 1 := nodup_sub_len nd2 fun x hx => by
          rcases List.mem_append.mp hx with h | h
          · exact flt x h
          · have := (mem_newL.mp h).1
            omega
        refine ⟨_, ?_, F ++ newL (lkA ks) i F R, newL (lkA ks) i F R, p, lp, _, _, _, rfl, s3.trans (sG.trans (Same.fresh np)), by rw [upd_same, ← List.map_append], (Same.fresh np) _ _ eG, nd2, List.mem_append_left _ fi, fun x hx => ?_, fun x hx => List.mem_append_right _ hx, by rw [List.length_append]; omega, fun x hx nx y hy lk => ?_, rfl⟩
        · by_cases hn : newL (lkA ks) i F R = []
          · rw [if_pos hn, hn, List.append_nil]
            omega
          · rw [if_neg hn]
            have : 0 < (newL (lkA ks) i F R).length := List.length_pos_iff.mpr hn
            rw [List.length_append] at fl2 ⊢
            omega
        · rcases List.mem_append.mp hx with h | h
          · exact fc x h
          · obtain ⟨h1, _, r, hr, lk⟩ := mem_newL.mp h
            exact .step (fc r (rf r hr)) lk (by omega)
        · have hxF : x ∈ F := (List.mem_append.mp hx).resolve_right nx
          by_cases hy2 : y ∈ F
          · exact List.mem_append_left _ hy2
          · by_cases hxR : x ∈ R
            · exact List.mem_append_right _ (mem_newL.mpr ⟨hy, hy2, x, hxR, lk⟩)
            · exact absurd (cl x hxF hxR y hy lk) hy2
end
end Eld
end L2

set_option Elab.async false
set_option linter.all false
set_option maxRecDepth 100000
set_option maxHeartbeats 4000000
/-! ## odds and ends -/
namespace L2
namespace Eld
open PySem PySem.Spec PyProof.Rows PySem.EldX
theorem sorted_unique : ∀ {xs ys : List Nat}, xs.Pairwise (· < ·) → ys.Pairwise (· < ·) → (∀ y, y ∈ xs ↔ y ∈ ys) → xs = ys
  | [], [], _, _, _ => rfl
  | [], y :: ys, _, _, h => absurd ((h y).mpr List.mem_cons_self) List.not_mem_nil
  | x :: xs, [], _, _, h => absurd ((h x).mp List.mem_cons_self) List.not_mem_nil
  | x :: xs, y :: ys, h1, h2, h => by
    obtain ⟨a1, b1⟩ := List.pairwise_cons.mp h1
    obtain ⟨a2, b2⟩ := List.pairwise_cons.mp h2
    have e : x = y := by
      rcases List.mem_cons.mp ((h x).mp List.mem_cons_self) with e | m
      · exact e
      · rcases List.mem_cons.mp ((h y).mpr List.mem_cons_self) with e | m'
        · exact e.symm
        · have := a1 y m'
          have := a2 x m
          omega
    subst e
    rw [sorted_unique b1 b2 fun z => ?_]
    constructor
    · intro hz
      rcases List.mem_cons.mp ((h z).mp (List.mem_cons_of_mem _ hz)) with e | m
      · have := a1 z hz
        omega
      · exact m
    · intro hz
      rcases List.mem_cons.mp ((h z).mpr (List.mem_cons_of_mem _ hz)) with e | m
      · have := a2 z hz
        omega
      · exact m
theorem nmsV_eq (ks : List Ask) (ys : List Nat) : nmsV ks ys = (ys.map (nmA ks)).map V.str := by
  unfold nmsV
  rw [List.map_map]
  rfl
theorem cut_lastV (xs : List V) (v : V) : cutV (xs ++ [v]) none (some (-1)) = xs := by
  unfold cutV
  rw [HT.sIx_none]
  have e1 : HT.sIx (xs ++ [v]).length (xs ++ [v]).length (some (-1)) = xs.length := by
    unfold HT.sIx
    simp
    omega
  rw [e1]
  simp
theorem eqvAll_len : ∀ {xs ys : List PyData}, PyData.eqvAll xs ys = true → xs.length = ys.length
  | [], [], _ => rfl
  | [], _ :: _, h => by simp [PyData.eqvAll] at h
  | _ :: _, [], h => by simp [PyData.eqvAll] at h
  | x :: xs, y :: ys, h => by
    simp only [PyData.eqvAll, Bool.and_eq_true] at h
    rw [List.length_cons, List.length_cons, eqvAll_len h.2]
theorem shb (b : Bool) : (PyData.bool b).shown.length ≤ sizeLine := by
  rw [sizeLine_eq]
  cases b <;> decide +kernel
end Eld
end L2

set_option Elab.async false
set_option linter.all false
set_option maxRecDepth 100000
set_option maxHeartbeats 4000000
/-! ## the law's own rows of askers -/
namespace L2
namespace Eld
open PySem PySem.Spec PyProof.Rows PySem.EldX
theorem Asks.put {C D : Addr} {H : Hp} {xs : List V} {o : HO} (hD : H D = some (.lst xs)) {as : List Addr} {cs : List Ask} (h : Asks C H as cs) : Asks C (upd H D o) as cs := by
  induction h with
  | nil => exact .nil
  | cons A _ ih =>
    refine .cons ?_ ih
    obtain ⟨dx, t, h1, h2⟩ := A
    refine ⟨dx, t, ?_, ?_⟩
    · rw [upd_ne (fun z => by rw [z, hD] at h1; cases h1)]
      exact h1
    · rw [upd_ne (fun z => by rw [z, hD] at h2; cases h2)]
      exact h2
theorem Asks.snoc {C : Addr} {H : Hp} {a : Addr} {c : Ask} (A : AskAt C H a c) : ∀ {as : List Addr} {cs : List Ask}, Asks C H as cs → Asks C H (as ++ [a]) (cs ++ [c])
  | _, _, .nil => .cons A .nil
  | _, _, .cons B r => .cons B (Asks.snoc A r)
theorem asks_perm {C : Addr} {H : Hp} {as bs : List Addr} (p : as.Perm bs) : ∀ {cs : List Ask}, Asks C H as cs → ∃ ds, Asks C H bs ds ∧ cs.Perm ds := by
  induction p with
  | nil => exact fun h => ⟨_, h, .refl _⟩
  | cons x _ ih =>
    intro cs h
    cases h with
    | cons A r =>
      obtain ⟨ds, h', p'⟩ := ih r
      exact ⟨_, .cons A h', .cons _ p'⟩
  | swap x y l =>
    intro cs h
    cases h with
    | cons A r =>
      cases r with
      | cons B r => exact ⟨_, .cons B (.cons A r), .swap _ _ _⟩
  | trans _ _ ih1 ih2 =>
    intro cs h
    obtain ⟨ds, h', p'⟩ := ih1 h
    obtain ⟨es, h'', p''⟩ := ih2 h'
    exact ⟨es, h'', p'.trans p''⟩
def refV : V → Addr
  | .ref x => x
  | _ => 0
theorem perm_refs {ys : List V} {xs : List Addr} (h : ys.Perm (xs.map V.ref)) : ∃ zs : List Addr, ys = zs.map V.ref ∧ zs.Perm xs := by
  refine ⟨ys.map refV, ?_, ?_⟩
  · rw [List.map_map]
    refine (List.map_id _).symm.trans (List.map_congr_left fun v hv => ?_)
    obtain ⟨x, _, rfl⟩ := List.mem_map.mp (h.mem_iff.mp hv)
    rfl
  · have q := h.map refV
    rw [List.map_map] at q
    have e : xs.map (refV ∘ V.ref) = xs := (List.map_congr_left fun _ _ => rfl).trans (List.map_id _)
    rw [e] at q
    exact q
theorem cut1 {zs : List Str} (c : Bool) : cutV (zs.map V.str) none (some ((1 : Int) + (if c then 1 else 0))) = (zs.take (1 + if c then 1 else 0)).map V.str := by
  have e : ((1 : Int) + (if c then 1 else 0)) = ((1 + (if c then 1 else 0) : Nat) : Int) := by cases c <;> rfl
  rw [e, cutV_map, HT.sIx_none, HT.sIx_nat]
  simp only [List.drop_zero, Nat.sub_zero]
  congr 1
  rcases Nat.le_total (1 + if c then 1 else 0) zs.length with h | h
  · rw [Nat.min_eq_left h]
  · rw [Nat.min_eq_right h, List.take_length, List.take_of_length_le h]
theorem snoc_ok {cs : List Ask} {ks us ts : List Str} {y : Str} {m : Int} (h : ∀ c ∈ cs, (AskOk c ∧ c.ks.length ≤ 2) ∧ ∀ z ∈ c.ks, z ∈ ks) (hy : IsWord y) (hw : ∀ z ∈ ks, IsWord z) (tm : ∀ z ∈ ts, z ∈ ks) (pu : us.Perm ts) (tn : ts.Nodup) (tl : 1 ≤ ts.length ∧ ts.length ≤ 2) (so : sortedS us = true) (hm : 1 ≤ m) :
    ∀ c ∈ cs ++ [⟨y, us, m⟩], (AskOk c ∧ c.ks.length ≤ 2) ∧ ∀ z ∈ c.ks, z ∈ ks := by
  intro c hc
  have lu := pu.length_eq
  rcases List.mem_append.mp hc with hc | hc
  · exact h c hc
  · obtain rfl := List.mem_singleton.mp hc
    refine ⟨⟨⟨hy, fun z hz => hw z (tm z (pu.mem_iff.mp hz)), pu.nodup_iff.mpr tn, fun z => ?_, ?_, so, hm⟩, by show us.length ≤ 2; omega⟩, fun z hz => tm z (pu.mem_iff.mp hz)⟩
    · rw [show us = [] from z] at lu
      simp at lu
      omega
    · show us.length < 64
      omega
section
variable {P : Program} {w : World} {K : PySem.W.Frag} {mg : Str → Option Value} {base : Heap} {fM fD fO fS fW : Addr} {dM dD dO dS dW : FuncData} {CA fI pN gN pF gF pM gM fE : Addr}
/-! ### _law_few -/
def spFew (K : PySem.W.Frag) (CA : Addr) : Sp := fun vs H Q _ => ∃ (p l : Addr) (ks : List Str) (m : Int) (n : Nat), vs = [.ref p, .int m, .ref l] ∧ PurseAt H p n ∧ n ≤ 70000000000 ∧ 1 ≤ m ∧ SqL K H l (ks.map V.str) ∧ l ≠ p ∧ (∀ y ∈ ks, IsWord y) ∧ ks.Nodup ∧ 1 ≤ ks.length ∧ ks.length ≤ 60 ∧
  ∀ (H' : Hp) (q : Addr) (as : List Addr) (cs : List Ask), Kp p H H' → PurseAt H' p (n + 26000) → H q = none → H' q = some (.lst (as.map V.ref)) → Asks CA H' as cs → (cs.map Ask.nm).Nodup → 1 ≤ cs.length → (cs.length : Int) ≤ m → (∀ c ∈ cs, (AskOk c ∧ c.ks.length ≤ 2) ∧ ∀ y ∈ c.ks, y ∈ ks) → Q (.ref q) H'
theorem ok_few {f fNames : Addr} {fd dNames : FuncData} (F : Fun K "_law_few" "_law_few" sFew f fd) (L : Drw K mg fM fD fO fS fW dM dD dO dS dW) (B : Blt mg) (FNames : Fun K "_law_names" "_law_names" sNames fNames dNames) (gNames : mg "_law_names" = some (.ref fNames)) (TA : ACls K CA fI pN gN pF gF pM gM fE) (gA : mg "Asker" = some (.ref CA))
    {dAI : FuncData} (GAInit : FnOk P w K mg base CX0 3 fI dAI ["self", "name", "fits", "most"] (spAInit K CA)) (bAInit : Binds K dAI ["self", "name", "fits", "most"] []) : FnOk P w K mg base CX0 5 f fd ["_law_purse_here", "_law_many", "_law_kinds_here"] (spFew K CA) := by
  have GDraw : FnOk P w K mg base CX0 2 fD dD ["_law_purse_here", "_law_many"] spDraw := L.okDraw B
  have GShuffled : FnOk P w K mg base CX0 3 fS dS ["_law_purse_here", "_law_some"] (spShuffled K) := L.okShuffled B
  have GNames : FnOk P w K mg base CX0 4 fNames dNames ["_law_purse_here", "_law_many"] spPick := ok_lawNames FNames L B
  have bNames : Binds K dNames ["_law_purse_here", "_law_many"] [] := FNames.binds fun _ _ _ _ _ _ us hl => match us, hl with | [_, _], _ => rfl
  refine F.ok scFew (fun vs H Q E h => ?_) (fun cdv A outer s H vs Q E hr h => ?_)
  · obtain ⟨p, l, ks, m, n, rfl, _⟩ := h
    rfl
  · obtain ⟨p, l, ks, m, n, rfl, hp, hn, hm, hS, ne, hw, hnd, h1, h60, q⟩ := h
    refine ⟨_, (pss_cons (ps_set (i := 3) scFew.nd rfl (.inl rfl) (pe_lst pa_nil))
      (pss_cons (ps_for PassesOwn.never rfl (pi_list (pe_call GNames (hr.mono (by decide)) (by rfl) gNames FNames.kp bNames .nil pass0 (pa_cons (pv 0) (pa_cons (pv 1) pa_nil)))) (pg_name (i := 4) scFew.nd rfl (.inl rfl))
        (pss_cons (ps_set (i := 5) scFew.nd rfl (.inl rfl) (pe_call GShuffled (hr.mono (by decide)) (by rfl) L.gShuffled L.Shuffled.kp L.bShuffled .nil pass0 (pa_cons (pv 0) (pa_cons (pv 2) pa_nil))))
      (pss_one (ps_expr (pe_bm PySem.F.plainAttrs_list PySem.F.slot_list_append PySem.F.type_list_append mt_append (pv 3) (pa_cons (pe_make TA.make GAInit (hr.mono (by decide)) (by rfl) gA bAInit .nil pass0 (pa_cons (pv 4) (pa_cons (pe_slice sl_list (pv 5) po_none (po_some (pe_op op_add pe_int (pe_callTy call_int1 (by rfl) B.int (by decide +kernel) (pa_cons (pe_cmpR op_eq (pe_call GDraw (hr.mono (by decide)) (by rfl) L.gDraw L.Draw.kp L.bDraw .nil pass0 (pa_cons (pv 0) (pa_cons pe_int pa_nil))) pe_int (nomark _)) pa_nil))))) (pa_cons (pe_op op_add pe_int (pe_call GDraw (hr.mono (by decide)) (by rfl) L.gDraw L.Draw.kp L.bDraw .nil pass0 (pa_cons (pv 0) (pa_cons pe_int pa_nil)))) pa_nil)))) pa_nil))))))
      (pss_one (ps_ret (pv 3))))), ?_⟩
    refine ⟨(by show 0 ≤ sizeLine; decide), fun fnd nf => ?_⟩
    have nfp : fnd ≠ p := Kp.ne hp nf
    refine ⟨.ref p, rfl, .int m, rfl, p, m, n, rfl, hp.fresh nf, by omega, hm, fun H2 a ys k2 p2 na ea yw ynd y1 y9 ym _ => ?_⟩
    have nap : a ≠ p := Kp.ne (hp.fresh nf) na
    have naf : a ≠ fnd := fun z => by rw [z, upd_same] at na; cases na
    have k02 : Kp p H H2 := (Kept.of_same (Same.fresh nf)).trans k2
    refine ⟨a, rfl, ⟨_, SqL.of ea⟩, for_list (K := K) (a := a) (xs := ys.map V.str) (fun i σ G => ∃ (as : List Addr) (cs : List Ask) (v4 v5 : Option V), σ = [some (.ref p), some (.int m), some (.ref l), some (.ref fnd), v4, v5] ∧ Kp p H G ∧ PurseAt G p (n + 840 + 2500 * i) ∧ G a = some (.lst (ys.map V.str)) ∧ G fnd = some (.lst (as.map V.ref)) ∧ Asks CA G as cs ∧ cs.map Ask.nm = ys.take i ∧ (∀ c ∈ cs, (AskOk c ∧ c.ks.length ≤ 2) ∧ ∀ y ∈ c.ks, y ∈ ks))
      ⟨[], [], _, _, rfl, k02, p2.mono (by omega), ea, k2 fnd _ nfp upd_same, .nil, rfl, (fun c hc => absurd hc List.not_mem_nil)⟩ (fun i σ G _ ⟨_, _, _, _, _, _, _, e, _⟩ => SqL.of e) ?_ ?_⟩
    · rintro i v σ G hi ⟨as, cs, v4, v5, rfl, kG, pG, eaG, ef, hA, hnm, hok⟩
      obtain ⟨y, hy, rfl⟩ := str_at hi
      have hi' : i < ys.length := (List.getElem?_eq_some_iff.mp hy).1
      have hyw := yw y (List.mem_of_getElem? hy)
      have lcs : cs.length = i := by
        have := congrArg List.length hnm
        rw [List.length_map, List.length_take] at this
        omega
      have las := hA.len
      refine ⟨.ref p, rfl, .ref l, rfl, p, l, _, _, rfl, pG, by omega, Kp.sql kG ne hS, ne, by rw [List.length_map]; exact h60, fun G1 a1 zs1 k1 p1 na1 e1 pm => ?_⟩
      obtain ⟨zs, rfl, pz⟩ := perm_strs pm
      rw [List.length_map] at p1
      have ef1 := k1 fnd _ nfp ef
      have na1p : a1 ≠ p := Kp.ne pG na1
      refine ⟨.ref fnd, rfl, .inl ⟨rfl, _, SqL.of ef1⟩, .str y, rfl, .ref a1, rfl, .ref p, rfl, p, 3, _, rfl, p1, by omega, by decide, by decide +kernel, fun G2 r b2 p2' r0 r1 => ⟨rfl, .inr ⟨_, rfl, 1, _, rfl, rfl, _, rfl, a1, _, rfl, SqL.of ((b2 a1 na1p).trans e1), fun c nc => ?_⟩⟩⟩
      rw [cut1]
      generalize hcb : decide (V.int r = V.int 0) = cb
      have ncp : c ≠ p := Kp.ne p2' nc
      have s3 := Same.fresh (o := .lst ((zs.take (1 + if cb = true then 1 else 0)).map V.str)) nc
      refine ⟨.ref p, rfl, p, 3, _, rfl, p2'.fresh nc, by omega, by decide, by decide +kernel, fun G4 r' b4 p4 r0' r1' => ⟨1, r', rfl, rfl, ?_⟩⟩
      have ec : G4 c = some (.lst ((zs.take (1 + if cb = true then 1 else 0)).map V.str)) := (b4 c ncp).trans upd_same
      have ka : Kp p G G4 := k1.trans ((Kp.of_but b2).trans ((Kept.of_same s3).trans (Kp.of_but b4)))
      have hA4 : Asks CA G4 as cs := ka.asks pG hA
      have lz := pz.length_eq
      have tm : ∀ z ∈ zs.take (1 + if cb = true then 1 else 0), z ∈ ks := fun z hz => pz.mem_iff.mp (List.mem_of_mem_take hz)
      have tl : 1 ≤ (zs.take (1 + if cb = true then 1 else 0)).length ∧ (zs.take (1 + if cb = true then 1 else 0)).length ≤ 2 := by
        rw [List.length_take]
        cases cb <;> simp <;> omega
      have tn : (zs.take (1 + if cb = true then 1 else 0)).Nodup := (pz.nodup_iff.mpr hnd).sublist (List.take_sublist _ _)
      refine made_asker (ys := zs.take (1 + if cb = true then 1 else 0)) hyw (SqL.of ec) (fun z hz => hw z (tm z hz)) tn (fun z => by rw [z] at tl; simp at tl) (by omega) (by omega) fun G5 x us s4 nx A pu so => ?_
      have ef4 : G5 fnd = some (.lst (as.map V.ref)) := s4 _ _ (ka fnd _ nfp ef)
      have kAll : Kp p H G5 := kG.trans (ka.trans (Kp.same s4))
      refine ⟨fnd, _, .ref x, rfl, rfl, ef4, by rw [List.length_map, sizeLine_eq]; omega, ?_⟩
      refine ⟨as ++ [x], cs ++ [⟨y, us, 1 + r'⟩], _, _, rfl, (kAll.put nf), ((p4.same s4).mono (by omega)).put nfp, ?_, ?_, Asks.put ef4 ((hA4.same s4).snoc A), ?_, ?_⟩
      · rw [upd_ne naf]
        exact s4 _ _ (ka a _ nap eaG)
      · rw [upd_same, List.map_append]
        rfl
      · rw [List.map_append, hnm, List.take_add_one, hy]
        rfl
      · exact snoc_ok hok hyw hw tm pu tn tl so (by omega)
    · rintro σ G ⟨as, cs, v4, v5, rfl, kG, pG, eaG, ef, hA, hnm, hok⟩
      rw [List.length_map, List.take_length] at hnm
      have lcs : cs.length = ys.length := by rw [← hnm, List.length_map]
      exact ⟨.ref fnd, rfl, q G fnd as cs kG (pG.mono (by rw [List.length_map]; omega)) nf ef hA (by rw [hnm]; exact ynd) (by omega) (by rw [lcs]; exact ym) hok⟩
end
end Eld
end L2

set_option Elab.async false
set_option linter.all false
set_option maxRecDepth 100000
set_option maxHeartbeats 4000000
/-! ## forests, parents, forebears -/
namespace L2
namespace Eld
open PySem PySem.Spec PyProof.Rows PySem.EldX
/-- rows of a name and of whom it has above it -/
structure RowsL (H : Hp) (ts : List Addr) (ks : List Ask) (ps : List (Option Nat)) : Prop where
  len : ts.length = ps.length
  at_ : ∀ (i : Nat) t, ts[i]? = some t → H t = some (.tup [.str (nmA ks i), parV ks ps i])
theorem RowsL.same {H H' : Hp} {ts : List Addr} {ks : List Ask} {ps : List (Option Nat)} (h : RowsL H ts ks ps) (s : Same H H') : RowsL H' ts ks ps := ⟨h.len, fun i t e => s _ _ (h.at_ i t e)⟩
theorem RowsL.nth {H : Hp} {ts : List Addr} {ks : List Ask} {ps : List (Option Nat)} (h : RowsL H ts ks ps) {i : Nat} (hi : i < ps.length) : ∃ t, ts[i]? = some t ∧ H t = some (.tup [.str (nmA ks i), parV ks ps i]) := by
  have e : ts[i]? = some (ts[i]'(by rw [h.len]; exact hi)) := List.getElem?_eq_getElem _
  exact ⟨_, e, h.at_ i _ e⟩
theorem rows_of {H : Hp} {ts : List Addr} {ks : List Ask} {ps : List (Option Nat)} (h : Paired (fun (t : Addr) (q : Key × V) => H t = some (.tup [kV q.1, q.2])) ts (parD ks ps)) : RowsL H ts ks ps := by
  refine ⟨by rw [h.length, keyed_length], fun i t e => ?_⟩
  obtain ⟨y, e2, h2⟩ := LiI.paired_get h e
  have hi : i < ps.length := by
    have := (List.getElem?_eq_some_iff.mp e2).1
    rwa [keyed_length] at this
  unfold parD keyed at e2
  rw [List.getElem?_map, List.getElem?_range hi] at e2
  obtain rfl := Option.some.inj e2
  exact h2
section
variable {P : Program} {w : World} {K : PySem.W.Frag} {mg : Str → Option Value} {base : Heap} {CA fI pN gN pF gF pM gM fE CL fLI fLE fLL fLA fLN fLK fLR fLP : Addr}
/-- a line as the functions of orders want it -/
structure LG (CL CA : Addr) (H : Hp) (a : Addr) (as : List Addr) (ks : List Ask) (U : List Str) : Prop where
  line : LineAt CL CA H a as ks
  nd : (ks.map Ask.nm).Nodup
  le : ks.length ≤ 900
  u64 : U.length ≤ 64
  sub : ∀ k ∈ ks, k.ks.Nodup ∧ ∀ x ∈ k.ks, x ∈ U
theorem LG.same {H H' : Hp} {a : Addr} {as : List Addr} {ks : List Ask} {U : List Str} (h : LG CL CA H a as ks U) (s : Same H H') : LG CL CA H' a as ks U := ⟨h.line.same s, h.nd, h.le, h.u64, h.sub⟩
/-! ### forest -/
def spForest (CL CA : Addr) : Sp := fun vs H Q _ => ∃ (a : Addr) (as : List Addr) (ks : List Ask) (U : List Str), vs = [.ref a] ∧ LG CL CA H a as ks U ∧
  ∀ (H' : Hp) (p : Addr) (ts : List Addr) (ps : List (Option Nat)), Same H H' → H p = none → (∀ t ∈ ts, H t = none) → p ∉ ts → H' p = some (.lst (ts.map V.ref)) → RowsL H' ts ks ps → Elim (lkA ks) ps → ps.length = ks.length → Q (.ref p) H'
theorem ok_forest {f fNeedLine fParents fShare : Addr} {fd dNeedLine dParents dShare dAN dAF dLN dLP dLA : FuncData} (F : Fun K "forest" "forest" sForest f fd) (B : Blt mg) (B2 : Blt2 mg) (FNeedLine : Fun K "need_line" "need_line" sNeedLine fNeedLine dNeedLine) (gNeedLine : mg "need_line" = some (.ref fNeedLine)) (FParents : Fun K "_parents" "_parents" sParents fParents dParents) (gParents : mg "_parents" = some (.ref fParents)) (FShare : Fun K "_share" "_share" sShare fShare dShare) (gShare : mg "_share" = some (.ref fShare))
    (TA : ACls K CA fI pN gN pF gF pM gM fE) (FAN : Fun K "name" "Asker.name" sAName gN dAN) (FAF : Fun K "fits" "Asker.fits" sAFits gF dAF) (T : LCls K CL fLI fLE fLL fLA fLN fLK fLR fLP) (gL : mg "Line" = some (.ref CL)) (FLN : Fun K "names" "Line.names" sLNames fLN dLN) (FLP : Fun K "place" "Line.place" sLPlace fLP dLP) (FLA : Fun K "askers" "Line.askers" sLAskers fLA dLA) : FnOk P w K mg base CX0 5 f fd ["line"] (spForest CL CA) := by
  have GNeedLine : FnOk P w K mg base CX0 1 fNeedLine dNeedLine ["value"] (spNeedLine CL CA) := ok_needLine FNeedLine B T gL
  have bNeedLine : Binds K dNeedLine ["value"] [] := FNeedLine.binds fun _ _ _ _ _ _ us hl => match us, hl with | [_], _ => rfl
  have GLPlace : FnOk P w K mg base CX0 4 fLP dLP ["self", "name"] (spLPlace CL CA) := ok_lplace FLP B TA FAN T FLN
  have bLPlace : Binds K dLP ["self", "name"] [] := FLP.binds fun _ _ _ _ _ _ us hl => match us, hl with | [_, _], _ => rfl
  have GLAskers : FnOk P w K mg base CX0 1 fLA dLA ["self"] (spLAskers CL CA) := ok_laskers FLA B T
  have bLAskers : Binds K dLA ["self"] [] := FLA.binds fun _ _ _ _ _ _ us hl => match us, hl with | [_], _ => rfl
  have GParents : FnOk P w K mg base CX0 3 fParents dParents ["askers"] (spParents K CA) := ok_parents FParents B B2 FShare gShare TA FAN FAF
  have bParents : Binds K dParents ["askers"] [] := FParents.binds fun _ _ _ _ _ _ us hl => match us, hl with | [_], _ => rfl
  refine F.ok scForest (fun vs H Q E h => ?_) (fun cdv A outer s H vs Q E hr h => ?_)
  · obtain ⟨a, as, ks, U, rfl, _⟩ := h
    rfl
  · obtain ⟨a, as, ks, U, rfl, hL, q⟩ := h
    obtain ⟨dx, t, h1, h2, h3⟩ := id hL.line
    refine ⟨_, (pss_cons (ps_expr (pe_call GNeedLine (hr.mono (by decide)) (by rfl) gNeedLine FNeedLine.kp bNeedLine .nil pass0 (pa_cons (pv 0) pa_nil)))
      (pss_one (ps_ret (LiI.pe_listItems rfl (pe_call GParents (hr.mono (by decide)) (by rfl) gParents FParents.kp bParents .nil pass0 (pa_cons (pe_meth0 (pv 0) T.ins.cl T.mA GLAskers (hr.mono (by decide)) bLAskers .nil pass0) pa_nil)) (by rfl) B.list (by decide +kernel))))), ?_⟩
    refine ⟨.ref a, rfl, a, as, ks, rfl, hL.line, ?_⟩
    refine ⟨.ref a, rfl, a, dx, _, rfl, h1, rfl, a, as, ks, rfl, hL.line, fun p1 np1 => ?_⟩
    have s1 := Same.fresh (o := .lst (as.map V.ref)) np1
    refine ⟨p1, as, ks, U, rfl, SqL.of upd_same, h3.same s1, hL.nd, hL.le, hL.u64, hL.sub, fun H3 p3 ps s3 np3 e3 E3 l3 => ?_⟩
    refine ⟨p3, _, rfl, e3, fun H4 p4 ts s4 np4 nts npt e4 hp => ?_⟩
    have s13 := s1.trans s3
    exact q H4 p4 ts ps (s13.trans s4) (Same.free s13 np4) (fun t ht => Same.free s13 (nts t ht)) npt e4 (rows_of hp) E3 l3
/-! ### parent -/
def spParent (CL CA : Addr) : Sp := fun vs H Q _ => ∃ (a : Addr) (as : List Addr) (ks : List Ask) (U : List Str) (i : Nat), vs = [.ref a, .str (nmA ks i)] ∧ LG CL CA H a as ks U ∧ i < ks.length ∧
  ∀ (H' : Hp) (ps : List (Option Nat)), Same H H' → Elim (lkA ks) ps → ps.length = ks.length → Q (parV ks ps i) H'
theorem ok_parent {f fNeedLine fParents fShare : Addr} {fd dNeedLine dParents dShare dAN dAF dLN dLP dLA : FuncData} (F : Fun K "parent" "parent" sParent f fd) (B : Blt mg) (B2 : Blt2 mg) (FNeedLine : Fun K "need_line" "need_line" sNeedLine fNeedLine dNeedLine) (gNeedLine : mg "need_line" = some (.ref fNeedLine)) (FParents : Fun K "_parents" "_parents" sParents fParents dParents) (gParents : mg "_parents" = some (.ref fParents)) (FShare : Fun K "_share" "_share" sShare fShare dShare) (gShare : mg "_share" = some (.ref fShare))
    (TA : ACls K CA fI pN gN pF gF pM gM fE) (FAN : Fun K "name" "Asker.name" sAName gN dAN) (FAF : Fun K "fits" "Asker.fits" sAFits gF dAF) (T : LCls K CL fLI fLE fLL fLA fLN fLK fLR fLP) (gL : mg "Line" = some (.ref CL)) (FLN : Fun K "names" "Line.names" sLNames fLN dLN) (FLP : Fun K "place" "Line.place" sLPlace fLP dLP) (FLA : Fun K "askers" "Line.askers" sLAskers fLA dLA) : FnOk P w K mg base CX0 6 f fd ["line", "name"] (spParent CL CA) := by
  have GNeedLine : FnOk P w K mg base CX0 1 fNeedLine dNeedLine ["value"] (spNeedLine CL CA) := ok_needLine FNeedLine B T gL
  have bNeedLine : Binds K dNeedLine ["value"] [] := FNeedLine.binds fun _ _ _ _ _ _ us hl => match us, hl with | [_], _ => rfl
  have GLPlace : FnOk P w K mg base CX0 4 fLP dLP ["self", "name"] (spLPlace CL CA) := ok_lplace FLP B TA FAN T FLN
  have bLPlace : Binds K dLP ["self", "name"] [] := FLP.binds fun _ _ _ _ _ _ us hl => match us, hl with | [_, _], _ => rfl
  have GLAskers : FnOk P w K mg base CX0 1 fLA dLA ["self"] (spLAskers CL CA) := ok_laskers FLA B T
  have bLAskers : Binds K dLA ["self"] [] := FLA.binds fun _ _ _ _ _ _ us hl => match us, hl with | [_], _ => rfl
  have GParents : FnOk P w K mg base CX0 3 fParents dParents ["askers"] (spParents K CA) := ok_parents FParents B B2 FShare gShare TA FAN FAF
  have bParents : Binds K dParents ["askers"] [] := FParents.binds fun _ _ _ _ _ _ us hl => match us, hl with | [_], _ => rfl
  refine F.ok scParent (fun vs H Q E h => ?_) (fun cdv A outer s H vs Q E hr h => ?_)
  · obtain ⟨a, as, ks, U, i, rfl, _⟩ := h
    rfl
  · obtain ⟨a, as, ks, U, i, rfl, hL, hi, q⟩ := h
    obtain ⟨dx, t, h1, h2, h3⟩ := id hL.line
    have hle := hL.le
    have inj := nmA_inj hL.nd
    refine ⟨_, (pss_cons (ps_expr (pe_call GNeedLine (hr.mono (by decide)) (by rfl) gNeedLine FNeedLine.kp bNeedLine .nil pass0 (pa_cons (pv 0) pa_nil)))
      (pss_cons (ps_expr (pe_meth (pv 0) T.ins.cl T.mP GLPlace (hr.mono (by decide)) bLPlace .nil pass0 (pa_cons (pv 1) pa_nil)))
      (pss_one (ps_ret (pe_dget (hu_of hr) (pe_call GParents (hr.mono (by decide)) (by rfl) gParents FParents.kp bParents .nil pass0 (pa_cons (pe_meth0 (pv 0) T.ins.cl T.mA GLAskers (hr.mono (by decide)) bLAskers .nil pass0) pa_nil)) (pv 1) (fun _ _ => rfl)))))), ?_⟩
    refine ⟨.ref a, rfl, a, as, ks, rfl, hL.line, .ref a, rfl, a, dx, _, rfl, h1, rfl, .str (nmA ks i), rfl, a, as, ks, nmA ks i, i, ks[i], rfl, hL.line, by omega, hL.nd, List.getElem?_eq_getElem hi, (nmA_at (List.getElem?_eq_getElem hi)).symm, fun H1 s1 => ?_⟩
    refine ⟨.ref a, rfl, a, dx, _, rfl, s1 _ _ h1, rfl, a, as, ks, rfl, hL.line.same s1, fun p1 np1 => ?_⟩
    have s2 := s1.trans (Same.fresh (o := .lst (as.map V.ref)) np1)
    refine ⟨p1, as, ks, U, rfl, SqL.of upd_same, h3.same s2, hL.nd, hL.le, hL.u64, hL.sub, fun H3 p3 ps s3 np3 e3 E3 l3 => ?_⟩
    have hip : i < ps.length := by omega
    exact ⟨.str (nmA ks i), rfl, p3, parV ks ps i, rfl, .inl ⟨_, .inr (nmA ks i), .inl e3, rfl, (valV_keyed (by rw [l3]; exact inj) hip).symm⟩, q H3 ps (s2.trans s3) E3 l3⟩
/-! ### touched -/
def spTouched (CL CA : Addr) : Sp := fun vs H Q _ => ∃ (a : Addr) (as : List Addr) (ks : List Ask) (U : List Str) (i : Nat), vs = [.ref a, .str (nmA ks i)] ∧ LG CL CA H a as ks U ∧ i < ks.length ∧
  ∀ (H' : Hp) (p : Addr) (ps : List (Option Nat)) (fs : List Nat), Same H H' → H p = none → H' p = some (.lst (nmsV ks fs)) → Elim (lkA ks) ps → ps.length = ks.length → Fore ps i fs → Q (.ref p) H'
theorem ok_touched {f fNeedLine fParents fShare fFore : Addr} {fd dNeedLine dParents dShare dFore dAN dAF dLN dLP dLA : FuncData} (F : Fun K "touched" "touched" sTouched f fd) (B : Blt mg) (B2 : Blt2 mg) (FNeedLine : Fun K "need_line" "need_line" sNeedLine fNeedLine dNeedLine) (gNeedLine : mg "need_line" = some (.ref fNeedLine)) (FParents : Fun K "_parents" "_parents" sParents fParents dParents) (gParents : mg "_parents" = some (.ref fParents)) (FShare : Fun K "_share" "_share" sShare fShare dShare) (gShare : mg "_share" = some (.ref fShare))
    (TA : ACls K CA fI pN gN pF gF pM gM fE) (FAN : Fun K "name" "Asker.name" sAName gN dAN) (FAF : Fun K "fits" "Asker.fits" sAFits gF dAF) (T : LCls K CL fLI fLE fLL fLA fLN fLK fLR fLP) (gL : mg "Line" = some (.ref CL)) (FLN : Fun K "names" "Line.names" sLNames fLN dLN) (FLP : Fun K "place" "Line.place" sLPlace fLP dLP) (FLA : Fun K "askers" "Line.askers" sLAskers fLA dLA) (FFore : Fun K "_forebears" "_forebears" sForebears fFore dFore) (gFore : mg "_forebears" = some (.ref fFore)) : FnOk P w K mg base CX0 6 f fd ["line", "name"] (spTouched CL CA) := by
  have GNeedLine : FnOk P w K mg base CX0 1 fNeedLine dNeedLine ["value"] (spNeedLine CL CA) := ok_needLine FNeedLine B T gL
  have bNeedLine : Binds K dNeedLine ["value"] [] := FNeedLine.binds fun _ _ _ _ _ _ us hl => match us, hl with | [_], _ => rfl
  have GLPlace : FnOk P w K mg base CX0 4 fLP dLP ["self", "name"] (spLPlace CL CA) := ok_lplace FLP B TA FAN T FLN
  have bLPlace : Binds K dLP ["self", "name"] [] := FLP.binds fun _ _ _ _ _ _ us hl => match us, hl with | [_, _], _ => rfl
  have GLAskers : FnOk P w K mg base CX0 1 fLA dLA ["self"] (spLAskers CL CA) := ok_laskers FLA B T
  have bLAskers : Binds K dLA ["self"] [] := FLA.binds fun _ _ _ _ _ _ us hl => match us, hl with | [_], _ => rfl
  have GParents : FnOk P w K mg base CX0 3 fParents dParents ["askers"] (spParents K CA) := ok_parents FParents B B2 FShare gShare TA FAN FAF
  have bParents : Binds K dParents ["askers"] [] := FParents.binds fun _ _ _ _ _ _ us hl => match us, hl with | [_], _ => rfl
  have GFore : FnOk P w K mg base CX0 1 fFore dFore ["parents", "name"] spFore := ok_fore FFore
  have bFore : Binds K dFore ["parents", "name"] [] := FFore.binds fun _ _ _ _ _ _ us hl => match us, hl with | [_, _], _ => rfl
  refine F.ok scTouched (fun vs H Q E h => ?_) (fun cdv A outer s H vs Q E hr h => ?_)
  · obtain ⟨a, as, ks, U, i, rfl, _⟩ := h
    rfl
  · obtain ⟨a, as, ks, U, i, rfl, hL, hi, q⟩ := h
    obtain ⟨dx, t, h1, h2, h3⟩ := id hL.line
    have hle := hL.le
    have inj := nmA_inj hL.nd
    refine ⟨_, (pss_cons (ps_expr (pe_call GNeedLine (hr.mono (by decide)) (by rfl) gNeedLine FNeedLine.kp bNeedLine .nil pass0 (pa_cons (pv 0) pa_nil)))
      (pss_cons (ps_expr (pe_meth (pv 0) T.ins.cl T.mP GLPlace (hr.mono (by decide)) bLPlace .nil pass0 (pa_cons (pv 1) pa_nil)))
      (pss_one (ps_ret (pe_call GFore (hr.mono (by decide)) (by rfl) gFore FFore.kp bFore .nil pass0 (pa_cons (pe_call GParents (hr.mono (by decide)) (by rfl) gParents FParents.kp bParents .nil pass0 (pa_cons (pe_meth0 (pv 0) T.ins.cl T.mA GLAskers (hr.mono (by decide)) bLAskers .nil pass0) pa_nil)) (pa_cons (pv 1) pa_nil))))))), ?_⟩
    refine ⟨.ref a, rfl, a, as, ks, rfl, hL.line, .ref a, rfl, a, dx, _, rfl, h1, rfl, .str (nmA ks i), rfl, a, as, ks, nmA ks i, i, ks[i], rfl, hL.line, by omega, hL.nd, List.getElem?_eq_getElem hi, (nmA_at (List.getElem?_eq_getElem hi)).symm, fun H1 s1 => ?_⟩
    refine ⟨.ref a, rfl, a, dx, _, rfl, s1 _ _ h1, rfl, a, as, ks, rfl, hL.line.same s1, fun p1 np1 => ?_⟩
    have s2 := s1.trans (Same.fresh (o := .lst (as.map V.ref)) np1)
    refine ⟨p1, as, ks, U, rfl, SqL.of upd_same, h3.same s2, hL.nd, hL.le, hL.u64, hL.sub, fun H3 p3 ps s3 np3 e3 E3 l3 => ?_⟩
    obtain ⟨fs, hf⟩ := fore_ex E3.up _ i (Nat.le_refl _) (by omega)
    obtain ⟨flt, fnd⟩ := hf.lt E3.up
    have fl : fs.length ≤ ps.length := nodup_sub_len fnd fun x hx => (flt x hx).2
    refine ⟨.str (nmA ks i), rfl, p3, ks, ps, i, fs, rfl, .inl e3, by rw [l3]; exact inj, hf, by omega, fun H4 p4 s4 np4 e4 => ?_⟩
    have s23 := s2.trans s3
    exact q H4 p4 ps fs (s23.trans s4) (Same.free s23 np4) e4 E3 l3 hf
end
end Eld
end L2

set_option Elab.async false
set_option linter.all false
set_option maxRecDepth 100000
set_option maxHeartbeats 4000000
/-! ## other names -/
namespace L2
namespace Eld
open PySem PySem.Spec PyProof.Rows PySem.EldX
section
variable {P : Program} {w : World} {K : PySem.W.Frag} {mg : Str → Option Value} {base : Heap} {CA fI pN gN pF gF pM gM fE CL fLI fLE fLL fLA fLN fLK fLR fLP : Addr}
/-! ### is_exchange -/
def spIsEx : Sp := fun vs H Q _ => ∃ (d : Addr) (kvs : List (Key × V)) (xs ys : List Str), vs = [.ref d] ∧ H d = some (.dK kvs) ∧ kvs.map Prod.fst = xs.map .inr ∧ kvs.map Prod.snd = ys.map V.str ∧ (∀ x ∈ xs, IsWord x) ∧ (∀ y ∈ ys, IsWord y) ∧ ys.Perm xs ∧ xs.length < 64 ∧ ∀ H', Same H H' → Q (.bl true) H'
theorem ok_isEx {f f1 f2 : Addr} {fd d1 d2 : FuncData} (F : Fun K "is_exchange" "is_exchange" sIsExchange f fd) (C1 : Chk K mg f1 f2 d1 d2) (B : Blt mg) (B2 : Blt2 mg) : FnOk P w K mg base CX0 2 f fd ["value"] spIsEx := by
  have GIsName : FnOk P w K mg base CX0 1 f1 d1 ["value"] spIsName := ok_isName C1.IsName B
  refine F.ok scIsExchange (fun vs H Q E h => ?_) (fun cdv A outer s H vs Q E hr h => ?_)
  · obtain ⟨d, kvs, xs, ys, rfl, _⟩ := h
    rfl
  · obtain ⟨d, kvs, xs, ys, rfl, hd, hx, hy, wx, wy, pm, h64, q⟩ := h
    refine ⟨_, (pss_cons (ps_if (pt_not (pt_val (pe_callB call_isi (by rfl) B.isinstance (by decide +kernel) (pa_cons (pv 0) (pa_cons (pe_bltn (v := .ty "dict") rfl B2.dict (by decide +kernel) rfl) pa_nil))))) (pss_one (ps_ret pe_bl)) pss_nil)
      (pss_cons (ps_if (pt_not (pt_val (pe_lock (pe_callB (cr_all rfl) (by rfl) B.all (by decide +kernel) (pa_cons (pe_lc (own := [("name", 1), ("new", 2)]) (g := gTup K 2 (gCons (gName 1) (gCons (gName 2) (gNil)))) (tt := tYes) rfl scIsExchange.nd (pi_items (pv 0)) (blkOk_by (own := [("name", 1), ("new", 2)]) (N := NIsExchange) (sc := defScope sIsExchange) (by decide +kernel)) (fun _ _ _ _ _ => (pg_tup rfl (pgs_cons (pg_name (i := 1) scIsExchange.nd rfl (.inl rfl)) (pgs_cons (pg_name (i := 2) scIsExchange.nd rfl (.inl rfl)) pgs_nil)))) (fun _ _ _ _ _ => pts_nil) (fun _ _ _ _ _ => (pe_and (pe_call GIsName (hr.mono (by decide)) (by rfl) C1.gIsName C1.IsName.kp C1.bIsName .nil pass0 (pa_cons (pv 1) pa_nil)) (pe_one (pe_call GIsName (hr.mono (by decide)) (by rfl) C1.gIsName C1.IsName.kp C1.bIsName .nil pass0 (pa_cons (pv 2) pa_nil)))))) pa_nil))))) (pss_one (ps_ret pe_bl)) pss_nil)
      (pss_one (ps_ret (pe_cmpR (op_eqD hr.units) (pe_callB (call_sortedD rfl) (by rfl) B.sorted (by decide +kernel) (pa_cons (pv 0) pa_nil)) (pe_sortedVals rfl (by rfl) B.sorted (pv 0)) (nomark _)))))), ?_⟩
    refine ⟨.ref d, rfl, .ref d, .ty "dict", _, _, true, rfl, .ty _, .base (.dK hd), kit_ty (by decide +kernel), true, rfl, iteF ?_⟩
    have lx : kvs.length = xs.length := by
      have := congrArg List.length hx
      simpa using this
    have ly : kvs.length = ys.length := by
      have := congrArg List.length hy
      simpa using this
    have nD : ∀ {D : Addr} {od : Obj}, upd H d (.frz od (.dK kvs)) D = none → D ≠ d := fun {D od} h e => by
      rw [e, upd_same] at h
      cases h
    refine ⟨d, .dK kvs, hd, trivial, fun od => ⟨.ref d, rfl, d, od, kvs, rfl, upd_same, fun D hD => ?_⟩⟩
    refine lc_foldY walk_items (fun i acc _ => acc = (List.replicate i true).map V.bl) (by rw [sizeLine_eq]; omega) hD rfl (fun G s => s _ _ upd_same) ypair_same (fun _ _ _ _ _ _ _ p => p) ?_ ?_
    · rintro i x acc G G' hi sG _ ⟨T, u, v, rfl, nT, rfl, hu, hv⟩ rfl N M hN hM
      obtain ⟨kv, hkv⟩ : ∃ kv, kvs[i]? = some kv := ⟨_, List.getElem?_eq_getElem hi⟩
      have e1 : (kvs.map Prod.fst)[i]? = some kv.1 := by rw [List.getElem?_map, hkv]; rfl
      have e2 : (kvs.map Prod.snd)[i]? = some kv.2 := by rw [List.getElem?_map, hkv]; rfl
      change Option.map (fun kv : Key × V => kV kv.1) kvs[i]? = some u at hu
      change Option.map Prod.snd kvs[i]? = some v at hv
      rw [hkv] at hu hv
      rw [hx, List.getElem?_map] at e1
      obtain ⟨a, ha, ea⟩ := Option.map_eq_some_iff.mp e1
      rw [hy, List.getElem?_map] at e2
      obtain ⟨b, hb, eb⟩ := Option.map_eq_some_iff.mp e2
      have eu : u = .str a := by
        rw [← Option.some.inj hu]
        show kV kv.1 = _
        rw [← ea]
        rfl
      have ev : v = .str b := by
        rw [← Option.some.inj hv]
        exact eb.symm
      subst eu
      subst ev
      refine ⟨T, [.str a, .str b], rfl, SqT.of upd_same, rfl, .str a, [.str b], rfl, .str b, [], rfl, rfl, rfl, ?_⟩
      unfold tYes
      show (if true = true then _ else _)
      rw [if_pos rfl]
      refine ⟨.str a, rfl, a, rfl, wx a (List.mem_of_getElem? ha), fun G2 s2 => ⟨true, rfl, iteT ⟨.str b, rfl, b, rfl, wy b (List.mem_of_getElem? hb), fun G3 s3 => hN _ G3 (s2.trans s3) ?_⟩⟩⟩
      rw [List.replicate_succ', List.map_append]
      rfl
    · rintro G acc sG eD rfl
      have ed : G d = some (.frz od (.dK kvs)) := sG _ _ upd_same
      refine ⟨D, List.replicate kvs.length true, rfl, SqL.of eD, ⟨ed, true, congrArg V.bl (all_true fun i b hb => ?_), iteF ?_⟩⟩
      · obtain ⟨h1, h2⟩ := List.getElem?_eq_some_iff.mp hb
        rw [← h2, List.getElem_replicate]
      · have s1 : Same H (upd G d (.dK kvs)) := fun b o e => by
          by_cases hb : b = d
          · rw [hb, hd] at e
            rw [hb, upd_same]
            exact e
          · rw [upd_ne hb]
            exact sG b o (by rw [upd_ne hb]; exact e)
        have ed1 : upd G d (.dK kvs) d = some (.dK kvs) := upd_same
        generalize upd G d (.dK kvs) = G1 at s1 ed1
        refine ⟨.ref d, rfl, d, kvs, xs, rfl, .inl ed1, hx, h64, fun zs p pz sz np => ⟨.ref d, rfl, d, kvs, ys, rfl, .inl ((Same.fresh np) _ _ ed1), hy, by have := pm.length_eq; omega, fun us r pu su nr => ?_⟩⟩
        have s2 := Same.fresh (o := .lst (zs.map V.str)) np
        have s3 := Same.fresh (o := .lst (us.map V.str)) nr
        have ez : zs = us := sorted_eq (pz.trans (pm.symm.trans pu.symm)) sz su
        subst ez
        have wz : ∀ z ∈ zs, IsWord z := fun z hz => wx z (pz.mem_iff.mp hz)
        refine ⟨_, _, dp_sts (SqL.of (s3 _ _ upd_same)), dp_sts (SqL.of upd_same), shaped_sts wz, shaped_sts wz, ?_⟩
        rw [eqv_same (shaped_sts wz)]
        exact q _ (s1.trans (s2.trans s3))
/-! ### recalled -/
theorem ok_needEx {f fIsEx f1 f2 : Addr} {fd dIsEx d1 d2 : FuncData} (F : Fun K "_need_exchange" "_need_exchange" sNeedExchange f fd) (FIsExchange : Fun K "is_exchange" "is_exchange" sIsExchange fIsEx dIsEx) (gIsExchange : mg "is_exchange" = some (.ref fIsEx)) (C1 : Chk K mg f1 f2 d1 d2) (B : Blt mg) (B2 : Blt2 mg) :
    FnOk P w K mg base CX0 3 f fd ["value"] (fun vs H Q _ => ∃ (d : Addr) (kvs : List (Key × V)) (xs ys : List Str), vs = [.ref d] ∧ H d = some (.dK kvs) ∧ kvs.map Prod.fst = xs.map .inr ∧ kvs.map Prod.snd = ys.map V.str ∧ (∀ x ∈ xs, IsWord x) ∧ (∀ y ∈ ys, IsWord y) ∧ ys.Perm xs ∧ xs.length < 64 ∧ ∀ H', Same H H' → Q .non H') := by
  have GIsExchange : FnOk P w K mg base CX0 2 fIsEx dIsEx ["value"] spIsEx := ok_isEx FIsExchange C1 B B2
  have bIsExchange : Binds K dIsEx ["value"] [] := FIsExchange.binds fun _ _ _ _ _ _ us hl => match us, hl with | [_], _ => rfl
  refine F.ok scNeedExchange (fun vs H Q E h => ?_) (fun cdv A outer s H vs Q E hr h => ?_)
  · obtain ⟨d, kvs, xs, ys, rfl, _⟩ := h
    rfl
  · obtain ⟨d, kvs, xs, ys, rfl, hd, hx, hy, wx, wy, pm, h64, q⟩ := h
    refine ⟨_, (pss_one (ps_if (pt_not (pt_val (pe_call GIsExchange (hr.mono (by decide)) (by rfl) gIsExchange FIsExchange.kp bIsExchange .nil pass0 (pa_cons (pv 0) pa_nil)))) (pss_one (ps_dead _)) pss_nil)), ?_⟩
    exact ⟨.ref d, rfl, d, kvs, xs, ys, rfl, hd, hx, hy, wx, wy, pm, h64, fun H1 s1 => ⟨true, rfl, iteF (q H1 s1)⟩⟩
end
end Eld
end L2

set_option Elab.async false
set_option linter.all false
set_option maxRecDepth 100000
set_option maxHeartbeats 4000000
/-! ## a line whose askers have other names -/
namespace L2
namespace Eld
open PySem PySem.Spec PyProof.Rows PySem.EldX
section
variable {P : Program} {w : World} {K : PySem.W.Frag} {mg : Str → Option Value} {base : Heap} {CA fI pN gN pF gF pM gM fE CL fLI fLE fLL fLA fLN fLK fLR fLP : Addr}
theorem refs_of {acc : List V} (h : ∀ v ∈ acc, ∃ a : Addr, v = .ref a) : ∃ as : List Addr, acc = as.map V.ref := by
  induction acc with
  | nil => exact ⟨[], rfl⟩
  | cons v acc ih =>
    obtain ⟨a, rfl⟩ := h v List.mem_cons_self
    obtain ⟨as, rfl⟩ := ih fun x hx => h x (List.mem_cons_of_mem _ hx)
    exact ⟨a :: as, rfl⟩
/-- the askers, renamed -/
def ren (rn : Nat → Str) (ks : List Ask) : List Ask := ks.mapIdx fun i k => ⟨rn i, k.ks, k.m⟩
theorem ren_length (rn : Nat → Str) (ks : List Ask) : (ren rn ks).length = ks.length := by simp [ren]
theorem ren_at {rn : Nat → Str} {ks : List Ask} {i : Nat} {k : Ask} (h : ks[i]? = some k) : (ren rn ks)[i]? = some ⟨rn i, k.ks, k.m⟩ := by simp [ren, h]
theorem ren_nm {rn : Nat → Str} {ks : List Ask} : (ren rn ks).map Ask.nm = (List.range ks.length).map rn := by
  refine List.ext_getElem? fun i => ?_
  rcases Nat.lt_or_ge i ks.length with lt | ge
  · rw [List.getElem?_map, ren_at (List.getElem?_eq_getElem lt), List.getElem?_map, List.getElem?_range lt]
    rfl
  · rw [List.getElem?_eq_none (by simpa [ren] using ge), List.getElem?_eq_none (by simpa using ge)]
/-! ### recalled -/
def spRecalled (CL CA : Addr) : Sp := fun vs H Q _ => ∃ (a d : Addr) (as : List Addr) (ks : List Ask) (rn : Nat → Str), vs = [.ref a, .ref d] ∧ LineAt CL CA H a as ks ∧ (ks.map Ask.nm).Nodup ∧ ks.length ≤ 60 ∧ (∀ k ∈ ks, AskOk k) ∧ H d = some (.dK (keyed (nmA ks) (fun i => .str (rn i)) ks.length)) ∧
  ((List.range ks.length).map rn).Perm (ks.map Ask.nm) ∧ ∀ (H' : Hp) (x : Addr) (bs : List Addr), Same H H' → H x = none → LineAt CL CA H' x bs (ren rn ks) → Q (.ref x) H'
theorem ok_recalled {f fNeedLine fNeedEx fIsEx f1 f2 : Addr} {fd dNeedLine dNeedEx dIsEx d1 d2 dAN dAF dAM dLA dAI dLI : FuncData} (F : Fun K "recalled" "recalled" sRecalled f fd) (FNeedLine : Fun K "need_line" "need_line" sNeedLine fNeedLine dNeedLine) (gNeedLine : mg "need_line" = some (.ref fNeedLine)) (FNeedExchange : Fun K "_need_exchange" "_need_exchange" sNeedExchange fNeedEx dNeedEx) (gNeedExchange : mg "_need_exchange" = some (.ref fNeedEx)) (FIsExchange : Fun K "is_exchange" "is_exchange" sIsExchange fIsEx dIsEx) (gIsExchange : mg "is_exchange" = some (.ref fIsEx)) (C1 : Chk K mg f1 f2 d1 d2) (B : Blt mg) (B2 : Blt2 mg)
    (TA : ACls K CA fI pN gN pF gF pM gM fE) (gA : mg "Asker" = some (.ref CA)) (FAN : Fun K "name" "Asker.name" sAName gN dAN) (FAF : Fun K "fits" "Asker.fits" sAFits gF dAF) (FAM : Fun K "most" "Asker.most" sAMost gM dAM) (T : LCls K CL fLI fLE fLL fLA fLN fLK fLR fLP) (gL : mg "Line" = some (.ref CL)) (FLA : Fun K "askers" "Line.askers" sLAskers fLA dLA)
    (GAInit : FnOk P w K mg base CX0 3 fI dAI ["self", "name", "fits", "most"] (spAInit K CA)) (bAInit : Binds K dAI ["self", "name", "fits", "most"] []) (GLInit : FnOk P w K mg base CX0 4 fLI dLI ["self", "askers"] (spLInit K CL CA)) (bLInit : Binds K dLI ["self", "askers"] []) : FnOk P w K mg base CX0 6 f fd ["line", "names"] (spRecalled CL CA) := by
  have GNeedLine : FnOk P w K mg base CX0 1 fNeedLine dNeedLine ["value"] (spNeedLine CL CA) := ok_needLine FNeedLine B T gL
  have bNeedLine : Binds K dNeedLine ["value"] [] := FNeedLine.binds fun _ _ _ _ _ _ us hl => match us, hl with | [_], _ => rfl
  have GLAskers : FnOk P w K mg base CX0 1 fLA dLA ["self"] (spLAskers CL CA) := ok_laskers FLA B T
  have bLAskers : Binds K dLA ["self"] [] := FLA.binds fun _ _ _ _ _ _ us hl => match us, hl with | [_], _ => rfl
  have GNeedExchange := ok_needEx (P := P) (w := w) (base := base) FNeedExchange FIsExchange gIsExchange C1 B B2
  have bNeedExchange : Binds K dNeedEx ["value"] [] := FNeedExchange.binds fun _ _ _ _ _ _ us hl => match us, hl with | [_], _ => rfl
  have GAName : FnOk P w K mg base CX0 1 gN dAN ["self"] (spAName CA) := ok_aname FAN TA
  have bAName : Binds K dAN ["self"] [] := FAN.binds fun _ _ _ _ _ _ us hl => match us, hl with | [_], _ => rfl
  have GAFits : FnOk P w K mg base CX0 1 gF dAF ["self"] (spAFits CA) := ok_afits FAF B TA
  have bAFits : Binds K dAF ["self"] [] := FAF.binds fun _ _ _ _ _ _ us hl => match us, hl with | [_], _ => rfl
  have GAMost : FnOk P w K mg base CX0 1 gM dAM ["self"] (spAMost CA) := ok_amost FAM TA
  have bAMost : Binds K dAM ["self"] [] := FAM.binds fun _ _ _ _ _ _ us hl => match us, hl with | [_], _ => rfl
  refine F.ok scRecalled (fun vs H Q E h => ?_) (fun cdv A outer s H vs Q E hr h => ?_)
  · obtain ⟨a, d, as, ks, rn, rfl, _⟩ := h
    rfl
  · obtain ⟨a, d, as, ks, rn, rfl, hL, hnd, h60, hok, hd, hp, q⟩ := h
    obtain ⟨dx, t, h1, h2, h3⟩ := id hL
    have hla := h3.len
    have inj := nmA_inj hnd
    have wnm : ∀ x ∈ ks.map Ask.nm, IsWord x := fun x hx => by
      obtain ⟨k, hk, rfl⟩ := List.mem_map.mp hx
      exact (hok k hk).nm
    have enm : (List.range ks.length).map (nmA ks) = ks.map Ask.nm := by
      refine List.ext_getElem? fun i => ?_
      rcases Nat.lt_or_ge i ks.length with lt | ge
      · rw [List.getElem?_map, List.getElem?_range lt, List.getElem?_map, List.getElem?_eq_getElem lt, Option.map_some, nmA_at (List.getElem?_eq_getElem lt)]
        rfl
      · rw [List.getElem?_eq_none (by simpa using ge), List.getElem?_eq_none (by simpa using ge)]
    refine ⟨_, (pss_cons (ps_expr (pe_call GNeedLine (hr.mono (by decide)) (by rfl) gNeedLine FNeedLine.kp bNeedLine .nil pass0 (pa_cons (pv 0) pa_nil)))
      (pss_cons (ps_expr (pe_call GNeedExchange (hr.mono (by decide)) (by rfl) gNeedExchange FNeedExchange.kp bNeedExchange .nil pass0 (pa_cons (pv 1) pa_nil)))
      (pss_one (ps_ret (pe_make T.make GLInit (hr.mono (by decide)) (by rfl) gL bLInit .nil pass0 (pa_cons (pe_lc (own := [("asker", 2)]) (g := gName 2) (tt := tYes) rfl scRecalled.nd (pi_list (pe_meth0 (pv 0) T.ins.cl T.mA GLAskers (hr.mono (by decide)) bLAskers .nil pass0)) (blkOk_by (own := [("asker", 2)]) (N := NRecalled) (sc := defScope sRecalled) (by decide +kernel)) (fun _ _ _ _ _ => pg_name (i := 2) scRecalled.nd rfl (.inl rfl)) (fun _ _ _ _ _ => pts_nil) (fun _ _ _ _ _ => (pe_make TA.make GAInit (hr.mono (by decide)) (by rfl) gA bAInit .nil pass0 (pa_cons (pe_dgetN (hu_of hr) (pv 1) (pe_prop (pv 2) TA.ins.cl TA.pN GAName (hr.mono (by decide)) bAName .nil pass0 rfl) (pe_prop (pv 2) TA.ins.cl TA.pN GAName (hr.mono (by decide)) bAName .nil pass0 rfl) (by constructor <;> rfl)) (pa_cons (pe_prop (pv 2) TA.ins.cl TA.pF GAFits (hr.mono (by decide)) bAFits .nil pass0 rfl) (pa_cons (pe_prop (pv 2) TA.ins.cl TA.pM GAMost (hr.mono (by decide)) bAMost .nil pass0 rfl) pa_nil)))))) pa_nil)))))), ?_⟩
    refine ⟨.ref a, rfl, a, as, ks, rfl, hL, .ref d, rfl, d, _, (List.range ks.length).map (nmA ks), (List.range ks.length).map rn, rfl, hd, ?_, ?_, ?_, ?_, ?_, ?_, fun H1 s1 => ?_⟩
    · unfold keyed
      rw [List.map_map, List.map_map]
      rfl
    · unfold keyed
      rw [List.map_map, List.map_map]
      rfl
    · rw [enm]
      exact wnm
    · exact fun y hy => wnm y (hp.mem_iff.mp hy)
    · rw [enm]
      exact hp
    · rw [List.length_map, List.length_range]
      omega
    refine ⟨.ref a, rfl, a, dx, _, rfl, s1 _ _ h1, rfl, a, as, ks, rfl, hL.same s1, fun p1 np1 => ⟨p1, rfl, ⟨_, SqL.of upd_same⟩, fun D hD => ?_⟩⟩
    have s2 := s1.trans (Same.fresh (o := .lst (as.map V.ref)) np1)
    have ep1 : upd H1 p1 (.lst (as.map V.ref)) p1 = some (.lst (as.map V.ref)) := upd_same
    generalize upd H1 p1 (.lst (as.map V.ref)) = G0 at s2 ep1 hD
    refine lc_foldY (n := as.length) (by have := walk_refs (K := K) (a := p1) (xs := as); exact this) (fun i acc G => ∃ bs : List Addr, acc = bs.map V.ref ∧ Asks CA G bs ((ren rn ks).take i)) (by rw [sizeLine_eq]; omega) hD ⟨[], rfl, .nil⟩ (fun G s => SqL.of (s _ _ ep1)) yat_same (fun i acc l G G' eD kk ⟨bs, e1, e2⟩ => ⟨bs, e1, ?_⟩) ?_ ?_
    · clear e1
      revert e2
      generalize (ren rn ks).take i = cs
      intro e2
      induction e2 with
      | nil => exact .nil
      | cons A _ ih => exact .cons (A.off eD kk) ih
    · rintro i x acc G G' hi sG _ ⟨rfl, hx⟩ ⟨bs, rfl, hB⟩ N M hN hM
      obtain ⟨b, hb, rfl⟩ := ref_at hx
      obtain ⟨k, hk, Ak0⟩ := h3.get hb
      have Ak := Ak0.same (s2.trans sG)
      obtain ⟨db, fb, Ib⟩ := Ak.ins
      have hik : i < ks.length := (List.getElem?_eq_some_iff.mp hk).1
      have ok := hok k (List.mem_of_getElem? hk)
      have hdG := (s2.trans sG) _ _ hd
      have nmk := nmA_at hk
      have wrn : IsWord (rn i) := wnm _ (hp.mem_iff.mp (List.mem_map.mpr ⟨i, List.mem_range.mpr hik, rfl⟩))
      refine ⟨rfl, ?_⟩
      unfold tYes
      show (if true = true then _ else _)
      rw [if_pos rfl]
      refine ⟨.ref d, rfl, d, rfl, .inl ⟨_, .inl hdG⟩, .ref b, rfl, b, db, fb, rfl, Ib, b, k, rfl, Ak, .ref b, rfl, b, db, fb, rfl, Ib, b, k, rfl, Ak, .inl ⟨some (.str (rn i)), .inl ⟨_, .inr (nmA ks i), .inl hdG, by rw [nmk]; rfl, (valV_keyed (g := fun i => .str (rn i)) inj hik).symm⟩, ?_⟩⟩
      refine ⟨.ref b, rfl, b, db, fb, rfl, Ib, b, k, rfl, Ak, fun c nc => ?_⟩
      have s4 := Same.fresh (o := .lst (k.ks.map V.str)) nc
      have Ak4 := Ak.same s4
      obtain ⟨db4, fb4, Ib4⟩ := Ak4.ins
      refine ⟨.ref b, rfl, b, db4, fb4, rfl, Ib4, b, k, rfl, Ak4, ?_⟩
      refine made_asker (ys := k.ks) wrn (SqL.of upd_same) ok.ks ok.nd ok.ne ok.lt ok.m fun G5 x us s5 nx A pu so => ?_
      obtain rfl := sorted_eq pu so ok.so
      have s45 := s4.trans s5
      refine hN _ G5 s45 ⟨bs ++ [x], by rw [List.map_append]; rfl, ?_⟩
      rw [List.take_add_one, ren_at hk]
      exact (hB.same s45).snoc A
    · rintro G acc sG eD ⟨bs, rfl, hB⟩
      rw [List.take_of_length_le (by rw [ren_length]; omega)] at hB
      refine made_line (SqL.of eD) hB (by rw [ren_length]; omega) (by rw [ren_nm]; exact hp.nodup_iff.mpr hnd) fun G6 x s6 nx LA => ?_
      have s26 := s2.trans sG
      exact q G6 x bs (s26.trans s6) (Same.free s26 nx) LA
end
end Eld
end L2

set_option Elab.async false
set_option linter.all false
set_option maxRecDepth 100000
set_option maxHeartbeats 4000000
/-! ## the law's own parents -/
namespace L2
namespace Eld
open PySem PySem.Spec PyProof.Rows PySem.EldX
def baseSpare : List Str := ["sa", "sb", "sc", "sd", "se", "sf", "sg", "sh", "si"]
theorem baseSpare_ok : (∀ y ∈ baseSpare, IsWord y) ∧ baseSpare.Nodup ∧ baseSpare.length = 9 := by decide +kernel
theorem spare_few {ks : List Str} (h : ks.length ≤ 8) : ∃ y ∈ baseSpare, y ∉ ks := by
  obtain ⟨b1, b2, b3⟩ := baseSpare_ok
  refine Classical.byContradiction fun z => ?_
  have le := nodup_le baseSpare ks b2 fun y hy => Classical.byContradiction fun q => z ⟨y, hy, q⟩
  omega
def bV (ks : List Ask) : Option Nat → V
  | some j => .str (nmA ks j)
  | none => .non
theorem parV_bV {ks : List Ask} {ps : List (Option Nat)} {i : Nat} {o : Option Nat} (h : ps[i]? = some o) : parV ks ps i = bV ks o := by
  unfold parV
  rw [h]
  cases o <;> rfl
section
variable {P : Program} {w : World} {K : PySem.W.Frag} {mg : Str → Option Value} {base : Heap} {CA fI pN gN pF gF pM gM fE CL fLI fLE fLL fLA fLN fLK fLR fLP : Addr}
/-! ### _law_spare_name -/
def spSpare (K : PySem.W.Frag) : Sp := fun vs H Q _ => ∃ (l : Addr) (ks : List Str), vs = [.ref l] ∧ SqL K H l (ks.map V.str) ∧ ks.length ≤ 8 ∧ ∀ (H' : Hp) (x : Str), Same H H' → IsWord x → x ∉ ks → Q (.str x) H'
theorem ok_spare {f : Addr} {fd : FuncData} {k : Nat} (F : Fun K "_law_spare_name" "_law_spare_name" sSpareName f fd) (B : Blt mg) : FnOk P w K mg base CX0 (k + 1) f fd ["_law_names_here"] (spSpare K) := by
  refine F.ok scSpareName (fun vs H Q E h => ?_) (fun cdv A outer s H vs Q E hr h => ?_)
  · obtain ⟨l, ks, rfl, _⟩ := h
    rfl
  · obtain ⟨l, ks, rfl, hS, h8, q⟩ := h
    obtain ⟨b1, b2, b3⟩ := baseSpare_ok
    refine ⟨_, (pss_one (ps_ret (pe_ix ix_list (pe_lc (own := [("_law_word_here", 1)]) (g := gName 1) (tt := tTest (tOp (rIn K true) (tVar 1) (tVar 0))) rfl scSpareName.nd (pi_list (pe_lst (pa_cons pe_str (pa_cons pe_str (pa_cons pe_str (pa_cons pe_str (pa_cons pe_str (pa_cons pe_str (pa_cons pe_str (pa_cons pe_str (pa_cons pe_str pa_nil))))))))))) (blkOk_by (own := [("_law_word_here", 1)]) (N := NSpareName) (sc := defScope sSpareName) (by decide +kernel)) (fun _ _ _ _ _ => pg_name (i := 1) scSpareName.nd rfl (.inl rfl)) (fun _ _ _ _ _ => pts_one (pt_cmpR op_notIn_seq (pv 1) (pv 0) (by rfl))) (fun _ _ _ _ _ => (pv 1))) pe_int (fun _ _ => rfl)))), ?_⟩
    refine ⟨(by show 9 ≤ sizeLine; decide), fun a na => ⟨a, rfl, ⟨_, SqL.of upd_same⟩, fun D hD => ?_⟩⟩
    have s1 := Same.fresh (o := .lst [.str "sa", .str "sb", .str "sc", .str "sd", .str "se", .str "sf", .str "sg", .str "sh", .str "si"]) na
    refine lc_keep (xs := baseSpare) (keep := fun x => decide (x ∉ ks)) (walk_strs (K := K) (a := a) (xs := baseSpare)) rfl (by rw [b3]; decide) hD (fun G sG => SqL.of (sG _ _ upd_same)) (fun x G sG _ N M h1 h2 => ?_) fun G sG eG => ?_
    · refine ⟨rfl, .str x, rfl, .ref l, rfl, l, _, rfl, .inl (sG.seq (s1.seq hS)), rfl, strs_flat _, _, rfl, ?_⟩
      rw [inV_strs]
      by_cases hx : x ∈ ks
      · rw [decide_eq_true hx]
        exact h2 (by rw [decide_eq_false (fun z => z hx)])
      · rw [decide_eq_false hx]
        exact ⟨.str x, rfl, h1 (decide_eq_true hx)⟩
    · cases e : baseSpare.filter (fun x => decide (x ∉ ks)) with
      | nil =>
        obtain ⟨y, y1, y2⟩ := spare_few h8
        have := List.filter_eq_nil_iff.mp e y y1
        exact absurd (decide_eq_true y2) this
      | cons x r =>
        have hx : x ∈ baseSpare.filter (fun x => decide (x ∉ ks)) := by rw [e]; exact List.mem_cons_self ..
        obtain ⟨h1, h2⟩ := List.mem_filter.mp hx
        rw [e] at eG
        exact ⟨D, _, 0, .str x, rfl, rfl, SqL.of eG, by exact atI_nat (j := 0) rfl, q G x (s1.trans sG) (b1 x h1) (of_decide_eq_true h2)⟩
/-! ### _law_above -/
def spAbove (K : PySem.W.Frag) (CA : Addr) : Sp := fun vs H Q _ => ∃ (l : Addr) (as : List Addr) (ks : List Ask), vs = [.ref l] ∧ SqL K H l (as.map V.ref) ∧ Asks CA H as ks ∧ (∀ k ∈ ks, AskOk k) ∧ ks.length ≤ 900 ∧
  ∀ (H' : Hp) (p : Addr) (ts : List Addr) (ps : List (Option Nat)), Same H H' → H p = none → H' p = some (.lst (ts.map V.ref)) → RowsL H' ts ks ps → ps.length = ks.length → Above (lkA ks) ps → Q (.ref p) H'
theorem ok_above {f fLLinked fIsNear fGrown : Addr} {fd dLLinked dIsNear dGrown dAN dAF : FuncData} (F : Fun K "_law_above" "_law_above" sAbove f fd) (B : Blt mg) (FGrown : Fun K "_law_grown" "_law_grown" sGrown fGrown dGrown) (gGrown : mg "_law_grown" = some (.ref fGrown)) (FIsNear : Fun K "_law_is_near" "_law_is_near" sIsNear fIsNear dIsNear) (gIsNear : mg "_law_is_near" = some (.ref fIsNear)) (FLLinked : Fun K "_law_linked" "_law_linked" sLLinked fLLinked dLLinked) (gLLinked : mg "_law_linked" = some (.ref fLLinked))
    (TA : ACls K CA fI pN gN pF gF pM gM fE) (FAN : Fun K "name" "Asker.name" sAName gN dAN) (FAF : Fun K "fits" "Asker.fits" sAFits gF dAF) : FnOk P w K mg base CX0 6 f fd ["_law_askers"] (spAbove K CA) := by
  have GIsNear : FnOk P w K mg base CX0 4 fIsNear dIsNear ["_law_askers", "_law_some", "_law_at"] (spIsNear K CA) := ok_isNear FIsNear B FLLinked gLLinked TA FAF
  have bIsNear : Binds K dIsNear ["_law_askers", "_law_some", "_law_at"] [] := FIsNear.binds fun _ _ _ _ _ _ us hl => match us, hl with | [_, _, _], _ => rfl
  have GGrown : FnOk P w K mg base CX0 5 fGrown dGrown ["_law_askers", "_law_at"] (spGrown K CA) := ok_grown FGrown B FIsNear gIsNear FLLinked gLLinked TA FAF
  have bGrown : Binds K dGrown ["_law_askers", "_law_at"] [] := FGrown.binds fun _ _ _ _ _ _ us hl => match us, hl with | [_, _], _ => rfl
  have GAName : FnOk P w K mg base CX0 1 gN dAN ["self"] (spAName CA) := ok_aname FAN TA
  have bAName : Binds K dAN ["self"] [] := FAN.binds fun _ _ _ _ _ _ us hl => match us, hl with | [_], _ => rfl
  refine F.ok scAbove (fun vs H Q E h => ?_) (fun cdv A outer s H vs Q E hr h => ?_)
  · obtain ⟨l, as, ks, rfl, _⟩ := h
    rfl
  · obtain ⟨l, as, ks, rfl, hS, hA, hok, hz, q⟩ := h
    have hla := hA.len
    refine ⟨_, (pss_cons (ps_set (i := 1) scAbove.nd rfl (.inl rfl) (pe_lst pa_nil))
      (pss_cons (ps_for PassesOwn.never rfl (pi_range1 rfl B.range (pa_cons (pe_callB call_len_seq (by rfl) B.len PySem.boot_len (pa_cons (pv 0) pa_nil)) pa_nil)) (pg_name (i := 2) scAbove.nd rfl (.inl rfl))
        (pss_cons (ps_set (i := 3) scAbove.nd rfl (.inl rfl) (pe_call GGrown (hr.mono (by decide)) (by rfl) gGrown FGrown.kp bGrown .nil pass0 (pa_cons (pv 0) (pa_cons (pv 2) pa_nil))))
      (pss_cons (ps_set (i := 4) scAbove.nd rfl (.inl rfl) (pe_lst pa_nil))
      (pss_cons (ps_for PassesOwn.never rfl (pi_range2 rfl B.range (pa_cons (pe_op op_add (pv 2) pe_int) (pa_cons (pe_callB call_len_seq (by rfl) B.len PySem.boot_len (pa_cons (pv 0) pa_nil)) pa_nil))) (pg_name (i := 5) scAbove.nd rfl (.inl rfl))
        (pss_one (ps_if (PW.pt (pw_and (pt_cmpR (op_eqD hr.units) (pv 4) (pe_lst pa_nil) (nomark _)) (pw_and1 (pt_val (pe_call GIsNear (hr.mono (by decide)) (by rfl) gIsNear FIsNear.kp bIsNear .nil pass0 (pa_cons (pv 0) (pa_cons (pv 3) (pa_cons (pv 5) pa_nil)))))))) (pss_one (ps_expr (pe_bm PySem.F.plainAttrs_list PySem.F.slot_list_append PySem.F.type_list_append mt_append (pv 4) (pa_cons (pe_prop (pe_ix ix_list (pv 0) (pv 5) (fun _ _ => rfl)) TA.ins.cl TA.pN GAName (hr.mono (by decide)) bAName .nil pass0 rfl) pa_nil)))) pss_nil)))
      (pss_one (ps_expr (pe_bm PySem.F.plainAttrs_list PySem.F.slot_list_append PySem.F.type_list_append mt_append (pv 1) (pa_cons (pe_tup (pa_cons (pe_prop (pe_ix ix_list (pv 0) (pv 2) (fun _ _ => rfl)) TA.ins.cl TA.pN GAName (hr.mono (by decide)) bAName .nil pass0 rfl) (pa_cons (pe_ix ix_list (pe_op op_cat (pv 4) (pe_lst (pa_cons pe_non pa_nil))) pe_int (fun _ _ => rfl)) pa_nil))) pa_nil))))))))
      (pss_one (ps_ret (pv 1))))), ?_⟩
    refine ⟨(by show 0 ≤ sizeLine; decide), fun fp nfp => ?_⟩
    have s0 := Same.fresh (o := .lst []) nfp
    refine ⟨.ref l, rfl, l, _, rfl, .inl (s0.seq hS), _, rfl, by rw [List.length_map]; omega, by rw [List.length_map]; omega, ?_⟩
    refine for_range (lo := 0) (n := ((((as.map V.ref).length : Nat) : Int)).toNat) (fun m σ G => ∃ (ts : List Addr) (ps : List (Option Nat)) (v2 v3 v4 v5 : Option V), σ = [some (.ref l), some (.ref fp), v2, v3, v4, v5] ∧ Same H G ∧ G fp = some (.lst (ts.map V.ref)) ∧ ps.length = m ∧ RowsL G ts ks ps ∧ ∀ (i : Nat) o, ps[i]? = some o → AboveIs (lkA ks) ks.length i o)
      ⟨[], [], _, _, _, _, rfl, s0, upd_same, rfl, ⟨rfl, fun i t e => by simp at e⟩, fun i o e => by simp at e⟩ ?_ ?_
    · rintro m σ G hm ⟨ts, ps, v2, v3, v4, v5, rfl, sG, eF, lp, hR, hAb⟩
      rw [List.length_map] at hm
      have hmk : m < ks.length := by omega
      have et : (0 : Int) + (m : Nat) = ((m : Nat) : Int) := by omega
      rw [et]
      refine ⟨.ref l, rfl, .int (m : Nat), rfl, l, as, ks, m, rfl, sG.seq hS, hA.same sG, hok, hmk, hz, fun G1 mp ys s1 nmp emp hys1 hys2 => ?_⟩
      have hylt : ∀ y ∈ ys, y < m + 1 := fun y hy => ((hys2 y).mp hy).lt2
      have hyl : ys.length ≤ m + 1 := nodup_sub_len (hys1.imp fun h => Nat.ne_of_lt h) hylt
      refine ⟨(by show 0 ≤ sizeLine; decide), fun bp nbp => ?_⟩
      have s2 := s1.trans (Same.fresh (o := .lst []) nbp)
      have sG2 := sG.trans s2
      have nbp0 := Same.free s1 nbp
      have hmb : mp ≠ bp := fun z => by rw [z, nbp] at emp; cases emp
      have emp2 := (Same.fresh (o := .lst []) nbp) _ _ emp
      have ebp : upd G1 bp (.lst []) bp = some (.lst []) := upd_same
      refine ⟨.int (m : Nat), rfl, (m : Int), 1, rfl, rfl, .ref l, rfl, l, _, rfl, .inl (sG2.seq hS), _, _, rfl, ⟨by omega, by omega, by rw [List.length_map]; omega, by rw [List.length_map]; omega⟩, ?_⟩
      generalize upd G1 bp (.lst []) = G2 at s2 sG2 emp2 ebp
      refine for_range (lo := (m : Int) + 1) (n := ((((as.map V.ref).length : Nat) : Int) - ((m : Int) + 1)).toNat) (fun t σ G3 => ∃ (o : Option Nat) (v5 : Option V), σ = [some (.ref l), some (.ref fp), some (.int (m : Nat)), some (.ref mp), some (.ref bp), v5] ∧ Same G G3 ∧ G3 mp = some (.lst (intsV ys)) ∧ G3 bp = some (.lst ((o.toList.map (nmA ks)).map V.str)) ∧ AboveIs (lkA ks) (m + 1 + t) m o)
        ⟨none, _, rfl, s2, emp2, ebp, fun u h1 h2 => by omega⟩ ?_ ?_
      · rintro t σ G3 ht ⟨o, v5, rfl, s3, em3, eb3, ha3⟩
        rw [List.length_map] at ht
        have hut : m + 1 + t < ks.length := by omega
        have eu : (m : Int) + 1 + (t : Nat) = ((m + 1 + t : Nat) : Int) := by omega
        rw [eu]
        have wdo : ∀ y ∈ o.toList.map (nmA ks), IsWord y := by
          cases o with
          | none => intro y hy; cases hy
          | some j =>
            intro y hy
            obtain rfl := List.mem_singleton.mp hy
            obtain ⟨h1, h2, _⟩ := ha3
            have hj : j < ks.length := by omega
            rw [nmA_at (List.getElem?_eq_getElem hj)]
            exact (hok _ (List.getElem_mem hj)).nm
        refine ⟨.ref bp, rfl, (by show 0 ≤ sizeLine; decide), fun e ne => ⟨_, _, dp_sts (SqL.of ((Same.fresh (o := .lst []) ne) _ _ eb3)), dp_nil (SqL.of upd_same), shaped_sts wdo, shaped_nil, _, rfl, ?_⟩⟩
        have s4 := Same.fresh (o := .lst []) ne
        have s34 := s3.trans s4
        have em4 := s4 _ _ em3
        have eb4 := s4 _ _ eb3
        generalize upd G3 e (.lst []) = G4 at s4 s34 em4 eb4
        rw [eqv_nil]
        cases o with
        | some j =>
          refine iteF (iteF ⟨some j, _, rfl, s34, em4, eb4, ?_⟩)
          obtain ⟨h1, h2, h3, h4⟩ := ha3
          exact ⟨h1, by omega, h3, h4⟩
        | none =>
          refine iteT ⟨.ref l, rfl, .ref mp, rfl, .int (m + 1 + t : Nat), rfl, l, mp, as, ks, ys, m + 1 + t, rfl, (sG.trans s34).seq hS, hA.same (sG.trans s34), hok, SqL.of em4, fun n hn => by have := hylt n hn; omega, by omega, hut, fun G5 s5 => ⟨_, rfl, ?_⟩⟩
          have s35 := s34.trans s5
          by_cases hb : (ys.any fun n => lkA ks n (m + 1 + t)) = true
          · rw [hb]
            obtain ⟨a, ea, Aa⟩ := ask_nth (hA.same (sG.trans s35)) hut
            obtain ⟨da, fa, Ia⟩ := Aa.ins
            refine iteT (⟨.ref bp, rfl, .inl ⟨rfl, _, SqL.of (s5 _ _ eb4)⟩, .ref l, rfl, .int (m + 1 + t : Nat), rfl, l, _, _, .ref a, rfl, rfl, (sG.trans s35).seq hS, atI_nat (by rw [List.getElem?_map, ea]; rfl), a, da, fa, rfl, Ia, a, ks[m + 1 + t], rfl, Aa, bp, _, _, rfl, rfl, s5 _ _ eb4, (by show 0 < sizeLine; decide), ?_⟩)
            obtain ⟨y, hy, hl⟩ := List.any_eq_true.mp hb
            refine ⟨some (m + 1 + t), _, rfl, s35.put nbp0, ?_, ?_, by omega, by omega, ⟨y, (hys2 y).mp hy, hl⟩, fun u h1 h2 => ha3 u h1 (by omega)⟩
            · rw [upd_ne hmb]
              exact s5 _ _ em4
            · rw [upd_same, ← nmA_at (List.getElem?_eq_getElem hut)]
              rfl
          · rw [Bool.eq_false_iff.mpr hb]
            refine iteF (⟨none, _, rfl, s35, s5 _ _ em4, s5 _ _ eb4, fun u h1 h2 y hy => ?_⟩)
            rcases Nat.lt_or_ge u (m + 1 + t) with lt | ge
            · exact ha3 u h1 lt y hy
            · obtain rfl : u = m + 1 + t := by omega
              exact Bool.eq_false_iff.mpr fun z => hb (List.any_eq_true.mpr ⟨y, (hys2 y).mpr hy, z⟩)
      · rintro σ G3 ⟨o, v5, rfl, s3, em3, eb3, ha3⟩
        have ha' : AboveIs (lkA ks) ks.length m o := by
          have e : m + 1 + ((((as.map V.ref).length : Nat) : Int) - ((m : Int) + 1)).toNat = ks.length := by rw [List.length_map]; omega
          rw [e] at ha3
          exact ha3
        have s03 := sG.trans s3
        obtain ⟨a, ea, Aa⟩ := ask_nth (hA.same s03) hmk
        obtain ⟨da, fa, Ia⟩ := Aa.ins
        refine ⟨.ref fp, rfl, .inl ⟨rfl, _, SqL.of (s3 _ _ eF)⟩, .ref l, rfl, .int (m : Nat), rfl, l, _, _, .ref a, rfl, rfl, s03.seq hS, atI_nat (by rw [List.getElem?_map, ea]; rfl), a, da, fa, rfl, Ia, a, ks[m], rfl, Aa, ?_⟩
        refine ⟨.ref bp, rfl, (by show 1 ≤ sizeLine; decide), fun np nnp => ?_⟩
        have s4 := Same.fresh (o := .lst [V.non]) nnp
        have eb4 := s4 _ _ eb3
        have en4 : upd G3 np (.lst [V.non]) np = some (.lst [V.non]) := upd_same
        generalize upd G3 np (.lst [V.non]) = G4 at s4 eb4 en4
        refine ⟨bp, np, _, _, rfl, rfl, eb4, en4, ?_, fun r nr => ?_⟩
        · rw [sizeLine_eq]
          cases o <;> simp
        have s5 := Same.fresh (o := .lst ((o.toList.map (nmA ks)).map V.str ++ [V.non])) nr
        refine ⟨r, _, 0, bV ks o, rfl, rfl, SqL.of upd_same, atI_nat (j := 0) (by cases o <;> rfl), (by show 2 ≤ sizeLine; decide), fun tp ntp => ?_⟩
        have s6 := Same.fresh (o := .tup [V.str ks[m].nm, bV ks o]) ntp
        have s36 := s3.trans (s4.trans (s5.trans s6))
        have eF6 := s36 _ _ eF
        have e6 : upd (upd G4 r (.lst ((o.toList.map (nmA ks)).map V.str ++ [V.non]))) tp (.tup [V.str ks[m].nm, bV ks o]) tp = some (.tup [V.str ks[m].nm, bV ks o]) := upd_same
        generalize upd (upd G4 r (.lst ((o.toList.map (nmA ks)).map V.str ++ [V.non]))) tp (.tup [V.str ks[m].nm, bV ks o]) = G6 at s36 eF6 e6
        have lts := hR.len
        refine ⟨fp, _, _, rfl, rfl, eF6, by rw [List.length_map, sizeLine_eq]; omega, ?_⟩
        refine ⟨ts ++ [tp], ps ++ [o], _, _, _, _, rfl, (sG.trans s36).put nfp, by rw [upd_same, List.map_append]; rfl, by rw [List.length_append, lp]; rfl, ⟨by rw [List.length_append, List.length_append, lts]; rfl, fun i t e => ?_⟩, fun i o' e => ?_⟩
        · rcases Nat.lt_or_ge i ps.length with lt | ge
          · rw [List.getElem?_append_left (by omega)] at e
            have e2 := s36 _ _ (hR.at_ i t e)
            have ne : t ≠ fp := fun z => by rw [z, eF6] at e2; cases e2
            rw [upd_ne ne, e2]
            unfold parV
            rw [List.getElem?_append_left lt]
          · rw [List.getElem?_append_right (by omega)] at e
            have ei : i = ps.length := by
              have := (List.getElem?_eq_some_iff.mp e).1
              simp at this
              omega
            subst ei
            rw [show ps.length - ts.length = 0 by omega] at e
            obtain rfl : tp = t := Option.some.inj e
            have ne : tp ≠ fp := fun z => by rw [z, eF6] at e6; cases e6
            rw [upd_ne ne, e6, parV_bV (o := o) (by simp), lp, nmA_at (List.getElem?_eq_getElem hmk)]
        · rcases Nat.lt_or_ge i ps.length with lt | ge
          · rw [List.getElem?_append_left lt] at e
            exact hAb i o' e
          · rw [List.getElem?_append_right ge] at e
            have ei : i = ps.length := by
              have := (List.getElem?_eq_some_iff.mp e).1
              simp at this
              omega
            subst ei
            rw [Nat.sub_self] at e
            obtain rfl : o = o' := Option.some.inj e
            rw [lp]
            exact ha'
    · rintro σ G ⟨ts, ps, v2, v3, v4, v5, rfl, sG, eF, lp, hR, hAb⟩
      have lp' : ps.length = ks.length := by rw [List.length_map] at lp; omega
      exact ⟨.ref fp, rfl, q G fp ts ps sG nfp eF hR lp' (by unfold Above; rw [lp']; exact hAb)⟩
end
end Eld
end L2

set_option Elab.async false
set_option linter.all false
set_option maxRecDepth 100000
set_option maxHeartbeats 4000000
/-! ## rows as data; up the rows -/
namespace L2
namespace Eld
open PySem PySem.Spec PyProof.Rows PySem.EldX
abbrev Row := Str × Option Str
def optV : Option Str → V
  | some x => .str x
  | none => .non
def optD : Option Str → PyData
  | some x => .str x
  | none => .none
abbrev rowD (r : Row) : PyData := .tuple [.str r.1, optD r.2]
abbrev RowsAt (H : Hp) (ts : List Addr) (rs : List Row) : Prop := Paired (fun (t : Addr) (r : Row) => H t = some (.tup [.str r.1, optV r.2])) ts rs
theorem RowsAt.same {H H' : Hp} (s : Same H H') : ∀ {ts : List Addr} {rs : List Row}, RowsAt H ts rs → RowsAt H' ts rs
  | _, _, .nil => .nil
  | _, _, .cons h t => .cons (s _ _ h) (RowsAt.same s t)
theorem paired_ix {α β : Type} {R : α → β → Prop} : ∀ {xs : List α} {ys : List β}, xs.length = ys.length → (∀ (i : Nat) x y, xs[i]? = some x → ys[i]? = some y → R x y) → Paired R xs ys
  | [], [], _, _ => .nil
  | [], _ :: _, h, _ => by cases h
  | _ :: _, [], h, _ => by cases h
  | x :: xs, y :: ys, h, g => .cons (g 0 x y rfl rfl) (paired_ix (Nat.succ.inj h) fun i a b e1 e2 => g (i + 1) a b (by simpa using e1) (by simpa using e2))
def parO (ks : List Ask) (ps : List (Option Nat)) (i : Nat) : Option Str := match ps[i]? with
  | some (some j) => some (nmA ks j)
  | _ => none
theorem parO_V {ks : List Ask} {ps : List (Option Nat)} {i : Nat} : parV ks ps i = optV (parO ks ps i) := by
  unfold parV parO
  generalize ps[i]? = z
  rcases z with _ | _ | _ <;> rfl
def rowsOf (ks : List Ask) (ps : List (Option Nat)) : List Row := (List.range ps.length).map fun i => (nmA ks i, parO ks ps i)
theorem rowsOf_length (ks : List Ask) (ps : List (Option Nat)) : (rowsOf ks ps).length = ps.length := by simp [rowsOf]
theorem rowsOf_at {ks : List Ask} {ps : List (Option Nat)} {i : Nat} (h : i < ps.length) : (rowsOf ks ps)[i]? = some (nmA ks i, parO ks ps i) := by
  unfold rowsOf
  rw [List.getElem?_map, List.getElem?_range h]
  rfl
theorem RowsL.rows {H : Hp} {ts : List Addr} {ks : List Ask} {ps : List (Option Nat)} (h : RowsL H ts ks ps) : RowsAt H ts (rowsOf ks ps) := by
  refine paired_ix (by rw [rowsOf_length, h.len]) fun i t r e1 e2 => ?_
  have hi : i < ps.length := by
    have := (List.getElem?_eq_some_iff.mp e2).1
    rwa [rowsOf_length] at this
  rw [rowsOf_at hi] at e2
  obtain rfl := Option.some.inj e2
  rw [h.at_ i t e1, parO_V]
abbrev RowOk (r : Row) : Prop := IsWord r.1 ∧ ∀ x, r.2 = some x → IsWord x
theorem optD_short {o : Option Str} (h : ∀ x, o = some x → IsWord x) : (optD o).leavesShort 40 = true := by
  cases o with
  | none => simp only [optD]; decide +kernel
  | some x => exact word_short (h x rfl)
theorem optD_show (o : Option Str) : (optD o).showable = true := by
  cases o <;> simp only [optD, PyData.showable]
theorem optD_depth (o : Option Str) : (optD o).depth ≤ 1 := by
  cases o <;> simp only [optD, PyData.depth] <;> omega
theorem optD_bulk {o : Option Str} (h : ∀ x, o = some x → IsWord x) : (optD o).bulk ≤ 12 := by
  cases o with
  | none => simp only [optD, PyData.bulk]; omega
  | some x =>
    have : x.cps.size ≤ 10 := (h x rfl).2.1
    simp only [optD, PyData.bulk]
    omega
theorem strOk_word {y : Str} (h : IsWord y) : PySem.PyData.strOk y = true := by
  unfold PySem.PyData.strOk
  rw [Array.all_eq_true']
  intro c hc
  have := h.2.2 c (Array.mem_toList_iff.mpr hc)
  exact decide_eq_true (Nat.lt_of_le_of_lt this.2 (by decide))
theorem optD_lay {o : Option Str} (h : ∀ x, o = some x → IsWord x) : (optD o).canLay0 = true := by
  cases o with
  | none => simp only [optD, PyData.canLay0]
  | some x => simp only [optD, PyData.canLay0]; exact strOk_word (h x rfl)
theorem rows_show : ∀ rs : List Row, PyData.showableAll (rs.map rowD) = true
  | [] => by simp only [List.map_nil, PyData.showableAll]
  | r :: rs => by
    have ih := rows_show rs
    simp only [List.map_cons, PyData.showableAll, rowD, PyData.showable, optD_show, Bool.true_and, Bool.and_true] at ih ⊢
    exact ih
theorem rows_short : ∀ {rs : List Row}, (∀ r ∈ rs, RowOk r) → PyData.leavesShortAll 40 (rs.map rowD) = true
  | [], _ => by simp only [List.map_nil, PyData.leavesShortAll]
  | r :: rs, h => by
    have ih := rows_short fun z hz => h z (List.mem_cons_of_mem _ hz)
    obtain ⟨h1, h2⟩ := h r List.mem_cons_self
    have b1 := word_short h1
    have b2 := optD_short h2
    simp only [List.map_cons, PyData.leavesShortAll, rowD, PyData.leavesShort] at ih b1 ⊢
    rw [b1, b2, ih] <;> rfl
theorem rows_bulk : ∀ {rs : List Row}, (∀ r ∈ rs, RowOk r) → PyData.bulkAll (rs.map rowD) ≤ 40 * rs.length
  | [], _ => by simp only [List.map_nil, PyData.bulkAll, List.length_nil]; omega
  | r :: rs, h => by
    have ih := rows_bulk fun z hz => h z (List.mem_cons_of_mem _ hz)
    obtain ⟨h1, h2⟩ := h r List.mem_cons_self
    have b1 : r.1.cps.size ≤ 10 := h1.2.1
    have b2 := optD_bulk h2
    simp only [List.map_cons, PyData.bulkAll, rowD, PyData.bulk, List.length_cons] at ih ⊢
    omega
theorem rows_depth : ∀ rs : List Row, PyData.depthAll (rs.map rowD) ≤ 3
  | [] => by simp only [List.map_nil, PyData.depthAll]; omega
  | r :: rs => by
    have ih := rows_depth rs
    have b := optD_depth r.2
    simp only [List.map_cons, PyData.depthAll, rowD, PyData.depth] at ih ⊢
    omega
theorem rows_lay : ∀ {rs : List Row}, (∀ r ∈ rs, RowOk r) → PyData.canLayAll0 (rs.map rowD) = true
  | [], _ => by simp only [List.map_nil, PyData.canLayAll0]
  | r :: rs, h => by
    have ih := rows_lay fun z hz => h z (List.mem_cons_of_mem _ hz)
    obtain ⟨h1, h2⟩ := h r List.mem_cons_self
    have b1 := strOk_word h1
    have b2 := optD_lay h2
    simp only [List.map_cons, PyData.canLayAll0, rowD, PyData.canLay0] at ih ⊢
    rw [b1, b2, ih] <;> rfl
theorem shaped_rows {rs : List Row} (h : ∀ r ∈ rs, RowOk r) : SeqAt.shaped (.list (rs.map rowD)) = true := by
  unfold SeqAt.shaped
  rw [Bool.and_eq_true, decide_eq_true_eq]
  refine ⟨?_, ?_⟩
  · simp only [PyData.canLay0]
    exact rows_lay h
  · have := rows_depth rs
    simp only [PyData.depth]
    omega
theorem shows_rows {rs : List Row} (h : ∀ r ∈ rs, RowOk r) (l : rs.length ≤ 60) : Shows (.list (rs.map rowD)) := by
  refine shows_of ?_ ?_ ?_ ?_
  · simp only [PyData.showable]
    exact rows_show rs
  · simp only [PyData.leavesShort]
    exact rows_short h
  · have := rows_bulk h
    simp only [PyData.bulk]
    omega
  · have := rows_depth rs
    simp only [PyData.depth]
    omega
section
variable {K : PySem.W.Frag} {H : Hp}
theorem dp_opt (o : Option Str) : Dp K H (optV o) (optD o) := by
  cases o
  · exact .non
  · exact .str _
theorem dq_opt (o : Option Str) : Dq K H (optV o) (optD o) := by
  cases o
  · exact .non
  · exact .str _
theorem dp_rowsAll : ∀ {ts : List Addr} {rs : List Row}, RowsAt H ts rs → DpAll K H (ts.map V.ref) (rs.map rowD)
  | _, _, .nil => .nil
  | _, _, .cons h t => .cons (.tup (SqT.of h) (.cons (.str _) (.cons (dp_opt _) .nil))) (dp_rowsAll t)
theorem dq_rowsAll : ∀ {ts : List Addr} {rs : List Row}, RowsAt H ts rs → DqAll K H (ts.map V.ref) (rs.map rowD)
  | _, _, .nil => .nil
  | _, _, .cons h t => .cons (.tup (SqT.of h) (.cons (.str _) (.cons (dq_opt _) .nil))) (dq_rowsAll t)
theorem dp_rows {p : Addr} {ts : List Addr} {rs : List Row} (h : SqL K H p (ts.map V.ref)) (g : RowsAt H ts rs) : Dp K H (.ref p) (.list (rs.map rowD)) := .lst h (dp_rowsAll g)
theorem dq_rows {p : Addr} {ts : List Addr} {rs : List Row} (h : SqL K H p (ts.map V.ref)) (g : RowsAt H ts rs) : Dq K H (.ref p) (.list (rs.map rowD)) := .lst h (dq_rowsAll g)
end
theorem merge_keyed {f : Nat → Str} {g : Nat → V} : ∀ {n : Nat}, InjB f n → mergeK [] (keyed f g n) = keyed f g n
  | 0, _ => rfl
  | n + 1, inj => by
    have ih := merge_keyed (g := g) (n := n) fun i j hi hj => inj i j (by omega) (by omega)
    have e : mergeK [] (keyed f g (n + 1)) = putK (mergeK [] (keyed f g n)) (.inr (f n)) (g n) := by
      rw [keyed_succ]
      unfold mergeK
      rw [List.foldl_append]
      rfl
    rw [e, ih, putK_keyed_new inj]
    exact keyed_congr fun i _ => by
      by_cases h : i = n
      · rw [if_pos h, h]
      · rw [if_neg h]
section
variable {P : Program} {w : World} {K : PySem.W.Frag} {mg : Str → Option Value} {base : Heap} {CA fI pN gN pF gF pM gM fE CL fLI fLE fLL fLA fLN fLK fLR fLP : Addr}
/-! ### _law_ups -/
def spUps (K : PySem.W.Frag) : Sp := fun vs H Q _ => ∃ (p : Addr) (ts : List Addr) (ks : List Ask) (ps : List (Option Nat)) (i : Nat) (fs : List Nat), vs = [.ref p, .str (nmA ks i)] ∧ SqL K H p (ts.map V.ref) ∧ RowsL H ts ks ps ∧ InjB (nmA ks) ps.length ∧ ps.length ≤ 900 ∧ Fore ps i fs ∧ fs.length ≤ ps.length ∧
  ∀ (H' : Hp) (q : Addr), Same H H' → H q = none → H' q = some (.lst (nmsV ks fs)) → Q (.ref q) H'
theorem ok_ups {f : Addr} {fd : FuncData} {k : Nat} (F : Fun K "_law_ups" "_law_ups" sUps f fd) (B : Blt mg) (B2 : Blt2 mg) : FnOk P w K mg base CX0 (k + 1) f fd ["_law_rows", "_law_name"] (spUps K) := by
  refine F.ok scUps (fun vs H Q E h => ?_) (fun cdv A outer s H vs Q E hr h => ?_)
  · obtain ⟨p, ts, ks, ps, i, fs, rfl, _⟩ := h
    rfl
  · obtain ⟨p, ts, ks, ps, i, fs, rfl, hS, hR, inj, hz, hf, hfl, q⟩ := h
    have hln := hR.len
    refine ⟨_, (pss_cons (ps_par (i := 2) (j := 3) rfl scUps.nd rfl rfl (by decide) rfl rfl (pa_cons (pe_lst pa_nil) (pa_cons (pe_callTy (call_dictP rfl) (by rfl) B2.dict (by decide +kernel) (pa_cons (pv 0) pa_nil)) pa_nil)) rfl)
      (pss_cons (ps_for PassesOwn.never rfl (pi_range1 rfl B.range (pa_cons (pe_callB call_len_seq (by rfl) B.len PySem.boot_len (pa_cons (pv 0) pa_nil)) pa_nil)) (pg_name (i := 4) scUps.nd rfl (.inl rfl))
        (pss_one (ps_if (pt_cmp (pc_notN (pe_dget (hu_of hr) (pv 3) (pv 1) (fun _ _ => rfl)))) (pss_cons (ps_set (i := 1) scUps.nd rfl (.inl rfl) (pe_dget (hu_of hr) (pv 3) (pv 1) (fun _ _ => rfl)))
      (pss_one (ps_expr (pe_bm PySem.F.plainAttrs_list PySem.F.slot_list_append PySem.F.type_list_append mt_append (pv 2) (pa_cons (pv 1) pa_nil))))) pss_nil)))
      (pss_one (ps_ret (pv 2))))), ?_⟩
    refine ⟨(by show 0 ≤ sizeLine; decide), fun fp nfp => ?_⟩
    have s1 := Same.fresh (o := .lst []) nfp
    refine ⟨.ref p, rfl, p, ts, parD ks ps, rfl, s1.seq hS, ?_, fun d nd => ⟨_, _, rfl, ?_⟩⟩
    · refine paired_ix (by rw [keyed_length, hln]) fun j t r e1 e2 => ?_
      have hj : j < ps.length := by
        have := (List.getElem?_eq_some_iff.mp e2).1
        rwa [keyed_length] at this
      unfold parD keyed at e2
      rw [List.getElem?_map, List.getElem?_range hj] at e2
      obtain rfl := Option.some.inj e2
      exact SqT.of (s1 _ _ (hR.at_ j t e1))
    rw [merge_keyed inj]
    have s2 := s1.trans (Same.fresh (o := .dK (parD ks ps)) nd)
    have ef : upd (upd H fp (.lst [])) d (.dK (parD ks ps)) fp = some (.lst []) := (Same.fresh nd) _ _ upd_same
    have ed : upd (upd H fp (.lst [])) d (.dK (parD ks ps)) d = some (.dK (parD ks ps)) := upd_same
    have nfd : d ≠ fp := fun e => by rw [e, upd_same] at nd; cases nd
    generalize upd (upd H fp (.lst [])) d (.dK (parD ks ps)) = H2 at s2 ef ed
    refine ⟨.ref p, rfl, p, _, rfl, .inl (s2.seq hS), _, rfl, by rw [List.length_map]; omega, by rw [List.length_map]; omega, ?_⟩
    refine for_range (lo := 0) (n := ((((ts.map V.ref).length : Nat) : Int)).toNat) (fun m σ G => ∃ (pre rest : List Nat) (j : Nat) (v4 : Option V), σ = [some (.ref p), some (.str (nmA ks j)), some (.ref fp), some (.ref d), v4] ∧ fs = pre ++ rest ∧ Fore ps j rest ∧ (rest = [] ∨ pre.length = m) ∧ Same H G ∧ G fp = some (.lst (nmsV ks pre)) ∧ G d = some (.dK (parD ks ps)))
      ⟨[], fs, i, _, rfl, rfl, hf, .inr rfl, s2, ef, ed⟩ ?_ ?_
    · rintro m σ G hm ⟨pre, rest, j, v4, rfl, e1, fj, e2, sG, eG, edG⟩
      have hv : V.str (nmA ks j) = V.str (nmA ks j) := rfl
      refine ⟨.ref d, rfl, .str (nmA ks j), rfl, d, parV ks ps j, rfl, .inl ⟨_, .inr (nmA ks j), .inl edG, rfl, (valV_keyed inj fj.lt0).symm⟩, _, rfl, ?_⟩
      rw [parV_fore fj]
      cases rest with
      | nil => exact iteF ⟨pre, [], j, _, rfl, e1, fj, .inl rfl, sG, eG, edG⟩
      | cons j2 r =>
        rcases e2 with e2 | e2
        · cases e2
        have lp : pre.length < 1000 := by
          rw [e1, List.length_append, List.length_cons] at hfl
          omega
        refine iteT ⟨.ref d, rfl, .str (nmA ks j), rfl, d, parV ks ps j, rfl, .inl ⟨_, .inr (nmA ks j), .inl edG, rfl, (valV_keyed inj fj.lt0).symm⟩, ?_⟩
        rw [parV_fore fj]
        refine ⟨.ref fp, rfl, .inl ⟨rfl, _, SqL.of eG⟩, .str (nmA ks j2), rfl, fp, _, _, rfl, rfl, eG, by rw [List.length_map, sizeLine_eq]; omega, ?_⟩
        exact ⟨pre ++ [j2], r, j2, _, rfl, by rw [e1, List.append_assoc]; rfl, fj.rest, .inr (by rw [List.length_append, e2]; rfl), sG.put nfp, by rw [upd_same]; simp [nmsV], by rw [upd_ne nfd]; exact edG⟩
    · rintro σ G ⟨pre, rest, j, v4, rfl, e1, fj, e2, sG, eG, edG⟩
      have er : rest = [] := by
        rcases e2 with e2 | e2
        · exact e2
        · rw [List.length_map] at e2
          rw [e1, List.length_append] at hfl
          exact List.length_eq_zero_iff.mp (by omega)
      subst er
      rw [List.append_nil] at e1
      subst e1
      exact ⟨.ref fp, rfl, q G fp sG nfp eG⟩
end
end Eld
end L2

set_option Elab.async false
set_option linter.all false
set_option maxRecDepth 100000
set_option maxHeartbeats 4000000
/-! ## a line looked at -/
namespace L2
namespace Eld
open PySem PySem.Spec PyProof.Rows PySem.EldX
/-- the functions of orders, where they stand -/
structure Ord2 (K : PySem.W.Frag) (mg : Str → Option Value) (fNeedLine fShare fParents fGroups fFore fGroup fParent fForest fTouched : Addr) (dNeedLine dShare dParents dGroups dFore dGroup dParent dForest dTouched : FuncData) : Prop where
  NeedLine : Fun K "need_line" "need_line" sNeedLine fNeedLine dNeedLine
  Share : Fun K "_share" "_share" sShare fShare dShare
  Parents : Fun K "_parents" "_parents" sParents fParents dParents
  Groups : Fun K "_groups" "_groups" sGroups fGroups dGroups
  Fore : Fun K "_forebears" "_forebears" sForebears fFore dFore
  Group : Fun K "group" "group" sGroup fGroup dGroup
  Parent : Fun K "parent" "parent" sParent fParent dParent
  Forest : Fun K "forest" "forest" sForest fForest dForest
  Touched : Fun K "touched" "touched" sTouched fTouched dTouched
  gNeedLine : mg "need_line" = some (.ref fNeedLine)
  gShare : mg "_share" = some (.ref fShare)
  gParents : mg "_parents" = some (.ref fParents)
  gGroups : mg "_groups" = some (.ref fGroups)
  gFore : mg "_forebears" = some (.ref fFore)
  gGroup : mg "group" = some (.ref fGroup)
  gParent : mg "parent" = some (.ref fParent)
  gForest : mg "forest" = some (.ref fForest)
  gTouched : mg "touched" = some (.ref fTouched)
/-- the law's own defs, where they stand -/
structure Own2 (K : PySem.W.Frag) (mg : Str → Option Value) (fLLinked fIsNear fGrown fAbove fUps fSpareName : Addr) (dLLinked dIsNear dGrown dAbove dUps dSpareName : FuncData) : Prop where
  LLinked : Fun K "_law_linked" "_law_linked" sLLinked fLLinked dLLinked
  IsNear : Fun K "_law_is_near" "_law_is_near" sIsNear fIsNear dIsNear
  Grown : Fun K "_law_grown" "_law_grown" sGrown fGrown dGrown
  Above : Fun K "_law_above" "_law_above" sAbove fAbove dAbove
  Ups : Fun K "_law_ups" "_law_ups" sUps fUps dUps
  SpareName : Fun K "_law_spare_name" "_law_spare_name" sSpareName fSpareName dSpareName
  gLLinked : mg "_law_linked" = some (.ref fLLinked)
  gIsNear : mg "_law_is_near" = some (.ref fIsNear)
  gGrown : mg "_law_grown" = some (.ref fGrown)
  gAbove : mg "_law_above" = some (.ref fAbove)
  gUps : mg "_law_ups" = some (.ref fUps)
  gSpareName : mg "_law_spare_name" = some (.ref fSpareName)
/-- a group, as a list -/
noncomputable def grp (lk : Nat → Nat → Bool) (c : Nat) : List Nat := (List.range (c + 1)).filter fun y => @decide (Conn lk (c + 1) y c) (Classical.propDecidable _)
theorem mem_grp {lk : Nat → Nat → Bool} {c y : Nat} : y ∈ grp lk c ↔ Conn lk (c + 1) y c := by
  unfold grp
  rw [List.mem_filter, List.mem_range]
  constructor
  · rintro ⟨_, h⟩
    exact (@decide_eq_true_iff _ (Classical.propDecidable _)).mp h
  · intro h
    exact ⟨h.lt1, (@decide_eq_true_iff _ (Classical.propDecidable _)).mpr h⟩
theorem grp_sorted {lk : Nat → Nat → Bool} {c : Nat} : (grp lk c).Pairwise (· < ·) := List.Pairwise.filter _ List.pairwise_lt_range
def kidsTo (ps : List (Option Nat)) (n i : Nat) : List Nat := (List.range n).filter fun c => decide (ps[c]? = some (some i))
theorem kidsTo_succ (ps : List (Option Nat)) (n i : Nat) : kidsTo ps (n + 1) i = kidsTo ps n i ++ if ps[n]? = some (some i) then [n] else [] := by
  unfold kidsTo
  rw [List.range_succ, List.filter_append]
  congr 1
  by_cases h : ps[n]? = some (some i)
  · simp [h]
  · simp [h]
theorem paired_app {α β : Type} {R : α → β → Prop} : ∀ {xs : List α} {ys : List β} {zs : List α} {us : List β}, Paired R xs ys → Paired R zs us → Paired R (xs ++ zs) (ys ++ us)
  | _, _, _, _, .nil, h => h
  | _, _, _, _, .cons h t, g => .cons h (paired_app t g)
theorem nms_flat (ks : List Ask) (g : Nat → List Nat) : ∀ cs : List Nat, (cs.map fun c => nmsV ks (g c)).flatten = nmsV ks (cs.map g).flatten
  | [] => rfl
  | c :: cs => by
    rw [List.map_cons, List.flatten_cons, nms_flat ks g cs, List.map_cons, List.flatten_cons, nmsV, nmsV, nmsV, List.map_append]
theorem up_filter {ks : List Ask} (nd : (ks.map Ask.nm).Nodup) {fs : List Nat} (so : fs.Pairwise (· < ·)) (lt : ∀ t ∈ fs, t < ks.length) : (ks.map Ask.nm).filter (fun x => decide (x ∈ fs.map (nmA ks))) = fs.map (nmA ks) := by
  have inj := nmA_inj nd
  have e1 : ks.map Ask.nm = (List.range ks.length).map (nmA ks) := by
    refine List.ext_getElem? fun i => ?_
    rcases Nat.lt_or_ge i ks.length with l | ge
    · rw [List.getElem?_map, List.getElem?_map, List.getElem?_range l, List.getElem?_eq_getElem l, Option.map_some, Option.map_some, nmA_at (List.getElem?_eq_getElem l)]
    · rw [List.getElem?_eq_none (by simpa using ge), List.getElem?_eq_none (by simpa using ge)]
  rw [e1, List.filter_map]
  congr 1
  refine sorted_unique (List.Pairwise.filter _ List.pairwise_lt_range) so fun y => ?_
  rw [List.mem_filter, List.mem_range]
  show y < ks.length ∧ decide (nmA ks y ∈ fs.map (nmA ks)) = true ↔ _
  rw [decide_eq_true_eq]
  constructor
  · rintro ⟨h1, h2⟩
    obtain ⟨z, hz, e⟩ := List.mem_map.mp h2
    rw [← inj z y (lt z hz) h1 e]
    exact hz
  · intro h
    exact ⟨lt y h, List.mem_map.mpr ⟨y, h, rfl⟩⟩
theorem scal_par (ks : List Ask) (ps : List (Option Nat)) (i : Nat) : scal (parV ks ps i) (parV ks ps i) = true := by
  rw [parO_V]
  cases parO ks ps i <;> rfl
theorem scal_str (ks : List Ask) (ps : List (Option Nat)) (i : Nat) (x : Str) : scal (parV ks ps i) (.str x) = true := by
  rw [parO_V]
  cases parO ks ps i <;> rfl
theorem par_is {ks : List Ask} {ps : List (Option Nat)} {i m : Nat} (inj : InjB (nmA ks) ks.length) (hl : ps.length = ks.length) (up : ∀ i j, ps[i]? = some (some j) → i < j ∧ j < ps.length) (hm : m < ks.length) : decide (parV ks ps i = V.str (nmA ks m)) = decide (ps[i]? = some (some m)) := by
  refine decide_eq_decide.mpr ?_
  unfold parV
  constructor
  · intro h
    split at h
    · rename_i j e
      have := up i j e
      have ej := inj j m (by omega) hm (V.str.inj h)
      rw [e, ej]
    · cases h
  · intro h
    rw [h]
theorem not_self {x : V} : (!decide (x = x)) = false := by simp
section
variable {P : Program} {w : World} {K : PySem.W.Frag} {mg : Str → Option Value} {base : Heap} {CA fI pN gN pF gF pM gM fE CL fLI fLE fLL fLA fLN fLK fLR fLP : Addr}
def spLineRight (K : PySem.W.Frag) (CL CA : Addr) : Sp := fun vs H Q _ => ∃ (a l : Addr) (as : List Addr) (ks : List Ask) (U : List Str), vs = [.ref a, .ref l] ∧ LG CL CA H a as ks U ∧ SqL K H l (as.map V.ref) ∧ (∀ k ∈ ks, AskOk k) ∧ ks.length ≤ 60 ∧ ∀ H', Same H H' → Q (.bl true) H'
theorem ok_lineRight {f fNeedLine fShare fParents fGroups fFore fGroup fParent fForest fTouched fLLinked fIsNear fGrown fAbove fUps fSpareName : Addr} {fd dNeedLine dShare dParents dGroups dFore dGroup dParent dForest dTouched dLLinked dIsNear dGrown dAbove dUps dSpareName dAN dAF dAE dLI dLE dLN dLP dLA : FuncData} (F : Fun K "_law_line_right" "_law_line_right" sLineRight f fd) (B : Blt mg) (B2 : Blt2 mg) (O : Ord2 K mg fNeedLine fShare fParents fGroups fFore fGroup fParent fForest fTouched dNeedLine dShare dParents dGroups dFore dGroup dParent dForest dTouched) (W : Own2 K mg fLLinked fIsNear fGrown fAbove fUps fSpareName dLLinked dIsNear dGrown dAbove dUps dSpareName)
    (TA : ACls K CA fI pN gN pF gF pM gM fE) (gA : mg "Asker" = some (.ref CA)) (FAN : Fun K "name" "Asker.name" sAName gN dAN) (FAF : Fun K "fits" "Asker.fits" sAFits gF dAF) (FAE : Fun K "__eq__" "Asker.__eq__" sAEq fE dAE) (T : LCls K CL fLI fLE fLL fLA fLN fLK fLR fLP) (gL : mg "Line" = some (.ref CL)) (FLE : Fun K "__eq__" "Line.__eq__" sLEq fLE dLE) (FLN : Fun K "names" "Line.names" sLNames fLN dLN) (FLP : Fun K "place" "Line.place" sLPlace fLP dLP) (FLA : Fun K "askers" "Line.askers" sLAskers fLA dLA)
    (GLInit : FnOk P w K mg base CX0 4 fLI dLI ["self", "askers"] (spLInit K CL CA)) (bLInit : Binds K dLI ["self", "askers"] []) : FnG P w K mg base CX0 7 f fd ["_law_line", "_law_askers"] (spLineRight K CL CA) := by
  have GForest : FnOk P w K mg base CX0 5 fForest dForest ["line"] (spForest CL CA) := ok_forest O.Forest B B2 O.NeedLine O.gNeedLine O.Parents O.gParents O.Share O.gShare TA FAN FAF T gL FLN FLP FLA
  have bForest : Binds K dForest ["line"] [] := O.Forest.binds fun _ _ _ _ _ _ us hl => match us, hl with | [_], _ => rfl
  have GAbove : FnOk P w K mg base CX0 6 fAbove dAbove ["_law_askers"] (spAbove K CA) := ok_above W.Above B W.Grown W.gGrown W.IsNear W.gIsNear W.LLinked W.gLLinked TA FAN FAF
  have bAbove : Binds K dAbove ["_law_askers"] [] := W.Above.binds fun _ _ _ _ _ _ us hl => match us, hl with | [_], _ => rfl
  have GParent : FnOk P w K mg base CX0 6 fParent dParent ["line", "name"] (spParent CL CA) := ok_parent O.Parent B B2 O.NeedLine O.gNeedLine O.Parents O.gParents O.Share O.gShare TA FAN FAF T gL FLN FLP FLA
  have bParent : Binds K dParent ["line", "name"] [] := O.Parent.binds fun _ _ _ _ _ _ us hl => match us, hl with | [_, _], _ => rfl
  have GTouched : FnOk P w K mg base CX0 6 fTouched dTouched ["line", "name"] (spTouched CL CA) := ok_touched O.Touched B B2 O.NeedLine O.gNeedLine O.Parents O.gParents O.Share O.gShare TA FAN FAF T gL FLN FLP FLA O.Fore O.gFore
  have bTouched : Binds K dTouched ["line", "name"] [] := O.Touched.binds fun _ _ _ _ _ _ us hl => match us, hl with | [_, _], _ => rfl
  have GGroup : FnOk P w K mg base CX0 6 fGroup dGroup ["line", "name"] (spGroup CL CA) := ok_group O.Group B B2 O.NeedLine O.gNeedLine O.Groups O.gGroups O.Parents O.gParents O.Fore O.gFore O.Share O.gShare TA FAN FAF T gL FLN FLP FLA
  have bGroup : Binds K dGroup ["line", "name"] [] := O.Group.binds fun _ _ _ _ _ _ us hl => match us, hl with | [_, _], _ => rfl
  have GUps : FnOk P w K mg base CX0 1 fUps dUps ["_law_rows", "_law_name"] (spUps K) := ok_ups W.Ups B B2
  have bUps : Binds K dUps ["_law_rows", "_law_name"] [] := W.Ups.binds fun _ _ _ _ _ _ us hl => match us, hl with | [_, _], _ => rfl
  have GLNames : FnOk P w K mg base CX0 3 fLN dLN ["self"] (spLNames CL CA) := ok_lnames FLN TA FAN T
  have bLNames : Binds K dLN ["self"] [] := FLN.binds fun _ _ _ _ _ _ us hl => match us, hl with | [_], _ => rfl
  have GLEq : FnOk P w K mg base CX0 4 fLE dLE ["self", "other"] (spEqB (RL K CL CA)) := ok_leq FLE B TA gA FAE T gL
  have bLEq : Binds K dLE ["self", "other"] [] := FLE.binds fun _ _ _ _ _ _ us hl => match us, hl with | [_, _], _ => rfl
  refine FunG F scLineRight (fun vs H Q E h => ?_) (fun cdv A outer s H vs Q E hG hr h => ?_)
  · obtain ⟨a, l, as, ks, U, rfl, _⟩ := h
    rfl
  · obtain ⟨a, l, as, ks, U, rfl, hL, hS, hok, hz, q⟩ := h
    have hA := hL.line.asks
    have hla := hA.len
    have inj := nmA_inj hL.nd
    have nword : ∀ j, j < ks.length → IsWord (nmA ks j) := fun j hj => by
      rw [nmA_at (List.getElem?_eq_getElem hj)]
      exact (hok _ (List.getElem_mem hj)).nm
    refine ⟨_, (pss_cons (ps_set (i := 2) scLineRight.nd rfl (.inl rfl) (pe_call GAbove (hr.mono (by decide)) (by rfl) W.gAbove W.Above.kp bAbove .nil pass0 (pa_cons (pv 1) pa_nil)))
      (pss_cons (ps_if (pt_cmpR op_ne (pe_callB (call_repr hG hr) (by rfl) B.repr (by decide +kernel) (pa_cons (pe_call GForest (hr.mono (by decide)) (by rfl) O.gForest O.Forest.kp bForest .nil pass0 (pa_cons (pv 0) pa_nil)) pa_nil)) (pe_callB (call_repr hG hr) (by rfl) B.repr (by decide +kernel) (pa_cons (pv 2) pa_nil)) (nomark _)) (pss_one (ps_ret pe_bl)) pss_nil)
      (pss_cons (ps_if (pt_cmpR (op_neD hr.units) (pe_lc (own := [("_law_name", 3), ("_law_above_here", 4)]) (g := gTup K 2 (gCons (gName 3) (gCons (gName 4) (gNil)))) (tt := tTest (tOp rNe (tCall (spParent CL CA) [] E0 (tCons (tVar 0) (tCons (tVar 3) tNil))) (tVar 4))) rfl scLineRight.nd (pi_list (pv 2)) (blkOk_by (own := [("_law_name", 3), ("_law_above_here", 4)]) (N := NLineRight) (sc := defScope sLineRight) (by decide +kernel)) (fun _ _ _ _ _ => (pg_tup rfl (pgs_cons (pg_name (i := 3) scLineRight.nd rfl (.inl rfl)) (pgs_cons (pg_name (i := 4) scLineRight.nd rfl (.inl rfl)) pgs_nil)))) (fun _ _ _ _ _ => pts_one (pt_cmpR op_ne (pe_call GParent (hr.mono (by decide)) (by rfl) O.gParent O.Parent.kp bParent .nil pass0 (pa_cons (pv 0) (pa_cons (pv 3) pa_nil))) (pv 4) (nomark _))) (fun _ _ _ _ _ => (pv 3))) (pe_lst pa_nil) (nomark _)) (pss_one (ps_ret pe_bl)) pss_nil)
      (pss_cons (ps_for PassesOwn.never rfl (pi_list (pv 2)) (pg_tup rfl (pgs_cons (pg_name (i := 3) scLineRight.nd rfl (.inr rfl)) (pgs_cons (pg_name (i := 4) scLineRight.nd rfl (.inl rfl)) pgs_nil)))
        (pss_cons (ps_set (i := 5) scLineRight.nd rfl (.inl rfl) (pe_callB (cr_sumL rfl) (by rfl) B.sum (by decide +kernel) (pa_cons (pe_lc (own := [("_law_child", 8), ("_law_its", 9)]) (g := gTup K 2 (gCons (gName 8) (gCons (gName 9) (gNil)))) (tt := tTest (tOp rEq (tVar 9) (tVar 3))) rfl scLineRight.nd (pi_list (pv 2)) (blkOk_by (own := [("_law_child", 8), ("_law_its", 9)]) (N := NLineRight) (sc := defScope sLineRight) (by decide +kernel)) (fun _ _ _ _ _ => (pg_tup rfl (pgs_cons (pg_name (i := 8) scLineRight.nd rfl (.inl rfl)) (pgs_cons (pg_name (i := 9) scLineRight.nd rfl (.inl rfl)) pgs_nil)))) (fun _ _ _ _ _ => pts_one (pt_cmpR op_eq (pv 9) (pv 3) (nomark _))) (fun _ _ _ _ _ => (pe_call GGroup (hr.mono (by decide)) (by rfl) O.gGroup O.Group.kp bGroup .nil pass0 (pa_cons (pv 0) (pa_cons (pv 8) pa_nil))))) (pa_cons (pe_lst pa_nil) pa_nil))))
      (pss_cons (ps_if (pt_cmpR (op_neD hr.units) (pe_callB cr_sortedS (by rfl) B.sorted (by decide +kernel) (pa_cons (pe_op op_cat (pv 5) (pe_lst (pa_cons (pv 3) pa_nil))) pa_nil)) (pe_callB cr_sortedS (by rfl) B.sorted (by decide +kernel) (pa_cons (pe_call GGroup (hr.mono (by decide)) (by rfl) O.gGroup O.Group.kp bGroup .nil pass0 (pa_cons (pv 0) (pa_cons (pv 3) pa_nil))) pa_nil)) (nomark _)) (pss_one (ps_ret pe_bl)) pss_nil)
      (pss_cons (ps_set (i := 6) scLineRight.nd rfl (.inr rfl) (pe_call GUps (hr.mono (by decide)) (by rfl) W.gUps W.Ups.kp bUps .nil pass0 (pa_cons (pv 2) (pa_cons (pv 3) pa_nil))))
      (pss_cons (ps_set (i := 7) scLineRight.nd rfl (.inl rfl) (pe_call GTouched (hr.mono (by decide)) (by rfl) O.gTouched O.Touched.kp bTouched .nil pass0 (pa_cons (pv 0) (pa_cons (pv 3) pa_nil))))
      (pss_cons (ps_if (PW.pt (pw_or (pt_cmpR (op_neD hr.units) (pv 7) (pv 6) (nomark _)) (pw_or1 (pt_cmpR (op_neD hr.units) (pv 7) (pe_lc (own := [("_law_one", 10)]) (g := gName 10) (tt := tTest (tOp (rIn K false) (tVar 10) (tVar 6))) rfl scLineRight.nd (pi_list (pe_meth0 (pv 0) T.ins.cl T.mN GLNames (hr.mono (by decide)) bLNames .nil pass0)) (blkOk_by (own := [("_law_one", 10)]) (N := NLineRight) (sc := defScope sLineRight) (by decide +kernel)) (fun _ _ _ _ _ => pg_name (i := 10) scLineRight.nd rfl (.inl rfl)) (fun _ _ _ _ _ => pts_one (pt_cmpR op_in_seq (pv 10) (pv 6) (by rfl))) (fun _ _ _ _ _ => (pv 10))) (nomark _))))) (pss_one (ps_ret pe_bl)) pss_nil)
      (pss_cons (ps_expr (pe_bm PySem.F.plainAttrs_list PySem.F.slot_list_append PySem.F.type_list_append mt_append (pv 7) (pa_cons pe_str pa_nil)))
      (pss_one (ps_if (pt_cmpR (op_neD hr.units) (pe_call GTouched (hr.mono (by decide)) (by rfl) O.gTouched O.Touched.kp bTouched .nil pass0 (pa_cons (pv 0) (pa_cons (pv 3) pa_nil))) (pv 6) (nomark _)) (pss_one (ps_ret pe_bl)) pss_nil)))))))))
      (pss_one (ps_ret (pe_cmpR (op_rcB (rcB_own GLEq T.own bLEq pass0) (hr.mono (by decide))) (pv 0) (pe_make T.make GLInit (hr.mono (by decide)) (by rfl) gL bLInit .nil pass0 (pa_cons (pv 1) pa_nil)) (nomark _)))))))), ?_⟩
    refine ⟨.ref l, rfl, l, as, ks, rfl, hS, hA, hok, by omega, fun H1 dp ts ps s1 ndp edp hR lps hAb => ?_⟩
    refine ⟨.ref a, rfl, a, as, ks, U, rfl, hL.same s1, fun H2 fp ts2 ps2 s2 nfp _ _ efp hR2 hE2 l2 => ?_⟩
    obtain rfl : ps2 = ps := hE2.above.unique hAb (by rw [l2, lps])
    have up := hE2.up
    have rok : ∀ r ∈ rowsOf ks ps2, RowOk r := fun r hr' => by
      obtain ⟨i, hi, rfl⟩ := List.mem_map.mp hr'
      have hi' := List.mem_range.mp hi
      refine ⟨nword i (by omega), fun x hx => ?_⟩
      show IsWord x
      change parO ks ps2 i = some x at hx
      unfold parO at hx
      split at hx
      · rename_i j e
        have := up i j e
        obtain rfl := Option.some.inj hx
        exact nword j (by omega)
      · cases hx
    have sh := shows_rows rok (by rw [rowsOf_length]; omega)
    have edp2 := s2 _ _ edp
    have hR' := hR.same s2
    refine ⟨.ref fp, _, rfl, dq_rows (SqL.of efp) hR2.rows, sh.s, sh.z, sh.d, .ref dp, rfl, .ref dp, _, rfl, dq_rows (SqL.of edp2) hR'.rows, sh.s, sh.z, sh.d, rfl, _, rfl, ?_⟩
    rw [not_self]
    refine iteF ?_
    have s02 := s1.trans s2
    have w0 : Walk (Itl K dp) ts.length (fun H => SqL K H dp (ts.map V.ref)) (YAt (ts.map V.ref)) := walk_refs
    have lts := hR.len
    refine ⟨.ref dp, rfl, dp, rfl, ⟨_, SqL.of edp2⟩, fun D hD => ?_⟩
    refine lc_foldY w0 (fun i acc _ => acc = []) (by rw [sizeLine_eq]; omega) hD rfl (fun G s => SqL.of (s _ _ edp2)) yat_same (fun _ _ _ _ _ _ _ p => p) ?_ ?_
    · rintro i x acc G G' hi sG eD ⟨rfl, hx⟩ rfl N M hN hM
      obtain ⟨t, ht, rfl⟩ := ref_at hx
      have et := (hR'.same sG).at_ i t ht
      have hik : i < ks.length := by omega
      refine ⟨t, _, rfl, SqT.of et, rfl, _, _, rfl, _, [], rfl, rfl, rfl, ?_⟩
      refine ⟨.ref a, rfl, .str (nmA ks i), rfl, a, as, ks, U, i, rfl, hL.same (s02.trans sG), hik, fun G2 ps3 s3 E3 l3 => ?_⟩
      obtain rfl : ps3 = ps2 := E3.above.unique hAb (by rw [l3, lps])
      refine ⟨_, rfl, scal_par _ _ _, _, rfl, ?_⟩
      rw [not_self]
      exact iteF (hM G2 s3 rfl)
    rintro G3 acc s3 eD rfl
    refine ⟨(by show 0 ≤ sizeLine; decide), fun e ne => ⟨_, _, dp_nil (SqL.of ((Same.fresh (o := .lst []) ne) _ _ eD)), dp_nil (SqL.of upd_same), shaped_nil, shaped_nil, _, rfl, ?_⟩⟩
    have s4 := s3.trans (Same.fresh (o := .lst []) ne)
    generalize upd G3 e (.lst []) = G4 at s4
    rw [eqv_nil]
    refine iteF ?_
    have s04 := s02.trans s4
    have edp4 := s4 _ _ edp2
    have hR4 := hR'.same s4
    refine ⟨.ref dp, rfl, dp, rfl, ⟨_, SqL.of edp4⟩, for_list (K := K) (a := dp) (xs := ts.map V.ref) (fun m σ G => ∃ (v3 v4 v5 v6 v7 v8 v9 v10 : Option V), σ = [some (.ref a), some (.ref l), some (.ref dp), v3, v4, v5, v6, v7, v8, v9, v10] ∧ Same G4 G)
      ⟨_, _, _, _, _, _, _, _, rfl, Same.refl _⟩ (fun m σ G _ ⟨_, _, _, _, _, _, _, _, _, sG⟩ => SqL.of (sG _ _ edp4)) ?_ ?_⟩
    · rintro m x σ G hx ⟨v3, v4, v5, v6, v7, v8, v9, v10, rfl, sG⟩
      obtain ⟨t, ht, rfl⟩ := ref_at hx
      have hm : m < ks.length := by
        have := (List.getElem?_eq_some_iff.mp ht).1
        omega
      have et := (hR4.same sG).at_ m t ht
      have s0G := s04.trans sG
      have edpG := sG _ _ edp4
      have hRG := hR4.same sG
      refine ⟨t, _, rfl, SqT.of et, rfl, _, _, rfl, _, [], rfl, rfl, ?_⟩
      -- the groups below
      refine ⟨.ref dp, rfl, dp, rfl, ⟨_, SqL.of edpG⟩, fun D hD => ?_⟩
      refine lc_foldY w0 (fun i acc G' => ∃ gl : List Addr, acc = gl.map V.ref ∧ Paired (fun (b : Addr) (c : Nat) => b ≠ D ∧ G' b = some (.lst (nmsV ks (grp (lkA ks) c)))) gl (kidsTo ps2 i m)) (by rw [sizeLine_eq]; omega) hD ⟨[], rfl, .nil⟩ (fun G' s => SqL.of (s _ _ edpG)) yat_same (fun i acc l' G5 G6 eD kk ⟨gl, e1, e2⟩ => ⟨gl, e1, ?_⟩) ?_ ?_
      · clear e1
        revert e2
        generalize kidsTo ps2 i m = cs
        intro e2
        induction e2 with
        | nil => exact .nil
        | cons hh _ ih => exact .cons ⟨hh.1, kk _ _ hh.1 hh.2⟩ ih
      · rintro i x acc G5 G5' hi s5 eD ⟨rfl, hx⟩ ⟨gl, rfl, hgl⟩ N M hN hM
        obtain ⟨t2, ht2, rfl⟩ := ref_at hx
        have et2 := (hRG.same s5).at_ i t2 ht2
        have hik : i < ks.length := by omega
        have keep : ∀ {G6 : Hp}, Same G5' G6 → Paired (fun (b : Addr) (c : Nat) => b ≠ D ∧ G6 b = some (.lst (nmsV ks (grp (lkA ks) c)))) gl (kidsTo ps2 i m) := fun {G6} s6 => by
          revert hgl
          generalize kidsTo ps2 i m = cs
          intro e2
          clear hN hM eD
          induction e2 with
          | nil => exact .nil
          | cons hh _ ih => exact .cons ⟨hh.1, s6 _ _ hh.2⟩ ih
        refine ⟨t2, _, rfl, SqT.of et2, rfl, _, _, rfl, _, [], rfl, rfl, rfl, ?_⟩
        refine ⟨_, rfl, .str (nmA ks m), rfl, scal_str _ _ _ _, _, rfl, ?_⟩
        rw [par_is inj (by omega) up hm]
        by_cases hp : ps2[i]? = some (some m)
        · rw [decide_eq_true hp]
          refine iteT ⟨.ref a, rfl, .str (nmA ks i), rfl, a, as, ks, U, i, rfl, (hL.line.same (s0G.trans s5)), hL.nd, by omega, hL.u64, hL.sub, hik, fun G6 p ys s6 np ep so mem => hN _ G6 s6 ⟨gl ++ [p], by rw [List.map_append]; rfl, ?_⟩⟩
          obtain rfl : ys = grp (lkA ks) i := sorted_unique so grp_sorted fun y => by rw [mem, mem_grp]
          rw [kidsTo_succ, if_pos hp]
          refine paired_app (keep s6) (.cons ⟨fun z => ?_, ep⟩ .nil)
          rw [z, eD] at np
          cases np
        · rw [decide_eq_false hp]
          refine iteF (hM _ (Same.refl _) ⟨gl, rfl, ?_⟩)
          rw [kidsTo_succ, if_neg hp, List.append_nil]
          exact hgl
      rintro G5 acc s5 eD ⟨gl, rfl, hgl⟩
      have ekd : kidsTo ps2 ts.length m = kids ps2 m := by
        unfold kidsTo kids
        rw [lts]
      rw [ekd] at hgl
      have pm := group_perm (g := grp (lkA ks)) hE2 (lkA_sym ks) (i := m) (by omega) fun c _ => ⟨grp_sorted.imp fun h => Nat.ne_of_lt h, fun y => mem_grp⟩
      have gml : (grp (lkA ks) m).length ≤ m + 1 := nodup_sub_len (grp_sorted.imp fun h => Nat.ne_of_lt h) fun y hy => (mem_grp.mp hy).lt1
      have pml := pm.length_eq
      rw [List.length_append, List.length_singleton] at pml
      have gwd : ∀ z ∈ (grp (lkA ks) m).map (nmA ks), IsWord z := fun z hz' => by
        obtain ⟨y, hy, rfl⟩ := List.mem_map.mp hz'
        have := (mem_grp.mp hy).lt1
        exact nword y (by omega)
      have efl : ((kids ps2 m).map fun c => nmsV ks (grp (lkA ks) c)).flatten = nmsV ks ((kids ps2 m).map (grp (lkA ks))).flatten := nms_flat ks _ _
      have hgp : ∀ {G6 : Hp}, Same G5 G6 → Paired (fun (b : Addr) (xs : List V) => G6 b = some (.lst xs)) gl ((kids ps2 m).map fun c => nmsV ks (grp (lkA ks) c)) := fun {G6} s6 => by
        revert hgl
        generalize kids ps2 m = cs
        intro hgl
        clear pm pml efl ekd eD
        induction hgl with
        | nil => exact .nil
        | cons hh _ ih => exact .cons (s6 _ _ hh.2) ih
      refine ⟨(by show 0 ≤ sizeLine; decide), fun e ne => ?_⟩
      have se := Same.fresh (o := .lst []) ne
      refine ⟨D, e, gl, _, rfl, SqL.of (se _ _ eD), upd_same, hgp se, ?_, fun G6 b s6 eb => ?_⟩
      · rw [efl, List.length_map, sizeLine_eq]
        omega
      rw [efl] at eb
      have s56 := s5.trans (se.trans s6)
      have s06 := s0G.trans s56
      -- the names, sorted
      refine ⟨.ref b, rfl, .str (nmA ks m), rfl, (by show 1 ≤ sizeLine; decide), fun c nc => ?_⟩
      have sc := Same.fresh (o := .lst [V.str (nmA ks m)]) nc
      refine ⟨b, c, _, _, rfl, rfl, sc _ _ eb, upd_same, ?_, fun d nd => ?_⟩
      · rw [List.length_map, sizeLine_eq]
        show _ + 1 ≤ _
        omega
      have ecat : nmsV ks ((kids ps2 m).map (grp (lkA ks))).flatten ++ [V.str (nmA ks m)] = ((((kids ps2 m).map (grp (lkA ks))).flatten ++ [m]).map (nmA ks)).map V.str := by
        rw [List.map_append, List.map_append, ← nmsV_eq]
        rfl
      rw [ecat]
      have sd := sc.trans (Same.fresh (o := .lst (((((kids ps2 m).map (grp (lkA ks))).flatten ++ [m]).map (nmA ks)).map V.str)) nd)
      refine ⟨d, _, rfl, SqL.of upd_same, ?_, fun ys1 p1 pm1 so1 np1 => ?_⟩
      · rw [List.length_map, List.length_append, List.length_singleton]
        omega
      have sp1 := sd.trans (Same.fresh (o := .lst (ys1.map V.str)) np1)
      have ep1 : upd (upd (upd G6 c (.lst [V.str (nmA ks m)])) d (.lst (((((kids ps2 m).map (grp (lkA ks))).flatten ++ [m]).map (nmA ks)).map V.str))) p1 (.lst (ys1.map V.str)) p1 = some (.lst (ys1.map V.str)) := upd_same
      generalize upd (upd (upd G6 c (.lst [V.str (nmA ks m)])) d (.lst (((((kids ps2 m).map (grp (lkA ks))).flatten ++ [m]).map (nmA ks)).map V.str))) p1 (.lst (ys1.map V.str)) = G7 at sp1 ep1
      have s07 := s06.trans sp1
      refine ⟨.ref a, rfl, .str (nmA ks m), rfl, a, as, ks, U, m, rfl, hL.line.same s07, hL.nd, by omega, hL.u64, hL.sub, hm, fun G8 gp gs s8 ng eg so mem => ?_⟩
      obtain rfl : gs = grp (lkA ks) m := sorted_unique so grp_sorted fun y => by rw [mem, mem_grp]
      refine ⟨gp, (grp (lkA ks) m).map (nmA ks), rfl, SqL.of (by rw [eg, nmsV_eq]), by rw [List.length_map]; omega, fun ys2 p2 pm2 so2 np2 => ?_⟩
      obtain rfl : ys1 = ys2 := sorted_eq (pm1.trans ((pm.map (nmA ks)).trans pm2.symm)) so1 so2
      have wd2 : ∀ z ∈ ys1, IsWord z := fun z hz' => gwd z (pm2.mem_iff.mp hz')
      have sp2 := Same.fresh (o := .lst (ys1.map V.str)) np2
      refine ⟨_, _, dp_sts (SqL.of (sp2 _ _ (s8 _ _ ep1))), dp_sts (SqL.of upd_same), shaped_sts wd2, shaped_sts wd2, _, rfl, ?_⟩
      rw [eqv_same (shaped_sts wd2)]
      refine iteF ?_
      have s9 := s8.trans sp2
      have s59 := s56.trans (sp1.trans s9)
      have s09 := s0G.trans s59
      have edp9 := s59 _ _ edpG
      have hR9 := hRG.same s59
      generalize upd G8 p2 (.lst (ys1.map V.str)) = G9 at s59 s09 edp9 hR9
      -- up
      obtain ⟨fs, hf⟩ := fore_ex up _ m (Nat.le_refl _) (by omega)
      obtain ⟨flt, fnd⟩ := hf.lt up
      have fl : fs.length ≤ ps2.length := nodup_sub_len fnd fun x hx => (flt x hx).2
      refine ⟨.ref dp, rfl, .str (nmA ks m), rfl, dp, ts, ks, ps2, m, fs, rfl, SqL.of edp9, hR9, by rw [lps]; exact inj, by omega, hf, fl, fun G10 up_ s10 nup eup => ?_⟩
      have s010 := s09.trans s10
      refine ⟨.ref a, rfl, .str (nmA ks m), rfl, a, as, ks, U, m, rfl, hL.same s010, hm, fun G11 tp ps3 fs3 s11 ntp etp E3 l3 f3 => ?_⟩
      obtain rfl : ps3 = ps2 := E3.above.unique hAb (by rw [l3, lps])
      obtain rfl : fs3 = fs := f3.one hf
      have fwd : ∀ z ∈ fs3.map (nmA ks), IsWord z := fun z hz' => by
        obtain ⟨y, hy, rfl⟩ := List.mem_map.mp hz'
        exact nword y (by have := (flt y hy).2; omega)
      have eup11 := s11 _ _ eup
      have dpOf : ∀ {G : Hp} {p : Addr}, G p = some (.lst (nmsV ks fs3)) → Dp K G (.ref p) (.list (sts (fs3.map (nmA ks)))) := fun {G p} e => dp_sts (SqL.of (by rw [e, nmsV_eq]))
      refine ⟨.ref tp, rfl, .ref up_, rfl, _, _, dpOf etp, dpOf eup11, shaped_sts fwd, shaped_sts fwd, _, rfl, ?_⟩
      rw [eqv_same (shaped_sts fwd)]
      refine iteF ?_
      have s011 := s010.trans s11
      obtain ⟨dx, t', hI1, hI2, hI3⟩ := hL.line.same s011
      refine ⟨.ref tp, rfl, .ref a, rfl, a, dx, _, rfl, hI1, rfl, a, as, ks, rfl, hL.line.same s011, by omega, fun G12 np_ s12 nnp enp => ⟨np_, rfl, ⟨_, SqL.of enp⟩, fun D2 hD2 => ?_⟩⟩
      refine lc_keep (xs := ks.map Ask.nm) (keep := fun x => decide (x ∈ fs3.map (nmA ks))) (walk_strs (K := K) (a := np_) (xs := ks.map Ask.nm)) rfl (by rw [List.length_map]; omega) hD2 (fun G' s' => SqL.of (s' _ _ enp)) (fun x G' s' _ N M h1 h2 => ?_) fun G13 s13 e13 => ?_
      · refine ⟨rfl, .str x, rfl, .ref up_, rfl, up_, _, rfl, .inl (SqL.of (by rw [s' _ _ (s12 _ _ eup11), nmsV_eq])), rfl, strs_flat _, _, rfl, ?_⟩
        rw [inV_strs]
        by_cases hx' : x ∈ fs3.map (nmA ks)
        · rw [decide_eq_true hx']
          exact ⟨.str x, rfl, h1 (decide_eq_true hx')⟩
        · rw [decide_eq_false hx']
          exact h2 (decide_eq_false hx')
      rw [up_filter hL.nd (hf.sorted up) fun t ht => by have := (flt t ht).2; omega] at e13
      have s1113 := s12.trans s13
      refine ⟨_, _, dpOf (s1113 _ _ etp), dp_sts (SqL.of e13), shaped_sts fwd, shaped_sts fwd, _, rfl, ?_⟩
      rw [eqv_same (shaped_sts fwd)]
      refine iteF ?_
      -- what is told may be changed
      have etp13 := s1113 _ _ etp
      have eup13 := s1113 _ _ eup11
      have s013 := s011.trans s1113
      have ntp0 : H tp = none := Same.free s010 ntp
      refine ⟨.ref tp, rfl, .inl ⟨rfl, _, SqL.of etp13⟩, tp, _, .str "more", rfl, rfl, etp13, by rw [List.length_map, sizeLine_eq]; omega, ?_⟩
      have nut : up_ ≠ tp := fun e => by rw [e, ntp] at eup; cases eup
      have s014 : Same H (upd G13 tp (.lst (nmsV ks fs3 ++ [.str "more"]))) := s013.put ntp0
      have nG4 : G4 tp = none := Same.free (sG.trans (s59.trans s10)) ntp
      have s414 : Same G4 (upd G13 tp (.lst (nmsV ks fs3 ++ [.str "more"]))) := (sG.trans (s59.trans (s10.trans (s11.trans s1113)))).put nG4
      have eup14 : upd G13 tp (.lst (nmsV ks fs3 ++ [.str "more"])) up_ = some (.lst (nmsV ks fs3)) := by rw [upd_ne nut]; exact eup13
      generalize upd G13 tp (.lst (nmsV ks fs3 ++ [.str "more"])) = G14 at s014 s414 eup14
      refine ⟨.ref a, rfl, .str (nmA ks m), rfl, a, as, ks, U, m, rfl, hL.same s014, hm, fun G15 tq ps4 fs4 s15 ntq etq E4 l4 f4 => ?_⟩
      obtain rfl : ps4 = ps3 := E4.above.unique hAb (by rw [l4, lps])
      obtain rfl : fs4 = fs3 := f4.one hf
      refine ⟨.ref up_, rfl, _, _, dpOf etq, dpOf (s15 _ _ eup14), shaped_sts fwd, shaped_sts fwd, _, rfl, ?_⟩
      rw [eqv_same (shaped_sts fwd)]
      exact iteF ⟨_, _, _, _, _, _, _, _, rfl, s414.trans s15⟩
    · rintro σ G ⟨v3, v4, v5, v6, v7, v8, v9, v10, rfl, sG⟩
      have s0G := s04.trans sG
      refine ⟨.ref a, rfl, .ref l, rfl, made_line (s0G.seq hS) (hA.same s0G) (by omega) hL.nd fun G8 x2 s8 nx2 LA2 => ⟨true, dil_line T (hL.line.same (s0G.trans s8)) LA2 (by simp), q _ (s0G.trans s8)⟩⟩
end
end Eld
end L2

set_option Elab.async false
set_option linter.all false
set_option maxRecDepth 100000
set_option maxHeartbeats 4000000
/-! ## other lines -/
namespace L2
namespace Eld
open PySem PySem.Spec PyProof.Rows PySem.EldX
theorem nmA_congr {cs ks : List Ask} (h : cs.map Ask.nm = ks.map Ask.nm) : nmA cs = nmA ks := by
  funext i
  unfold nmA
  rw [← List.getElem?_map, ← List.getElem?_map, h]
theorem fitsA_congr {cs ks : List Ask} (h : cs.map Ask.ks = ks.map Ask.ks) : fitsA cs = fitsA ks := by
  funext i
  unfold fitsA
  rw [← List.getElem?_map, ← List.getElem?_map, h]
theorem lkA_congr {cs ks : List Ask} (h : cs.map Ask.ks = ks.map Ask.ks) : lkA cs = lkA ks := by
  funext i j
  unfold lkA
  rw [fitsA_congr h]
theorem rowsOf_congr {cs ks : List Ask} (h : cs.map Ask.nm = ks.map Ask.nm) (ps : List (Option Nat)) : rowsOf cs ps = rowsOf ks ps := by
  unfold rowsOf parO
  rw [nmA_congr h]
theorem share_of {a b : List Str} {x : Str} (h1 : x ∈ a) (h2 : x ∈ b) : share a b = true := by
  unfold share
  exact List.any_eq_true.mpr ⟨x, h1, decide_eq_true h2⟩
theorem rowsOk {ks : List Ask} {ps : List (Option Nat)} (hok : ∀ k ∈ ks, AskOk k) (hl : ps.length = ks.length) (lt : ∀ (i j : Nat), ps[i]? = some (some j) → j < ps.length) : ∀ r ∈ rowsOf ks ps, RowOk r := fun r hr => by
  have nword : ∀ j, j < ks.length → IsWord (nmA ks j) := fun j hj => by
    rw [nmA_at (List.getElem?_eq_getElem hj)]
    exact (hok _ (List.getElem_mem hj)).nm
  obtain ⟨i, hi, rfl⟩ := List.mem_map.mp hr
  have hi' := List.mem_range.mp hi
  refine ⟨nword i (by omega), fun x hx => ?_⟩
  change parO ks ps i = some x at hx
  unfold parO at hx
  split at hx
  · rename_i j e
    have := lt i j e
    obtain rfl := Option.some.inj hx
    exact nword j (by omega)
  · cases hx
theorem Above.lt {lk : Nat → Nat → Bool} {ps : List (Option Nat)} (h : Above lk ps) : ∀ (i j : Nat), ps[i]? = some (some j) → j < ps.length := fun i j e => (h i _ e).2.1
theorem pe_revK {X : Cx} (K : PySem.W.Frag) (hK : X.K = K) {e : Expr} {te : TE} {k : Nat} {p1 p2 p3 pos : Pos} (he : PE X e te) : PE X (.Subscript e (.Slice none none (some (.UnaryOp .USub (.Constant (.int 1) k p1) p2)) p3) pos) (tRevL K te) := by
  subst hK
  exact pe_revL he
theorem cut_fromS {xs : List Str} {i : Nat} (h : i ≤ xs.length) : cutV (xs.map V.str) (some (i : Int)) none = (xs.drop i).map V.str := by
  rw [cutV_map, HT.sIx_none, HT.sIx_nat, Nat.min_eq_left h, List.take_of_length_le (Nat.le_of_eq List.length_drop)]
theorem chain_row {ks : List Ask} {i : Nat} (hi : i < ks.length) : ((((ks.map Ask.nm).drop (i + 1)).map V.str) ++ [V.non])[0]? = some (optV (parO ks (chainP ks.length) i)) := by
  have e : (chainP ks.length)[i]? = some (if i + 1 < ks.length then some (i + 1) else none) := by
    unfold chainP
    rw [List.getElem?_map, List.getElem?_range hi]
    rfl
  unfold parO
  rw [e]
  by_cases h : i + 1 < ks.length
  · rw [if_pos h]
    have h' : i + 1 < (ks.map Ask.nm).length := by rw [List.length_map]; exact h
    rw [List.drop_eq_getElem_cons h', List.map_cons, List.cons_append, List.getElem?_cons_zero, List.getElem_map]
    show some (V.str ks[i + 1].nm) = some (V.str (nmA ks (i + 1)))
    rw [nmA_at (List.getElem?_eq_getElem h)]
  · rw [if_neg h, List.drop_eq_nil_of_le (by rw [List.length_map]; omega)]
    rfl
theorem rowsAt_of {H : Hp} {D : Addr} : ∀ {ts : List Addr} {rs : List Row}, Paired (fun (t : Addr) (r : Row) => t ≠ D ∧ H t = some (.tup [.str r.1, optV r.2])) ts rs → RowsAt H ts rs
  | _, _, .nil => .nil
  | _, _, .cons h t => .cons h.2 (rowsAt_of t)
structure LClsB (K : PySem.W.Frag) (C fW fI2 : Addr) : Prop where
  mW : Meth K C "without" fW
  mI : Meth K C "put_in" fI2
/-- two more checks, where they stand -/
structure Chk3 (K : PySem.W.Frag) (mg : Str → Option Value) (fNeedAsker fCount : Addr) (dNeedAsker dCount : FuncData) : Prop where
  NeedAsker : Fun K "need_asker" "need_asker" sNeedAsker fNeedAsker dNeedAsker
  Count : Fun K "is_count" "is_count" sCount fCount dCount
  gNeedAsker : mg "need_asker" = some (.ref fNeedAsker)
  gCount : mg "is_count" = some (.ref fCount)
section
variable {P : Program} {w : World} {K : PySem.W.Frag} {mg : Str → Option Value} {base : Heap} {fM fD fO fS fW fWi fPi : Addr} {dM dD dO dS dW dWi dPi : FuncData} {CA fI pN gN pF gF pM gM fE CL fLI fLE fLL fLA fLN fLK fLR fLP : Addr}
theorem Kp.asks' {C p : Addr} {H H' : Hp} {n : Nat} (hp : PurseAt H p n) (s : Kp p H H') {as : List Addr} {ks : List Ask} (h : Asks C H as ks) : Asks C H' as ks := s.asks hp h
def spOthersRight (K : PySem.W.Frag) (CL CA : Addr) : Sp := fun vs H Q _ => ∃ (p l : Addr) (as : List Addr) (ks : List Ask) (U : List Str) (n : Nat), vs = [.ref p, .ref l] ∧ PurseAt H p n ∧ n ≤ 80000000000 ∧ l ≠ p ∧ SqL K H l (as.map V.ref) ∧ Asks CA H as ks ∧ (ks.map Ask.nm).Nodup ∧ 1 ≤ ks.length ∧ ks.length ≤ 6 ∧ (∀ k ∈ ks, (AskOk k ∧ k.ks.length ≤ 2) ∧ ∀ y ∈ k.ks, y ∈ U) ∧ U.length ≤ 64 ∧
  ∀ H', Kp p H H' → PurseAt H' p (n + 240) → Q (.bl true) H'
theorem ok_othersRight {f fNeedLine fShare fParents fGroups fFore fGroup fParent fForest fTouched fLLinked fIsNear fGrown fAbove fUps fSpareName fNA fCt f3 f4 : Addr} {fd dNeedLine dShare dParents dGroups dFore dGroup dParent dForest dTouched dLLinked dIsNear dGrown dAbove dUps dSpareName dNA dCt d3 d4 dAN dAF dAE dAI dLI dLE dLN dLP dLA : FuncData} (F : Fun K "_law_others_right" "_law_others_right" sOthersRight f fd) (B : Blt mg) (B2 : Blt2 mg) (O : Ord2 K mg fNeedLine fShare fParents fGroups fFore fGroup fParent fForest fTouched dNeedLine dShare dParents dGroups dFore dGroup dParent dForest dTouched) (W : Own2 K mg fLLinked fIsNear fGrown fAbove fUps fSpareName dLLinked dIsNear dGrown dAbove dUps dSpareName) (L : Drw K mg fM fD fO fS fW dM dD dO dS dW) (C2 : Chk2 K mg f3 f4 d3 d4) (C3 : Chk3 K mg fNA fCt dNA dCt)
    (TA : ACls K CA fI pN gN pF gF pM gM fE) (gA : mg "Asker" = some (.ref CA)) (FAN : Fun K "name" "Asker.name" sAName gN dAN) (FAF : Fun K "fits" "Asker.fits" sAFits gF dAF) (FAE : Fun K "__eq__" "Asker.__eq__" sAEq fE dAE) (T : LCls K CL fLI fLE fLL fLA fLN fLK fLR fLP) (gL : mg "Line" = some (.ref CL)) (FLE : Fun K "__eq__" "Line.__eq__" sLEq fLE dLE) (FLN : Fun K "names" "Line.names" sLNames fLN dLN) (FLP : Fun K "place" "Line.place" sLPlace fLP dLP) (FLA : Fun K "askers" "Line.askers" sLAskers fLA dLA)
    (GLInit : FnOk P w K mg base CX0 4 fLI dLI ["self", "askers"] (spLInit K CL CA)) (bLInit : Binds K dLI ["self", "askers"] []) (GAInit : FnOk P w K mg base CX0 3 fI dAI ["self", "name", "fits", "most"] (spAInit K CA)) (bAInit : Binds K dAI ["self", "name", "fits", "most"] [])
    (T2 : LClsB K CL fWi fPi) (FWi : Fun K "without" "Line.without" sLWithout fWi dWi) (FPi : Fun K "put_in" "Line.put_in" sLPutIn fPi dPi) : FnOk P w K mg base CX0 7 f fd ["_law_purse_here", "_law_askers"] (spOthersRight K CL CA) := by
  have GForest : FnOk P w K mg base CX0 5 fForest dForest ["line"] (spForest CL CA) := ok_forest O.Forest B B2 O.NeedLine O.gNeedLine O.Parents O.gParents O.Share O.gShare TA FAN FAF T gL FLN FLP FLA
  have bForest : Binds K dForest ["line"] [] := O.Forest.binds fun _ _ _ _ _ _ us hl => match us, hl with | [_], _ => rfl
  have GAbove : FnOk P w K mg base CX0 6 fAbove dAbove ["_law_askers"] (spAbove K CA) := ok_above W.Above B W.Grown W.gGrown W.IsNear W.gIsNear W.LLinked W.gLLinked TA FAN FAF
  have bAbove : Binds K dAbove ["_law_askers"] [] := W.Above.binds fun _ _ _ _ _ _ us hl => match us, hl with | [_], _ => rfl
  have GDraw : FnOk P w K mg base CX0 2 fD dD ["_law_purse_here", "_law_many"] spDraw := L.okDraw B
  have GSpareName : FnOk P w K mg base CX0 1 fSpareName dSpareName ["_law_names_here"] (spSpare K) := ok_spare W.SpareName B
  have bSpareName : Binds K dSpareName ["_law_names_here"] [] := W.SpareName.binds fun _ _ _ _ _ _ us hl => match us, hl with | [_], _ => rfl
  have GAName : FnOk P w K mg base CX0 1 gN dAN ["self"] (spAName CA) := ok_aname FAN TA
  have bAName : Binds K dAN ["self"] [] := FAN.binds fun _ _ _ _ _ _ us hl => match us, hl with | [_], _ => rfl
  have GAFits : FnOk P w K mg base CX0 1 gF dAF ["self"] (spAFits CA) := ok_afits FAF B TA
  have bAFits : Binds K dAF ["self"] [] := FAF.binds fun _ _ _ _ _ _ us hl => match us, hl with | [_], _ => rfl
  have GLWithout : FnOk P w K mg base CX0 6 fWi dWi ["self", "name"] (spWithout CL CA) := ok_without FWi B TA FAN T gL FLN FLP GLInit bLInit
  have bLWithout : Binds K dWi ["self", "name"] [] := FWi.binds fun _ _ _ _ _ _ us hl => match us, hl with | [_, _], _ => rfl
  have GLPutIn : FnOk P w K mg base CX0 6 fPi dPi ["self", "asker", "place"] (spPutIn CL CA) := ok_putIn FPi B C2 C3.NeedAsker C3.gNeedAsker C3.Count C3.gCount TA gA FAN T gL FLN GLInit bLInit
  have bLPutIn : Binds K dPi ["self", "asker", "place"] [] := FPi.binds fun _ _ _ _ _ _ us hl => match us, hl with | [_, _, _], _ => rfl
  refine F.ok scOthersRight (fun vs H Q E h => ?_) (fun cdv A outer s H vs Q E hr h => ?_)
  · obtain ⟨p, l, as, ks, U, n, rfl, _⟩ := h
    rfl
  · obtain ⟨p, l, as, ks, U, n, rfl, hp, hn, hlp, hS, hA, hnd, h1, h6, hok, hU, q⟩ := h
    have hla := hA.len
    have hok1 : ∀ k ∈ ks, AskOk k := fun k hk => (hok k hk).1.1
    have hsub : ∀ k ∈ ks, k.ks.Nodup ∧ ∀ x ∈ k.ks, x ∈ U := fun k hk => ⟨(hok1 k hk).nd, (hok k hk).2⟩
    refine ⟨_, (pss_cons (ps_for PassesOwn.never rfl (pi_range1 rfl B.range (pa_cons (pe_callB call_len_seq (by rfl) B.len PySem.boot_len (pa_cons (pv 1) pa_nil)) pa_nil)) (pg_name (i := 2) scOthersRight.nd rfl (.inl rfl))
        (pss_cons (ps_set (i := 3) scOthersRight.nd rfl (.inl rfl) (pe_op op_cat (pe_slice sl_list (pv 1) po_none (po_some (pv 2))) (pe_slice sl_list (pv 1) (po_some (pe_op op_add (pv 2) pe_int)) po_none)))
      (pss_one (ps_if (pt_cmpR (op_neD hr.units) (pe_call GForest (hr.mono (by decide)) (by rfl) O.gForest O.Forest.kp bForest .nil pass0 (pa_cons (pe_meth (pe_make T.make GLInit (hr.mono (by decide)) (by rfl) gL bLInit .nil pass0 (pa_cons (pv 1) pa_nil)) T.ins.cl T2.mW GLWithout (hr.mono (by decide)) bLWithout .nil pass0 (pa_cons (pe_prop (pe_ix ix_list (pv 1) (pv 2) (fun _ _ => rfl)) TA.ins.cl TA.pN GAName (hr.mono (by decide)) bAName .nil pass0 rfl) pa_nil)) pa_nil)) (pe_call GAbove (hr.mono (by decide)) (by rfl) W.gAbove W.Above.kp bAbove .nil pass0 (pa_cons (pv 3) pa_nil)) (nomark _)) (pss_one (ps_ret pe_bl)) pss_nil))))
      (pss_cons (ps_set (i := 4) scOthersRight.nd rfl (.inl rfl) (pe_callB (cr_sortedSetS rfl) (by rfl) B.sorted (by decide +kernel) (pa_cons (pe_callTy (cr_setS rfl) (by rfl) B.set (by decide +kernel) (pa_cons (pe_callB (cr_sumL rfl) (by rfl) B.sum (by decide +kernel) (pa_cons (pe_lc (own := [("_law_asker", 9)]) (g := gName 9) (tt := tYes) (te := tProp CA (spAFits CA) [] E0 (tVar 9)) rfl scOthersRight.nd (pi_list (pv 1)) (blkOk_by (own := [("_law_asker", 9)]) (N := NOthersRight) (sc := defScope sOthersRight) (by decide +kernel)) (fun _ _ _ _ _ => pg_name (i := 9) scOthersRight.nd rfl (.inl rfl)) (fun _ _ _ _ _ => pts_nil) (fun _ _ _ _ _ => (pe_prop (pv 9) TA.ins.cl TA.pF GAFits (hr.mono (by decide)) bAFits .nil pass0 rfl))) (pa_cons (pe_lst pa_nil) pa_nil))) pa_nil)) pa_nil)))
      (pss_cons (ps_set (i := 5) scOthersRight.nd rfl (.inl rfl) (pe_call GSpareName (hr.mono (by decide)) (by rfl) W.gSpareName W.SpareName.kp bSpareName .nil pass0 (pa_cons (pe_lc (own := [("_law_asker", 9)]) (g := gName 9) (tt := tYes) (te := tProp CA (spAName CA) [] E0 (tVar 9)) rfl scOthersRight.nd (pi_list (pv 1)) (blkOk_by (own := [("_law_asker", 9)]) (N := NOthersRight) (sc := defScope sOthersRight) (by decide +kernel)) (fun _ _ _ _ _ => pg_name (i := 9) scOthersRight.nd rfl (.inl rfl)) (fun _ _ _ _ _ => pts_nil) (fun _ _ _ _ _ => (pe_prop (pv 9) TA.ins.cl TA.pN GAName (hr.mono (by decide)) bAName .nil pass0 rfl))) pa_nil)))
      (pss_cons (ps_set (i := 6) scOthersRight.nd rfl (.inl rfl) (pe_call GForest (hr.mono (by decide)) (by rfl) O.gForest O.Forest.kp bForest .nil pass0 (pa_cons (pe_meth (pe_make T.make GLInit (hr.mono (by decide)) (by rfl) gL bLInit .nil pass0 (pa_cons (pv 1) pa_nil)) T.ins.cl T2.mI GLPutIn (hr.mono (by decide)) bLPutIn .nil pass0 (pa_cons (pe_make TA.make GAInit (hr.mono (by decide)) (by rfl) gA bAInit .nil pass0 (pa_cons (pv 5) (pa_cons (pv 4) (pa_cons pe_int pa_nil)))) (pa_cons pe_int pa_nil))) pa_nil)))
      (pss_cons (ps_set (i := 7) scOthersRight.nd rfl (.inr rfl) (pe_op op_cat (pe_lst (pa_cons (pv 5) pa_nil)) (pe_lc (own := [("_law_asker", 9)]) (g := gName 9) (tt := tYes) (te := tProp CA (spAName CA) [] E0 (tVar 9)) rfl scOthersRight.nd (pi_list (pv 1)) (blkOk_by (own := [("_law_asker", 9)]) (N := NOthersRight) (sc := defScope sOthersRight) (by decide +kernel)) (fun _ _ _ _ _ => pg_name (i := 9) scOthersRight.nd rfl (.inl rfl)) (fun _ _ _ _ _ => pts_nil) (fun _ _ _ _ _ => (pe_prop (pv 9) TA.ins.cl TA.pN GAName (hr.mono (by decide)) bAName .nil pass0 rfl)))))
      (pss_cons (ps_if (pt_cmpR (op_neD hr.units) (pv 6) (pe_lc (own := [("_law_at", 2), ("_law_name", 10)]) (g := gTup K 2 (gCons (gName 2) (gCons (gName 10) (gNil)))) (tt := tYes) (te := tTup (tCons (tVar 10) (tCons (tOp (rIxL K) (tOp rCat (tSl (rSlL K) (tVar 7) (tPart (tOp (rI0 fun i j => .int (i + j)) (tVar 2) (tC (.int 1)))) tNoPart) (tLst (tCons (tC .non) tNil))) (tC (.int 0))) tNil))) rfl scOthersRight.nd (pi_enum rfl B2.enumerate (pa_cons (pv 7) pa_nil)) (blkOk_by (own := [("_law_at", 2), ("_law_name", 10)]) (N := NOthersRight) (sc := defScope sOthersRight) (by decide +kernel)) (fun _ _ _ _ _ => (pg_tup rfl (pgs_cons (pg_name (i := 2) scOthersRight.nd rfl (.inl rfl)) (pgs_cons (pg_name (i := 10) scOthersRight.nd rfl (.inl rfl)) pgs_nil)))) (fun _ _ _ _ _ => pts_nil) (fun _ _ _ _ _ => (pe_tup (pa_cons (pv 10) (pa_cons (pe_ix ix_list (pe_op op_cat (pe_slice sl_list (pv 7) (po_some (pe_op op_add (pv 2) pe_int)) po_none) (pe_lst (pa_cons pe_non pa_nil))) pe_int (fun _ _ => rfl)) pa_nil))))) (nomark _)) (pss_one (ps_ret pe_bl)) pss_nil)
      (pss_cons (ps_setLc (i := 8) (own := [("_law_asker", 9)]) (g := gName 9) (tt := tYes) rfl scOthersRight.nd rfl rfl (sw_true rfl rfl rfl (by decide +kernel)) (pi_list (pv 1)) (blkOk_by (own := [("_law_asker", 9)]) (N := NOthersRight) (sc := defScope sOthersRight) (by decide +kernel)) (fun _ _ _ _ _ => pg_name (i := 9) scOthersRight.nd rfl (.inl rfl)) (fun _ _ _ _ _ => pts_nil) (fun _ _ _ _ _ => (pe_make TA.make GAInit (hr.mono (by decide)) (by rfl) gA bAInit .nil pass0 (pa_cons (pe_prop (pv 9) TA.ins.cl TA.pN GAName (hr.mono (by decide)) bAName .nil pass0 rfl) (pa_cons (pe_revK K rfl (pe_prop (pv 9) TA.ins.cl TA.pF GAFits (hr.mono (by decide)) bAFits .nil pass0 rfl)) (pa_cons (pe_op op_add pe_int (pe_call GDraw (hr.mono (by decide)) (by rfl) L.gDraw L.Draw.kp L.bDraw .nil pass0 (pa_cons (pv 0) (pa_cons (pe_op op_pow pe_int pe_int) pa_nil)))) pa_nil))))))
      (pss_one (ps_ret (pe_cmpR (op_eqD hr.units) (pe_call GForest (hr.mono (by decide)) (by rfl) O.gForest O.Forest.kp bForest .nil pass0 (pa_cons (pe_make T.make GLInit (hr.mono (by decide)) (by rfl) gL bLInit .nil pass0 (pa_cons (pv 8) pa_nil)) pa_nil)) (pe_call GForest (hr.mono (by decide)) (by rfl) O.gForest O.Forest.kp bForest .nil pass0 (pa_cons (pe_make T.make GLInit (hr.mono (by decide)) (by rfl) gL bLInit .nil pass0 (pa_cons (pv 1) pa_nil)) pa_nil)) (nomark _))))))))))), ?_⟩
    refine ⟨.ref l, rfl, l, _, rfl, .inl hS, _, rfl, by rw [List.length_map]; omega, by rw [List.length_map]; omega, ?_⟩
    refine for_range (lo := 0) (n := ((((as.map V.ref).length : Nat) : Int)).toNat) (fun m σ G => ∃ (v2 v3 v4 v5 v6 v7 v8 v9 v10 : Option V), σ = [some (.ref p), some (.ref l), v2, v3, v4, v5, v6, v7, v8, v9, v10] ∧ Same H G) ⟨_, _, _, _, _, _, _, _, _, rfl, Same.refl _⟩ ?_ ?_
    · rintro m σ G hm ⟨v2, v3, v4, v5, v6, v7, v8, v9, v10, rfl, sG⟩
      rw [List.length_map] at hm
      have hmk : m < ks.length := by omega
      have et : (0 : Int) + (m : Nat) = ((m : Nat) : Int) := by omega
      rw [et]
      refine ⟨.ref l, rfl, .int (m : Nat), rfl, m, rfl, l, _, rfl, sG.seq hS, fun c1 nc1 => ?_⟩
      have s1 := sG.trans (Same.fresh (o := .lst (cutV (as.map V.ref) none (some (m : Int)))) nc1)
      refine ⟨.ref l, rfl, .int (m : Nat), rfl, m, 1, rfl, rfl, _, rfl, l, _, rfl, s1.seq hS, fun c2 nc2 => ?_⟩
      have s2 := s1.trans (Same.fresh (o := .lst (cutV (as.map V.ref) (some ((m : Int) + 1)) none)) nc2)
      refine ⟨c1, c2, _, _, rfl, rfl, (Same.fresh nc2) _ _ upd_same, upd_same, ?_, fun c3 nc3 => ?_⟩
      · rw [show ((m : Int) + 1) = ((m + 1 : Nat) : Int) by omega, cut_to (by omega), cut_from (by omega), List.length_map, List.length_map, List.length_take, List.length_drop, sizeLine_eq]
        omega
      have el : cutV (as.map V.ref) none (some (m : Int)) ++ cutV (as.map V.ref) (some ((m : Int) + 1)) none = (as.take m ++ as.drop (m + 1)).map V.ref := by
        rw [show ((m : Int) + 1) = ((m + 1 : Nat) : Int) by omega, cut_to (by omega), cut_from (by omega), ← List.map_append]
      rw [el]
      have s3 := s2.trans (Same.fresh (o := .lst ((as.take m ++ as.drop (m + 1)).map V.ref)) nc3)
      have ec3 : upd (upd (upd G c1 (.lst (cutV (as.map V.ref) none (some (m : Int))))) c2 (.lst (cutV (as.map V.ref) (some ((m : Int) + 1)) none))) c3 (.lst ((as.take m ++ as.drop (m + 1)).map V.ref)) c3 = some (.lst ((as.take m ++ as.drop (m + 1)).map V.ref)) := upd_same
      generalize upd (upd (upd G c1 (.lst (cutV (as.map V.ref) none (some (m : Int))))) c2 (.lst (cutV (as.map V.ref) (some ((m : Int) + 1)) none))) c3 (.lst ((as.take m ++ as.drop (m + 1)).map V.ref)) = G3 at s3 ec3
      refine ⟨.ref l, rfl, made_line (s3.seq hS) (hA.same s3) (by omega) hnd fun G4 x s4 nx LA => ?_⟩
      have s04 := s3.trans s4
      obtain ⟨dx, tx, hx1, hx2, hx3⟩ := id LA
      obtain ⟨a, ea, Aa⟩ := ask_nth (hA.same s04) hmk
      obtain ⟨da, fa, Ia⟩ := Aa.ins
      refine ⟨x, dx, _, rfl, hx1, rfl, .ref l, rfl, .int (m : Nat), rfl, l, _, _, .ref a, rfl, rfl, s04.seq hS, atI_nat (by rw [List.getElem?_map, ea]; rfl), a, da, fa, rfl, Ia, a, ks[m], rfl, Aa, ?_⟩
      refine ⟨x, as, ks, m, ks[m], rfl, LA, by omega, hnd, List.getElem?_eq_getElem hmk, fun G5 b s5 LB => ?_⟩
      have dsub := drop_sub ks m
      have mems : ∀ k ∈ ks.take m ++ ks.drop (m + 1), k ∈ ks := fun k hk => dsub.subset hk
      have dlen : (ks.take m ++ ks.drop (m + 1)).length ≤ 6 := Nat.le_trans dsub.length_le h6
      have LG5 : LG CL CA G5 b (as.take m ++ as.drop (m + 1)) (ks.take m ++ ks.drop (m + 1)) U := ⟨LB, hnd.sublist (dsub.map _), by omega, hU, fun k hk => hsub k (mems k hk)⟩
      refine ⟨b, _, _, U, rfl, LG5, fun G6 fp ts ps s6 nfp _ _ efp hR hE lps => ?_⟩
      have s06 := s04.trans (s5.trans s6)
      have s36 := s4.trans (s5.trans s6)
      refine ⟨.ref c3, rfl, c3, _, _, rfl, SqL.of (s36 _ _ ec3), LG5.line.asks.same s6, fun k hk => hok1 k (mems k hk), by omega, fun G7 dp ts2 ps2 s7 ndp edp hR2 lps2 hAb => ?_⟩
      obtain rfl : ps = ps2 := hE.above.unique hAb (by rw [lps, lps2])
      have rok := rowsOk (fun k hk => hok1 k (mems k hk)) lps hAb.lt
      refine ⟨_, _, dp_rows (SqL.of (s7 _ _ efp)) (hR.same s7).rows, dp_rows (SqL.of edp) hR2.rows, shaped_rows rok, shaped_rows rok, _, rfl, ?_⟩
      rw [eqv_same (shaped_rows rok)]
      exact iteF ⟨_, _, _, _, _, _, _, _, _, rfl, s06.trans s7⟩
    rintro σ G ⟨v2, v3, v4, v5, v6, v7, v8, v9, v10, rfl, sG⟩
    have wr : Walk (Itl K l) as.length (fun H => SqL K H l (as.map V.ref)) (YAt (as.map V.ref)) := walk_refs
    -- all fits
    refine ⟨.ref l, rfl, l, rfl, ⟨_, sG.seq hS⟩, fun D hD => ?_⟩
    refine lc_foldY wr (fun i acc G' => ∃ gl : List Addr, acc = gl.map V.ref ∧ Paired (fun (b : Addr) (k : Ask) => b ≠ D ∧ G' b = some (.lst (k.ks.map V.str))) gl (ks.take i)) (by rw [sizeLine_eq]; omega) hD ⟨[], rfl, .nil⟩ (fun G' s => s.seq (sG.seq hS)) yat_same (fun i acc l' G5 G6 eD kk ⟨gl, e1, e2⟩ => ⟨gl, e1, ?_⟩) ?_ ?_
    · clear e1
      revert e2
      generalize ks.take i = cs
      intro e2
      induction e2 with
      | nil => exact .nil
      | cons hh _ ih => exact .cons ⟨hh.1, kk _ _ hh.1 hh.2⟩ ih
    · rintro i x acc G5 G5' hi s5 eD ⟨rfl, hx⟩ ⟨gl, rfl, hgl⟩ N M hN hM
      obtain ⟨b, hb, rfl⟩ := ref_at hx
      obtain ⟨k, hk, Ak0⟩ := hA.get hb
      have Ak := Ak0.same (sG.trans s5)
      obtain ⟨db, fb, Ib⟩ := Ak.ins
      refine ⟨rfl, ?_⟩
      unfold tYes
      show (if true = true then _ else _)
      rw [if_pos rfl]
      refine ⟨.ref b, rfl, b, db, fb, rfl, Ib, b, k, rfl, Ak, fun c nc => hN _ _ (Same.fresh nc) ⟨gl ++ [c], by rw [List.map_append]; rfl, ?_⟩⟩
      rw [List.take_add_one, hk]
      refine paired_app ?_ (.cons ⟨fun z => (by rw [z, eD] at nc; cases nc), upd_same⟩ .nil)
      revert hgl
      generalize ks.take i = cs
      intro hgl
      clear hN hM eD
      induction hgl with
      | nil => exact .nil
      | cons hh _ ih => exact .cons ⟨hh.1, (Same.fresh nc) _ _ hh.2⟩ ih
    rintro G1 acc s1 eD ⟨gl, rfl, hgl⟩
    rw [List.take_of_length_le (by omega)] at hgl
    have fltn : ∀ cs : List Ask, (cs.map fun k => k.ks.map V.str).flatten = ((cs.map Ask.ks).flatten).map V.str := fun cs => by
      induction cs with
      | nil => rfl
      | cons c cs ih => rw [List.map_cons, List.flatten_cons, ih, List.map_cons, List.flatten_cons, List.map_append]
    have flen : ∀ cs : List Ask, (∀ c ∈ cs, c.ks.length ≤ 2) → ((cs.map Ask.ks).flatten).length ≤ 2 * cs.length := fun cs => by
      induction cs with
      | nil => intro _; simp
      | cons c cs ih =>
        intro h
        have a1 := h c List.mem_cons_self
        have a2 := ih fun z hz => h z (List.mem_cons_of_mem _ hz)
        rw [List.map_cons, List.flatten_cons, List.length_append, List.length_cons]
        omega
    have flen12 := flen ks fun c hc => (hok c hc).1.2
    have hgp : ∀ {G6 : Hp}, Same G1 G6 → Paired (fun (b : Addr) (xs : List V) => G6 b = some (.lst xs)) gl (ks.map fun k => k.ks.map V.str) := fun {G6} s6 => by
      clear flen12 fltn flen eD
      revert hgl
      generalize ks = cs
      intro hgl
      induction hgl with
      | nil => exact .nil
      | cons hh _ ih => exact .cons (s6 _ _ hh.2) ih
    refine ⟨(by show 0 ≤ sizeLine; decide), fun e ne => ?_⟩
    have se := Same.fresh (o := .lst []) ne
    refine ⟨D, e, gl, _, rfl, SqL.of (se _ _ eD), upd_same, hgp se, by rw [fltn, List.length_map, sizeLine_eq]; omega, fun G2 su s2 esu => ?_⟩
    rw [fltn] at esu
    have s02 := sG.trans (s1.trans (se.trans s2))
    refine ⟨su, _, rfl, SqL.of esu, by omega, fun sp cnt nsp hc1 hc2 => ?_⟩
    refine ⟨sp, _, cnt, rfl, upd_same, by omega, fun ev evp evs evn evm evl nevp => ?_⟩
    rw [show (cxOf CX0 P w K mg base NOthersRight "_law_others_right" (defScope sOthersRight) f cdv A outer s H E).nox.w = w from rfl]
    have hev : ∀ y, y ∈ ev ↔ ∃ k ∈ ks, y ∈ k.ks := fun y => by
      rw [evm, decide_eq_true_eq, List.mem_flatten]
      constructor
      · rintro ⟨l', hl', hy⟩
        obtain ⟨k, hk, rfl⟩ := List.mem_map.mp hl'
        exact ⟨k, hk, hy⟩
      · rintro ⟨k, hk, hy⟩
        exact ⟨_, List.mem_map.mpr ⟨k, hk, rfl⟩, hy⟩
    have hk0 : ks[0] ∈ ks := List.getElem_mem (by omega)
    have evne : ev ≠ [] := fun z => by
      obtain ⟨y, hy⟩ := List.exists_mem_of_ne_nil _ (hok1 _ hk0).ne
      have := (hev y).mpr ⟨_, hk0, hy⟩
      rw [z] at this
      cases this
    have evw : ∀ y ∈ ev, IsWord y := fun y hy => by
      obtain ⟨k, hk, h⟩ := (hev y).mp hy
      exact (hok1 k hk).ks y h
    have nevp' : upd G2 sp (SetSO w sp (fun j => decide (j ∈ (ks.map Ask.ks).flatten)) cnt) evp = none := nevp
    have s03 := s02.trans ((Same.fresh nsp).trans (Same.fresh (o := .lst (ev.map V.str)) nevp'))
    have eev : upd (upd G2 sp (SetSO w sp (fun j => decide (j ∈ (ks.map Ask.ks).flatten)) cnt)) evp (.lst (ev.map V.str)) evp = some (.lst (ev.map V.str)) := upd_same
    generalize upd (upd G2 sp (SetSO w sp (fun j => decide (j ∈ (ks.map Ask.ks).flatten)) cnt)) evp (.lst (ev.map V.str)) = G3 at s03 eev
    -- a spare name
    have names : ∀ {G4 : Hp} {D4 : Addr} {σ' : St} {Qd : Hp → Prop} {vs' : List Nat}, Same H G4 → True := fun _ => trivial
    refine ⟨.ref l, rfl, l, rfl, ⟨_, s03.seq hS⟩, fun D4 hD4 => ?_⟩
    refine lc_names (CA := CA) (as := as) (ks := ks) wr hla (by omega) hD4 (hA.same s03) (fun G' s' => (s03.trans s').seq hS) (fun b k G' hAk R hR => ?_) fun G4 s4 eD4 => ?_
    · obtain ⟨db, fb, Ib⟩ := hAk.ins
      exact ⟨rfl, .ref b, rfl, b, db, fb, rfl, Ib, b, k, rfl, hAk, hR G' (Same.refl _)⟩
    refine ⟨D4, _, rfl, SqL.of eD4, by rw [List.length_map]; omega, fun G5 spn s5 wspn nspn => ?_⟩
    have s05 := s03.trans (s4.trans s5)
    have eev5 := (s4.trans s5) _ _ eev
    -- its asker, put in ahead
    refine ⟨.ref l, rfl, made_line (s05.seq hS) (hA.same s05) (by omega) hnd fun G6 x s6 nx LA => ?_⟩
    obtain ⟨dx, tx, hx1, hx2, hx3⟩ := id LA
    refine ⟨x, dx, _, rfl, hx1, rfl, .str spn, rfl, .ref evp, rfl, made_asker (ys := ev) wspn (SqL.of (s6 _ _ eev5)) evw evn evne (by omega) (by decide) fun G7 y us s7 ny Ay pu so => ?_⟩
    obtain rfl := sorted_eq pu so evs
    refine ⟨x, y, as, ks, ⟨spn, us, 1⟩, 0, rfl, LA.same s7, Ay, by omega, hnd, nspn, Nat.zero_le _, fun G8 c s8 LC => ?_⟩
    have ei : ins3 ks 0 0 (⟨spn, us, 1⟩ : Ask) = ⟨spn, us, 1⟩ :: ks := rfl
    have ei2 : ins3 as 0 0 y = y :: as := rfl
    rw [ei, ei2] at LC
    have usub : ∀ z ∈ us, z ∈ U := fun z hz => by
      obtain ⟨k, hk, h⟩ := (hev z).mp hz
      exact (hok k hk).2 z h
    have nd2 : (((⟨spn, us, 1⟩ : Ask) :: ks).map Ask.nm).Nodup := by
      rw [List.map_cons, List.nodup_cons]
      exact ⟨nspn, hnd⟩
    have ok2 : ∀ k ∈ (⟨spn, us, 1⟩ : Ask) :: ks, AskOk k := fun k hk => by
      rcases List.mem_cons.mp hk with rfl | hk
      · exact ⟨wspn, evw, evn, evne, by show us.length < 64; omega, so, by show (1 : Int) ≤ 1; decide⟩
      · exact hok1 k hk
    refine ⟨c, _, _, U, rfl, ⟨LC, nd2, by rw [List.length_cons]; omega, hU, fun k hk => ?_⟩, fun G9 fp ts ps s9 nfp nts npt efp hR hE lps => ?_⟩
    · rcases List.mem_cons.mp hk with rfl | hk
      · exact ⟨evn, usub⟩
      · exact hsub k hk
    rw [List.length_cons] at lps
    have lkc : ∀ i, i < ks.length + 1 → lkA ((⟨spn, us, 1⟩ : Ask) :: ks) 0 i = true := fun i hi => by
      unfold lkA
      rw [fitsA_at (k := ⟨spn, us, 1⟩) rfl]
      cases i with
      | zero =>
        rw [fitsA_at (k := ⟨spn, us, 1⟩) rfl]
        obtain ⟨y, hy⟩ := List.exists_mem_of_ne_nil _ evne
        exact share_of hy hy
      | succ i =>
        have hi' : i < ks.length := by omega
        rw [fitsA_at (k := ks[i]) (by rw [List.getElem?_cons_succ, List.getElem?_eq_getElem hi'])]
        obtain ⟨y, hy⟩ := List.exists_mem_of_ne_nil _ (hok1 _ (List.getElem_mem hi')).ne
        exact share_of ((hev y).mpr ⟨_, List.getElem_mem hi', hy⟩) hy
    have hch : Above (lkA ((⟨spn, us, 1⟩ : Ask) :: ks)) (chainP (ks.length + 1)) := chain_above lkc (lkA_sym _)
    have lch : (chainP (ks.length + 1)).length = ks.length + 1 := by simp [chainP]
    obtain rfl : ps = chainP (ks.length + 1) := hE.above.unique hch (by rw [lps, lch])
    have s09 := s05.trans (s6.trans (s7.trans (s8.trans s9)))
    generalize hks2 : (⟨spn, us, 1⟩ : Ask) :: ks = ks2 at *
    have lk2 : ks2.length = ks.length + 1 := by rw [← hks2]; rfl
    -- all names
    refine ⟨.str spn, rfl, (by show 1 ≤ sizeLine; decide), fun c1 nc1 => ?_⟩
    have sc1 := Same.fresh (o := .lst [V.str spn]) nc1
    have s010 := s09.trans sc1
    have ec1 : upd G9 c1 (.lst [V.str spn]) c1 = some (.lst [V.str spn]) := upd_same
    have efp1 := sc1 _ _ efp
    have hR1 := hR.same sc1
    generalize upd G9 c1 (.lst [V.str spn]) = G10 at s010 ec1 efp1 hR1
    refine ⟨.ref l, rfl, l, rfl, ⟨_, s010.seq hS⟩, fun D5 hD5 => ?_⟩
    refine lc_names (CA := CA) (as := as) (ks := ks) wr hla (by omega) hD5 (hA.same s010) (fun G' s' => (s010.trans s').seq hS) (fun b k G' hAk R hR => ?_) fun G11 s11 eD5 => ?_
    · obtain ⟨db, fb, Ib⟩ := hAk.ins
      exact ⟨rfl, .ref b, rfl, b, db, fb, rfl, Ib, b, k, rfl, hAk, hR G' (Same.refl _)⟩
    refine ⟨c1, D5, _, _, rfl, rfl, s11 _ _ ec1, eD5, by rw [List.length_map, List.length_map, sizeLine_eq]; show 1 + _ ≤ _; omega, fun nl nnl => ?_⟩
    have enl : [V.str spn] ++ (ks.map Ask.nm).map V.str = (ks2.map Ask.nm).map V.str := by
      rw [← hks2]
      rfl
    rw [enl]
    have s12 := s11.trans (Same.fresh (o := .lst ((ks2.map Ask.nm).map V.str)) nnl)
    have s012 := s010.trans s12
    have enl2 : upd G11 nl (.lst ((ks2.map Ask.nm).map V.str)) nl = some (.lst ((ks2.map Ask.nm).map V.str)) := upd_same
    have efp2 := s12 _ _ efp1
    have hR2 := hR1.same s12
    generalize upd G11 nl (.lst ((ks2.map Ask.nm).map V.str)) = G12 at s12 s012 enl2 efp2 hR2
    -- the rows that are due
    have lnl : ((ks2.map Ask.nm).map V.str).length = ks2.length := by simp
    have we : Walk (Ite K nl) ks2.length (fun H => SqL K H nl ((ks2.map Ask.nm).map V.str)) (YPair (fun i => some (.int (i : Nat))) (fun i => ((ks2.map Ask.nm).map V.str)[i]?)) := by
      have := walk_enum (K := K) (a := nl) (xs := (ks2.map Ask.nm).map V.str)
      rw [lnl] at this
      exact this
    have hch2 : chainP (ks.length + 1) = chainP ks2.length := by rw [lk2]
    rw [hch2] at hR2 hE hch lch lps
    refine ⟨.ref fp, rfl, .ref nl, rfl, nl, _, rfl, SqL.of enl2, fun D6 hD6 => ?_⟩
    refine lc_foldY we (fun i acc G' => ∃ tl : List Addr, acc = tl.map V.ref ∧ Paired (fun (t : Addr) (r : Row) => t ≠ D6 ∧ G' t = some (.tup [.str r.1, optV r.2])) tl ((rowsOf ks2 (chainP ks2.length)).take i)) (by rw [sizeLine_eq]; omega) hD6 ⟨[], rfl, .nil⟩ (fun G' s => SqL.of (s _ _ enl2)) ypair_same (fun i acc l' G5 G6 eD kk ⟨tl, e1, e2⟩ => ⟨tl, e1, ?_⟩) ?_ ?_
    · clear e1
      revert e2
      generalize (rowsOf ks2 (chainP ks2.length)).take i = cs
      intro e2
      induction e2 with
      | nil => exact .nil
      | cons hh _ ih => exact .cons ⟨hh.1, kk _ _ hh.1 hh.2⟩ ih
    · rintro i x acc G13 G13' hi s13 eD ⟨Tp, u, v, rfl, nT, rfl, hu, hv⟩ ⟨tl, rfl, htl⟩ N M hN hM
      have eu : u = .int (i : Nat) := (Option.some.inj hu).symm
      subst eu
      have ev2 : v = .str (nmA ks2 i) := by
        change ((ks2.map Ask.nm).map V.str)[i]? = some v at hv
        rw [List.getElem?_map, List.getElem?_map, List.getElem?_eq_getElem hi] at hv
        rw [nmA_at (List.getElem?_eq_getElem hi)]
        exact (Option.some.inj hv).symm
      subst ev2
      have sT := Same.fresh (o := .tup [V.int (i : Nat), V.str (nmA ks2 i)]) nT
      have s0T := s13.trans sT
      refine ⟨Tp, _, rfl, SqT.of upd_same, rfl, _, _, rfl, _, [], rfl, rfl, rfl, ?_⟩
      unfold tYes
      show (if true = true then _ else _)
      rw [if_pos rfl]
      refine ⟨.str (nmA ks2 i), rfl, .ref nl, rfl, .int (i : Nat), rfl, i, 1, rfl, rfl, _, rfl, nl, _, rfl, SqL.of (s0T _ _ enl2), fun c2 nc2 => ?_⟩
      rw [show ((i : Int) + 1) = ((i + 1 : Nat) : Int) by omega, cut_fromS (by rw [List.length_map]; omega)]
      have sa := Same.fresh (o := .lst (((ks2.map Ask.nm).drop (i + 1)).map V.str)) nc2
      refine ⟨(by show 1 ≤ sizeLine; decide), fun c3 nc3 => ?_⟩
      have sb := Same.fresh (o := .lst [V.non]) nc3
      refine ⟨c2, c3, _, _, rfl, rfl, sb _ _ upd_same, upd_same, by rw [List.length_map, List.length_drop, List.length_map, sizeLine_eq]; show _ + 1 ≤ _; omega, fun c4 nc4 => ?_⟩
      have sc := Same.fresh (o := .lst (((ks2.map Ask.nm).drop (i + 1)).map V.str ++ [V.non])) nc4
      refine ⟨c4, _, 0, optV (parO ks2 (chainP ks2.length) i), rfl, rfl, SqL.of upd_same, atI_nat (j := 0) (chain_row hi), (by show 2 ≤ sizeLine; decide), fun t nt => ?_⟩
      have sd := Same.fresh (o := .tup [V.str (nmA ks2 i), optV (parO ks2 (chainP ks2.length) i)]) nt
      have sall := sa.trans (sb.trans (sc.trans sd))
      have hir : i < (chainP ks2.length).length := by rw [lps, ← lk2]; exact hi
      refine hN _ _ sall ⟨tl ++ [t], by rw [List.map_append]; rfl, ?_⟩
      rw [List.take_add_one, rowsOf_at hir]
      refine paired_app ?_ (.cons ⟨fun z => (by rw [z, (sa.trans (sb.trans sc)) _ _ (sT _ _ eD)] at nt; cases nt), upd_same⟩ .nil)
      revert htl
      generalize (rowsOf ks2 (chainP ks2.length)).take i = cs
      intro htl
      clear hN hM eD
      induction htl with
      | nil => exact .nil
      | cons hh _ ih => exact .cons ⟨hh.1, (sT.trans sall) _ _ hh.2⟩ ih
    rintro G13 acc s13 eD6 ⟨tl, rfl, htl⟩
    rw [List.take_of_length_le (by rw [rowsOf_length, lps, ← lk2]; exact Nat.le_refl _)] at htl
    have rok2 := rowsOk ok2 (by rw [lps, lk2]) hch.lt
    refine ⟨_, _, dp_rows (SqL.of (s13 _ _ efp2)) (hR2.same s13).rows, dp_rows (SqL.of eD6) (rowsAt_of htl), shaped_rows rok2, shaped_rows rok2, _, rfl, ?_⟩
    rw [eqv_same (shaped_rows rok2)]
    refine iteF ?_
    have s013 := s012.trans s13
    have hp13 := hp.same s013
    have hA13 := hA.same s013
    -- other mosts, fits told the other way about
    refine ⟨.ref l, rfl, l, rfl, ⟨_, s013.seq hS⟩, fun D7 hD7 => ?_⟩
    have nDp : D7 ≠ p := Kp.ne hp13 hD7
    refine lc_foldP p wr (fun i acc G' => ∃ (bs : List Addr) (cs : List Ask), acc = bs.map V.ref ∧ Asks CA G' bs cs ∧ cs.map Ask.nm = (ks.take i).map Ask.nm ∧ cs.map Ask.ks = (ks.take i).map Ask.ks ∧ PurseAt G' p (n + 40 * i)) (by rw [sizeLine_eq]; omega) hD7 nDp ⟨[], [], rfl, .nil, rfl, rfl, (hp13.fresh hD7).mono (by omega)⟩ (fun G' s => Kp.sql s hlp (s013.seq hS)) yat_same (fun i acc l' G5 G6 eD kk ⟨bs, cs, e1, e2, e3, e4, e5⟩ => ⟨bs, cs, e1, ?_, e3, e4, ?_⟩) ?_ ?_
    · clear e1 e3 e4
      induction e2 with
      | nil => exact .nil
      | cons A _ ih => exact .cons (A.off eD kk) ih
    · obtain ⟨o, eo⟩ := e5.some
      exact e5.of_eq ((kk p o (Ne.symm nDp) eo).trans eo.symm)
    · rintro i x acc G14 G14' hi s14 eD ⟨rfl, hx⟩ ⟨bs, cs, rfl, hB, en, ek, pi⟩ N M hN hM
      obtain ⟨b, hb, rfl⟩ := ref_at hx
      obtain ⟨k, hk, Ak⟩ := (Kp.asks' hp13 s14 hA13).get hb
      obtain ⟨db, fb, Ib⟩ := Ak.ins
      have okk := hok1 k (List.mem_of_getElem? hk)
      refine ⟨rfl, ?_⟩
      unfold tYes
      show (if true = true then _ else _)
      rw [if_pos rfl]
      refine ⟨.ref b, rfl, b, db, fb, rfl, Ib, b, k, rfl, Ak, .ref b, rfl, b, db, fb, rfl, Ib, b, k, rfl, Ak, fun c2 nc2 => ⟨c2, _, rfl, SqL.of upd_same, fun c3 nc3 => ?_⟩⟩
      have sa := Same.fresh (o := .lst (k.ks.map V.str)) nc2
      have sb := sa.trans (Same.fresh (o := .lst (k.ks.map V.str).reverse) nc3)
      have pi2 := pi.same sb
      have nc3p : c3 ≠ p := Kp.ne (pi.same sa) nc3
      refine ⟨.ref p, rfl, 10, 20, rfl, rfl, ⟨by decide, by decide, by decide⟩, p, _, _, rfl, pi2, by omega, by decide, by decide +kernel, fun G15 r b15 p15 r0 r1 => ⟨1, r, rfl, rfl, ?_⟩⟩
      have ec3 : G15 c3 = some (.lst (k.ks.reverse.map V.str)) := by
        rw [b15 c3 nc3p, upd_same, List.map_reverse]
      refine made_asker (ys := k.ks.reverse) okk.nm (SqL.of ec3) (fun z hz => okk.ks z (List.mem_reverse.mp hz)) ((List.reverse_perm _).nodup_iff.mpr okk.nd) (fun z => okk.ne (List.reverse_eq_nil_iff.mp z)) (by rw [List.length_reverse]; exact okk.lt) (by omega) fun G16 x2 us2 s16 nx2 A2 pu2 so2 => ?_
      obtain rfl : us2 = k.ks := sorted_eq (pu2.trans (List.reverse_perm _)) so2 okk.so
      have kk : Kp p G14' G16 := (Kp.same sb).trans ((Kp.of_but b15).trans (Kp.same s16))
      refine hN _ G16 kk ⟨bs ++ [x2], cs ++ [⟨k.nm, k.ks, 1 + r⟩], by rw [List.map_append]; rfl, (Kp.asks' pi kk hB).snoc A2, ?_, ?_, (p15.same s16).mono (by omega)⟩
      · rw [List.map_append, en, List.take_add_one, hk, List.map_append]
        rfl
      · rw [List.map_append, ek, List.take_add_one, hk, List.map_append]
        rfl
    rintro G14 acc s14 eD7 ⟨bs, cs, rfl, hB, en, ek, pi⟩
    rw [List.take_of_length_le (by omega)] at en ek
    have lcs : cs.length = ks.length := by
      have := congrArg List.length en
      simpa using this
    have nd3 : (cs.map Ask.nm).Nodup := by rw [en]; exact hnd
    have sub3 : ∀ k ∈ cs, k.ks.Nodup ∧ ∀ x ∈ k.ks, x ∈ U := fun k hk => by
      have h1 : k.ks ∈ cs.map Ask.ks := List.mem_map.mpr ⟨k, hk, rfl⟩
      rw [ek] at h1
      obtain ⟨k', hk', e⟩ := List.mem_map.mp h1
      rw [← e]
      exact hsub k' hk'
    have hA14 : Asks CA G14 as ks := Kp.asks' hp13 s14 hA13
    have hS14 : SqL K G14 l (as.map V.ref) := Kp.sql s14 hlp (s013.seq hS)
    refine ⟨.ref D7, rfl, made_line (SqL.of eD7) hB (by omega) nd3 fun G15 y1 s15 ny1 LB => ?_⟩
    refine ⟨y1, bs, cs, U, rfl, ⟨LB, nd3, by omega, hU, sub3⟩, fun G16 f1 t1 q1 s16 nf1 _ _ ef1 hR16 hE1 lq1 => ?_⟩
    have s1416 := s15.trans s16
    refine ⟨.ref l, rfl, made_line (s1416.seq hS14) (hA14.same s1416) (by omega) hnd fun G17 y2 s17 ny2 LC2 => ?_⟩
    refine ⟨y2, as, ks, U, rfl, ⟨LC2, hnd, by omega, hU, hsub⟩, fun G18 f2 t2 q2 s18 nf2 _ _ ef2 hR18 hE2 lq2 => ?_⟩
    have lke : lkA cs = lkA ks := lkA_congr ek
    rw [lke] at hE1
    obtain rfl : q1 = q2 := hE1.above.unique hE2.above (by rw [lq1, lq2, lcs])
    have rok3 := rowsOk hok1 lq2 hE2.above.lt
    have s1718 := s17.trans s18
    have r16 := (hR16.same s1718).rows
    rw [rowsOf_congr en] at r16
    refine ⟨_, _, dp_rows (SqL.of (s1718 _ _ ef1)) r16, dp_rows (SqL.of ef2) hR18.rows, shaped_rows rok3, shaped_rows rok3, ?_⟩
    rw [eqv_same (shaped_rows rok3)]
    have sE := s1416.trans s1718
    exact q G18 ((Kp.same s013).trans (s14.trans (Kp.same sE))) ((pi.same sE).mono (by omega))
end
end Eld
end L2

set_option Elab.async false
set_option linter.all false
set_option maxRecDepth 100000
set_option maxHeartbeats 4000000
/-! ## the law -/
namespace L2
namespace Eld
open PySem PySem.Spec PyProof.Rows PySem.EldX
def spLaw (K : PySem.W.Frag) : Sp := fun vs H Q _ => ∃ (a : Addr) (ns : List Int), vs = [.ref a] ∧ SqL K H a (ns.map V.int) ∧ ns.length ≤ 63 ∧ ∀ H' : Hp, Q (.bl true) H'
theorem purse_kp {p q : Addr} {H H' : Hp} {n : Nat} (h : PurseAt H q n) (k : Kp p H H') (ne : q ≠ p) : PurseAt H' q n := by
  obtain ⟨o, e⟩ := h.some
  exact h.of_eq ((k q o ne e).trans e.symm)
theorem Kp.line {CL' CA' p a : Addr} {H H' : Hp} {as : List Addr} {ks : List Ask} {n : Nat} (s : Kp p H H') (hp : PurseAt H p n) (h : LineAt CL' CA' H a as ks) : LineAt CL' CA' H' a as ks := by
  obtain ⟨dx, t, h1, h2, h3⟩ := h
  obtain ⟨xs, e⟩ := purse_lst hp
  refine ⟨dx, t, s _ _ (fun z => ?_) h1, s _ _ (fun z => ?_) h2, s.asks hp h3⟩
  · rw [z, e] at h1
    cases h1
  · rw [z, e] at h2
    cases h2
/-- the next one's name -/
def rnx (ks : List Ask) (i : Nat) : Str := nmA ks (if i + 1 < ks.length then i + 1 else 0)
theorem turn_list {ks : List Ask} (h : 1 ≤ ks.length) : (ks.map Ask.nm).drop 1 ++ (ks.map Ask.nm).take 1 = (List.range ks.length).map (rnx ks) := by
  refine List.ext_getElem? fun i => ?_
  have l1 : ((ks.map Ask.nm).drop 1).length = ks.length - 1 := by simp
  have nm : ∀ j, j < ks.length → (ks.map Ask.nm)[j]? = some (nmA ks j) := fun j hj => by
    rw [List.getElem?_map, List.getElem?_eq_getElem hj, nmA_at (List.getElem?_eq_getElem hj)]
    rfl
  rcases Nat.lt_or_ge i ks.length with lt | ge
  · rw [List.getElem?_map, List.getElem?_range lt]
    show _ = some (rnx ks i)
    unfold rnx
    by_cases c : i + 1 < ks.length
    · rw [if_pos c, List.getElem?_append_left (by omega), List.getElem?_drop, Nat.add_comm 1 i, nm _ c]
    · rw [if_neg c, List.getElem?_append_right (by omega), l1, show i - (ks.length - 1) = 0 by omega, List.getElem?_take_of_lt (by decide), nm 0 (by omega)]
  · rw [List.getElem?_eq_none (by rw [List.length_append, l1, List.length_take, List.length_map]; omega), List.getElem?_eq_none (by simpa using ge)]
theorem turn_perm {ks : List Ask} (h : 1 ≤ ks.length) : ((List.range ks.length).map (rnx ks)).Perm (ks.map Ask.nm) := by
  rw [← turn_list h]
  refine List.perm_append_comm.trans ?_
  rw [List.take_append_drop]
theorem ren_ks (rn : Nat → Str) (ks : List Ask) : (ren rn ks).map Ask.ks = ks.map Ask.ks := by
  refine List.ext_getElem? fun i => ?_
  rcases Nat.lt_or_ge i ks.length with lt | ge
  · rw [List.getElem?_map, ren_at (List.getElem?_eq_getElem lt), List.getElem?_map, List.getElem?_eq_getElem lt]
    rfl
  · rw [List.getElem?_eq_none (by simpa [ren] using ge), List.getElem?_eq_none (by simpa using ge)]
theorem ren_nmA {rn : Nat → Str} {ks : List Ask} {i : Nat} (h : i < ks.length) : nmA (ren rn ks) i = rn i := nmA_at (ren_at (List.getElem?_eq_getElem h))
theorem keyed_zip {f : Nat → Str} {g : Nat → V} (n : Nat) : (((List.range n).map fun i => (Sum.inr (f i) : Key)).zip ((List.range n).map g)) = keyed f g n := by
  unfold keyed
  induction n with
  | zero => rfl
  | succ n ih =>
    rw [List.range_succ, List.map_append, List.map_append, List.map_append, List.zip_append (by simp), ih]
    rfl
section
variable {P : Program} {w : World} {K : PySem.W.Frag} {mg : Str → Option Value} {base : Heap} {fM fD fO fS fW fWi fPi : Addr} {dM dD dO dS dW dWi dPi : FuncData} {CA fI pN gN pF gF pM gM fE CL fLI fLE fLL fLA fLN fLK fLR fLP : Addr}
/-- the defs, where they stand -/
structure Defs (K : PySem.W.Frag) (mg : Str → Option Value) (fPurse fPurses fNames fKinds fFew fLineRight fOthersRight fAreAskers fRecalled fNeedExchange fIsExchange : Addr) (dPurse dPurses dNames dKinds dFew dLineRight dOthersRight dAreAskers dRecalled dNeedExchange dIsExchange : FuncData) : Prop where
  Purse : Fun K "_law_purse" "_law_purse" sPurse fPurse dPurse
  Purses : Fun K "_law_purses" "_law_purses" sPurses fPurses dPurses
  Names : Fun K "_law_names" "_law_names" sNames fNames dNames
  Kinds : Fun K "_law_kinds" "_law_kinds" sKinds fKinds dKinds
  Few : Fun K "_law_few" "_law_few" sFew fFew dFew
  LineRight : Fun K "_law_line_right" "_law_line_right" sLineRight fLineRight dLineRight
  OthersRight : Fun K "_law_others_right" "_law_others_right" sOthersRight fOthersRight dOthersRight
  AreAskers : Fun K "_are_askers" "_are_askers" sAreAskers fAreAskers dAreAskers
  Recalled : Fun K "recalled" "recalled" sRecalled fRecalled dRecalled
  NeedExchange : Fun K "_need_exchange" "_need_exchange" sNeedExchange fNeedExchange dNeedExchange
  IsExchange : Fun K "is_exchange" "is_exchange" sIsExchange fIsExchange dIsExchange
  gPurse : mg "_law_purse" = some (.ref fPurse)
  gPurses : mg "_law_purses" = some (.ref fPurses)
  gNames : mg "_law_names" = some (.ref fNames)
  gKinds : mg "_law_kinds" = some (.ref fKinds)
  gFew : mg "_law_few" = some (.ref fFew)
  gLineRight : mg "_law_line_right" = some (.ref fLineRight)
  gOthersRight : mg "_law_others_right" = some (.ref fOthersRight)
  gAreAskers : mg "_are_askers" = some (.ref fAreAskers)
  gRecalled : mg "recalled" = some (.ref fRecalled)
  gNeedExchange : mg "_need_exchange" = some (.ref fNeedExchange)
  gIsExchange : mg "is_exchange" = some (.ref fIsExchange)
theorem ok_law {f f1 f2 f3 f4 fNA fCt fPurse fPurses fNames fKinds fFew fLineRight fOthersRight fAreAskers fRecalled fNeedExchange fIsExchange fNeedLine fShare fParents fGroups fFore fGroup fParent fForest fTouched fLLinked fIsNear fGrown fAbove fUps fSpareName : Addr} {fd d1 d2 d3 d4 dNA dCt dPurse dPurses dNames dKinds dFew dLineRight dOthersRight dAreAskers dRecalled dNeedExchange dIsExchange dNeedLine dShare dParents dGroups dFore dGroup dParent dForest dTouched dLLinked dIsNear dGrown dAbove dUps dSpareName dAN dAF dAM dAE dAI dLI dLE dLA dLN dLP : FuncData}
    (F : Fun K "law" "law" sLaw f fd) (L : Drw K mg fM fD fO fS fW dM dD dO dS dW) (C1 : Chk K mg f1 f2 d1 d2) (C2 : Chk2 K mg f3 f4 d3 d4) (C3 : Chk3 K mg fNA fCt dNA dCt) (B : Blt mg) (B2 : Blt2 mg)
    (O : Ord2 K mg fNeedLine fShare fParents fGroups fFore fGroup fParent fForest fTouched dNeedLine dShare dParents dGroups dFore dGroup dParent dForest dTouched) (W : Own2 K mg fLLinked fIsNear fGrown fAbove fUps fSpareName dLLinked dIsNear dGrown dAbove dUps dSpareName)
    (D : Defs K mg fPurse fPurses fNames fKinds fFew fLineRight fOthersRight fAreAskers fRecalled fNeedExchange fIsExchange dPurse dPurses dNames dKinds dFew dLineRight dOthersRight dAreAskers dRecalled dNeedExchange dIsExchange)
    (TA : ACls K CA fI pN gN pF gF pM gM fE) (gA : mg "Asker" = some (.ref CA)) (FAN : Fun K "name" "Asker.name" sAName gN dAN) (FAF : Fun K "fits" "Asker.fits" sAFits gF dAF) (FAE : Fun K "__eq__" "Asker.__eq__" sAEq fE dAE) (T : LCls K CL fLI fLE fLL fLA fLN fLK fLR fLP) (gL : mg "Line" = some (.ref CL)) (FLE : Fun K "__eq__" "Line.__eq__" sLEq fLE dLE) (FLN : Fun K "names" "Line.names" sLNames fLN dLN) (FLP : Fun K "place" "Line.place" sLPlace fLP dLP) (FLA : Fun K "askers" "Line.askers" sLAskers fLA dLA) (ne : CL ≠ CA) (FAI : Fun K "__init__" "Asker.__init__" sAInit fI dAI) (FAM : Fun K "most" "Asker.most" sAMost gM dAM) (FLI : Fun K "__init__" "Line.__init__" sLInit fLI dLI)
    (T2 : LClsB K CL fWi fPi) (FWi : Fun K "without" "Line.without" sLWithout fWi dWi) (FPi : Fun K "put_in" "Line.put_in" sLPutIn fPi dPi) :
    FnG P w K mg base CX0 8 f fd ["_law_script"] (spLaw K) := by
  have GDraw : FnOk P w K mg base CX0 2 fD dD ["_law_purse_here", "_law_many"] spDraw := L.okDraw B
  have GAInit : FnOk P w K mg base CX0 3 fI dAI ["self", "name", "fits", "most"] (spAInit K CA) := ok_ainit FAI C1 C2 B TA
  have bAInit : Binds K dAI ["self", "name", "fits", "most"] [] := FAI.binds fun _ _ _ _ _ _ us hl => match us, hl with | [_, _, _, _], _ => rfl
  have GAName : FnOk P w K mg base CX0 1 gN dAN ["self"] (spAName CA) := ok_aname FAN TA
  have bAName : Binds K dAN ["self"] [] := FAN.binds fun _ _ _ _ _ _ us hl => match us, hl with | [_], _ => rfl
  have GLInit : FnOk P w K mg base CX0 4 fLI dLI ["self", "askers"] (spLInit K CL CA) := ok_linit FLI D.AreAskers D.gAreAskers C1 B TA gA FAN T ne
  have bLInit : Binds K dLI ["self", "askers"] [] := FLI.binds fun _ _ _ _ _ _ us hl => match us, hl with | [_, _], _ => rfl
  have GPurses : FnOk P w K mg base CX0 2 fPurses dPurses ["_law_script", "_law_few_here"] (spPurses K) := ok_purses D.Purses D.Purse D.gPurse B.range B.max B.min B.len B.sum
  have bPurses : Binds K dPurses ["_law_script", "_law_few_here"] [] := D.Purses.binds fun _ _ _ _ _ _ us hl => match us, hl with | [_, _], _ => rfl
  have GKinds : FnOk P w K mg base CX0 4 fKinds dKinds ["_law_purse_here", "_law_many"] spPick := ok_lawKinds D.Kinds L B
  have bKinds : Binds K dKinds ["_law_purse_here", "_law_many"] [] := D.Kinds.binds fun _ _ _ _ _ _ us hl => match us, hl with | [_, _], _ => rfl
  have GFew : FnOk P w K mg base CX0 5 fFew dFew ["_law_purse_here", "_law_many", "_law_kinds_here"] (spFew K CA) := ok_few D.Few L B D.Names D.gNames TA gA GAInit bAInit
  have bFew : Binds K dFew ["_law_purse_here", "_law_many", "_law_kinds_here"] [] := D.Few.binds fun _ _ _ _ _ _ us hl => match us, hl with | [_, _, _], _ => rfl
  have GLineRight : FnG P w K mg base CX0 7 fLineRight dLineRight ["_law_line", "_law_askers"] (spLineRight K CL CA) := ok_lineRight D.LineRight B B2 O W TA gA FAN FAF FAE T gL FLE FLN FLP FLA GLInit bLInit
  have bLineRight : Binds K dLineRight ["_law_line", "_law_askers"] [] := D.LineRight.binds fun _ _ _ _ _ _ us hl => match us, hl with | [_, _], _ => rfl
  have GOthersRight : FnOk P w K mg base CX0 7 fOthersRight dOthersRight ["_law_purse_here", "_law_askers"] (spOthersRight K CL CA) := ok_othersRight D.OthersRight B B2 O W L C2 C3 TA gA FAN FAF FAE T gL FLE FLN FLP FLA GLInit bLInit GAInit bAInit T2 FWi FPi
  have bOthersRight : Binds K dOthersRight ["_law_purse_here", "_law_askers"] [] := D.OthersRight.binds fun _ _ _ _ _ _ us hl => match us, hl with | [_, _], _ => rfl
  have GForest : FnOk P w K mg base CX0 5 fForest dForest ["line"] (spForest CL CA) := ok_forest O.Forest B B2 O.NeedLine O.gNeedLine O.Parents O.gParents O.Share O.gShare TA FAN FAF T gL FLN FLP FLA
  have bForest : Binds K dForest ["line"] [] := O.Forest.binds fun _ _ _ _ _ _ us hl => match us, hl with | [_], _ => rfl
  have GRecalled : FnOk P w K mg base CX0 6 fRecalled dRecalled ["line", "names"] (spRecalled CL CA) := ok_recalled D.Recalled O.NeedLine O.gNeedLine D.NeedExchange D.gNeedExchange D.IsExchange D.gIsExchange C1 B B2 TA gA FAN FAF FAM T gL FLA GAInit bAInit GLInit bLInit
  have bRecalled : Binds K dRecalled ["line", "names"] [] := D.Recalled.binds fun _ _ _ _ _ _ us hl => match us, hl with | [_, _], _ => rfl
  refine FunG F scLaw (fun vs H Q E h => ?_) (fun cdv A outer s H vs Q E hG hr h => ?_)
  · obtain ⟨a, ns, rfl, _⟩ := h
    rfl
  · obtain ⟨a, ns, rfl, hS, h63, q⟩ := h
    refine ⟨_, (pss_cons (ps_for PassesOwn.never rfl (pi_list (pe_call GPurses (hr.mono (by decide)) (by rfl) D.gPurses D.Purses.kp bPurses .nil pass0 (pa_cons (pv 0) (pa_cons pe_int pa_nil)))) (pg_name (i := 1) scLaw.nd rfl (.inl rfl))
        (pss_cons (ps_set (i := 2) scLaw.nd rfl (.inl rfl) (pe_call GFew (hr.mono (by decide)) (by rfl) D.gFew D.Few.kp bFew .nil pass0 (pa_cons (pv 1) (pa_cons (pe_op op_add pe_int (pe_call GDraw (hr.mono (by decide)) (by rfl) L.gDraw L.Draw.kp L.bDraw .nil pass0 (pa_cons (pv 1) (pa_cons pe_int pa_nil)))) (pa_cons (pe_call GKinds (hr.mono (by decide)) (by rfl) D.gKinds D.Kinds.kp bKinds .nil pass0 (pa_cons (pv 1) (pa_cons (pe_op op_add pe_int (pe_call GDraw (hr.mono (by decide)) (by rfl) L.gDraw L.Draw.kp L.bDraw .nil pass0 (pa_cons (pv 1) (pa_cons pe_int pa_nil)))) pa_nil))) pa_nil)))))
      (pss_cons (ps_par (i := 3) (j := 4) rfl scLaw.nd rfl rfl (by decide) rfl rfl (pa_cons (pe_make T.make GLInit (hr.mono (by decide)) (by rfl) gL bLInit .nil pass0 (pa_cons (pv 2) pa_nil)) (pa_cons (pe_lc (own := [("_law_asker", 9)]) (g := gName 9) (tt := tYes) rfl scLaw.nd (pi_list (pv 2)) (blkOk_by (own := [("_law_asker", 9)]) (N := NLaw) (sc := defScope sLaw) (by decide +kernel)) (fun _ _ _ _ _ => pg_name (i := 9) scLaw.nd rfl (.inl rfl)) (fun _ _ _ _ _ => pts_nil) (fun _ _ _ _ _ => (pe_prop (pv 9) TA.ins.cl TA.pN GAName (hr.mono (by decide)) bAName .nil pass0 rfl))) pa_nil)) rfl)
      (pss_cons (ps_if (PW.pt (pw_or (pt_not (pt_val (pe_callG GLineRight hG (hr.mono (by decide)) D.gLineRight D.LineRight.kp bLineRight .nil pass0 (pa_cons (pv 3) (pa_cons (pv 2) pa_nil))))) (pw_or1 (pt_not (pt_val (pe_call GOthersRight (hr.mono (by decide)) (by rfl) D.gOthersRight D.OthersRight.kp bOthersRight .nil pass0 (pa_cons (pv 1) (pa_cons (pv 2) pa_nil)))))))) (pss_one (ps_ret pe_bl)) pss_nil)
      (pss_cons (ps_for PassesOwn.never rfl (pi_list (pe_call GForest (hr.mono (by decide)) (by rfl) O.gForest O.Forest.kp bForest .nil pass0 (pa_cons (pv 3) pa_nil))) (pg_name (i := 5) scLaw.nd rfl (.inl rfl))
        (pss_one (ps_if (pt_cmpR op_notIn_seq (pe_ix ix_tup (pv 5) pe_int (fun _ _ => rfl)) (pv 4) (by rfl)) (pss_one (ps_ret pe_bl)) pss_nil)))
      (pss_cons (ps_set (i := 6) scLaw.nd rfl (.inl rfl) (pe_call GForest (hr.mono (by decide)) (by rfl) O.gForest O.Forest.kp bForest .nil pass0 (pa_cons (pv 3) pa_nil)))
      (pss_cons (ps_expr (pe_bm PySem.F.plainAttrs_list PySem.F.slot_list_append PySem.F.type_list_append mt_append (pv 6) (pa_cons pe_str pa_nil)))
      (pss_cons (ps_set (i := 7) scLaw.nd rfl (.inr rfl) (pe_dictZip rfl (by rfl) B2.dict (by decide +kernel) (by rfl) B2.zip (pa_cons (pv 4) (pa_cons (pe_op op_cat (pe_slice sl_list (pv 4) (po_some pe_int) po_none) (pe_slice sl_list (pv 4) po_none (po_some pe_int))) pa_nil))))
      (pss_cons (ps_setLc (i := 8) (own := [("_law_name", 10), ("_law_above_here", 11)]) (g := gTup K 2 (gCons (gName 10) (gCons (gName 11) (gNil)))) (tt := tYes) rfl scLaw.nd rfl rfl (sw_true rfl rfl rfl (by decide +kernel)) (pi_list (pe_call GForest (hr.mono (by decide)) (by rfl) O.gForest O.Forest.kp bForest .nil pass0 (pa_cons (pv 3) pa_nil))) (blkOk_by (own := [("_law_name", 10), ("_law_above_here", 11)]) (N := NLaw) (sc := defScope sLaw) (by decide +kernel)) (fun _ _ _ _ _ => (pg_tup rfl (pgs_cons (pg_name (i := 10) scLaw.nd rfl (.inl rfl)) (pgs_cons (pg_name (i := 11) scLaw.nd rfl (.inl rfl)) pgs_nil)))) (fun _ _ _ _ _ => pts_nil) (fun _ _ _ _ _ => (pe_tup (pa_cons (pe_dget (hu_of hr) (pv 7) (pv 10) (fun _ _ => rfl)) (pa_cons (pe_dgetN (hu_of hr) (pv 7) (pv 11) pe_non (by constructor <;> rfl)) pa_nil)))))
      (pss_one (ps_if (PW.pt (pw_or (pt_cmpR (op_neD hr.units) (pe_call GForest (hr.mono (by decide)) (by rfl) O.gForest O.Forest.kp bForest .nil pass0 (pa_cons (pe_call GRecalled (hr.mono (by decide)) (by rfl) D.gRecalled D.Recalled.kp bRecalled .nil pass0 (pa_cons (pv 3) (pa_cons (pv 7) pa_nil))) pa_nil)) (pv 8) (nomark _)) (pw_or1 (pt_cmpR (op_neD hr.units) (pe_call GForest (hr.mono (by decide)) (by rfl) O.gForest O.Forest.kp bForest .nil pass0 (pa_cons (pv 3) pa_nil)) (pe_slice sl_list (pv 6) po_none (po_some (pe_un un_neg pe_int))) (nomark _))))) (pss_one (ps_ret pe_bl)) pss_nil)))))))))))
      (pss_one (ps_ret pe_bl))), ?_⟩
    refine ⟨.ref a, rfl, a, ns, 2, rfl, hS, h63, ⟨by decide, by decide⟩, fun H1 pl ps s1 npl epl hps pnd pl63 => ⟨pl, rfl, ⟨_, SqL.of epl⟩, ?_⟩⟩
    refine for_list (K := K) (a := pl) (xs := ps.map V.ref) (fun i σ H' => ∃ (v1 v2 v3 v4 v5 v6 v7 v8 v9 v10 v11 : Option V), σ = [some (.ref a), v1, v2, v3, v4, v5, v6, v7, v8, v9, v10, v11] ∧ H' pl = some (.lst (ps.map V.ref)) ∧ ∀ (j : Nat) x, i ≤ j → ps[j]? = some x → PurseAt H' x 0)
      ⟨_, _, _, _, _, _, _, _, _, _, _, rfl, epl, fun j x _ hx => (hps x (List.mem_of_getElem? hx)).2.2⟩ (fun i σ H' _ ⟨_, _, _, _, _, _, _, _, _, _, _, _, e, _⟩ => SqL.of e) ?_ ?_
    · rintro i v σ G0 hi ⟨v1, v2, v3, v4, v5, v6, v7, v8, v9, v10, v11, rfl, e0, pu⟩
      obtain ⟨p, hp, rfl⟩ := ref_at hi
      have hP := pu i p (Nat.le_refl _) hp
      have npp : pl ≠ p := fun z => (hps p (List.mem_of_getElem? hp)).2.1 z.symm
      refine ⟨.ref p, rfl, .ref p, rfl, p, 6, 0, rfl, hP, by omega, by decide, by decide +kernel, fun G1 r b1 p1 r0 r1 => ⟨1, r, rfl, rfl, ?_⟩⟩
      refine ⟨.ref p, rfl, .ref p, rfl, p, 4, _, rfl, p1, by omega, by decide, by decide +kernel, fun G2 r2 b2 p2 r20 r21 => ⟨2, r2, rfl, rfl, ?_⟩⟩
      refine ⟨p, _, _, rfl, p2, by omega, by omega, fun G3 kl ys k3 p3 nk ek yw ynd y1 y9 _ _ => ?_⟩
      have nkp : kl ≠ p := Kp.ne p2 nk
      refine ⟨p, kl, ys, _, _, rfl, p3, by omega, by omega, SqL.of ek, nkp, yw, ynd, y1, by omega, fun G4 al as cs k4 p4 na ea hA cnd c1 cm cok => ?_⟩
      have c6 : cs.length ≤ 6 := by omega
      have k04 : Kp p G0 G4 := (Kp.of_but b1).trans ((Kp.of_but b2).trans (k3.trans k4))
      have hla := hA.len
      have nal : al ≠ p := Kp.ne p3 na
      have cok1 : ∀ k ∈ cs, AskOk k := fun k hk => (cok k hk).1.1
      have csub : ∀ k ∈ cs, k.ks.Nodup ∧ ∀ x ∈ k.ks, x ∈ ys := fun k hk => ⟨(cok1 k hk).nd, (cok k hk).2⟩
      have inj := nmA_inj cnd
      have wr : Walk (Itl K al) as.length (fun H => SqL K H al (as.map V.ref)) (YAt (as.map V.ref)) := walk_refs
      refine ⟨.ref al, rfl, made_line (SqL.of ea) hA (by omega) cnd fun G6 x s6 nx LA => ?_⟩
      have ea6 := s6 _ _ ea
      refine ⟨.ref al, rfl, al, rfl, ⟨_, SqL.of ea6⟩, fun D hD => ?_⟩
      refine lc_names (CA := CA) (as := as) (ks := cs) wr hla (by omega) hD (hA.same s6) (fun G sG => SqL.of (sG _ _ ea6)) (fun b k G hAk R hR => ?_) fun G7 s7 eD => ?_
      · obtain ⟨db, fb, Ib⟩ := hAk.ins
        exact ⟨rfl, .ref b, rfl, b, db, fb, rfl, Ib, b, k, rfl, hAk, hR G (Same.refl _)⟩
      have s47 := s6.trans s7
      have LA7 := LA.same s7
      have ea7 := s47 _ _ ea
      have p7 := p4.same s47
      have nDp : D ≠ p := Kp.ne (p4.same s6) hD
      have LGof : ∀ {G : Hp}, LineAt CL CA G x as cs → LG CL CA G x as cs ys := fun {G} h => ⟨h, cnd, by omega, by omega, csub⟩
      refine ⟨_, _, rfl, ?_⟩
      -- the line looked at
      refine ⟨.ref x, rfl, .ref al, rfl, x, al, as, cs, ys, rfl, LGof LA7, SqL.of ea7, cok1, by omega, fun G8 s8 => ⟨true, rfl, iteF ?_⟩⟩
      have s48 := s47.trans s8
      have p8 := p7.same s8
      refine ⟨.ref p, rfl, .ref al, rfl, p, al, as, cs, ys, _, rfl, p8, by omega, nal, SqL.of (s48 _ _ ea), hA.same s48, cnd, c1, c6, cok, by omega, fun G9 k9 p9 => ⟨true, rfl, iteF ?_⟩⟩
      have LA9 : LineAt CL CA G9 x as cs := Kp.line k9 p8 (LA7.same s8)
      have eD9 : G9 D = some (.lst ((cs.map Ask.nm).map V.str)) := k9 _ _ nDp (s8 _ _ eD)
      have k09 : Kp p G0 G9 := k04.trans ((Kp.same s48).trans k9)
      -- the rows' names
      refine ⟨.ref x, rfl, x, as, cs, ys, rfl, LGof LA9, fun G10 fp ts qs s10 nfp _ _ efp hR hE lq => ⟨fp, rfl, ⟨_, SqL.of efp⟩, ?_⟩⟩
      have eD10 := s10 _ _ eD9
      have LA10 := LA9.same s10
      refine for_list (K := K) (a := fp) (xs := ts.map V.ref) (fun t σ G => ∃ (v5 : Option V), σ = [some (.ref a), some (.ref p), some (.ref al), some (.ref x), some (.ref D), v5, v6, v7, v8, v9, v10, v11] ∧ Same G10 G) ⟨_, rfl, Same.refl _⟩ (fun t σ G _ ⟨_, _, sG⟩ => SqL.of (sG _ _ efp)) ?_ ?_
      · rintro m z σ G hz ⟨v5, rfl, sG⟩
        obtain ⟨t, ht, rfl⟩ := ref_at hz
        have hm : m < cs.length := by
          have := (List.getElem?_eq_some_iff.mp ht).1
          have := hR.len
          omega
        have et := (hR.same sG).at_ m t ht
        refine ⟨.ref t, rfl, t, _, 0, .str (nmA cs m), rfl, rfl, SqT.of et, atI_nat (j := 0) rfl, .ref D, rfl, D, _, rfl, .inl (SqL.of (sG _ _ eD10)), rfl, strs_flat _, _, rfl, ?_⟩
        rw [inV_strs, decide_eq_true (List.mem_map.mpr ⟨cs[m], List.getElem_mem hm, (nmA_at (List.getElem?_eq_getElem hm)).symm⟩)]
        exact iteF ⟨_, rfl, sG⟩
      rintro σ G11 ⟨v5, rfl, s11⟩
      have LA11 := LA10.same s11
      have eD11 := s11 _ _ eD10
      have k011 : Kp p G0 G11 := k09.trans (Kp.same (s10.trans s11))
      -- told, and changed
      refine ⟨.ref x, rfl, x, as, cs, ys, rfl, LGof LA11, fun G12 tp tt qs2 s12 ntp ntt nptt etp hR2 hE2 lq2 => ?_⟩
      obtain rfl : qs2 = qs := hE2.above.unique hE.above (by rw [lq2, lq])
      refine ⟨.ref tp, rfl, .inl ⟨rfl, _, SqL.of etp⟩, tp, _, .str "more", rfl, rfl, etp, by rw [List.length_map, hR2.len, sizeLine_eq]; omega, ?_⟩
      have s113 : Same G11 (upd G12 tp (.lst (tt.map V.ref ++ [.str "more"]))) := s12.put ntp
      have LA13 := LA11.same s113
      have eD13 := s113 _ _ eD11
      have hR13 : RowsL (upd G12 tp (.lst (tt.map V.ref ++ [.str "more"]))) tt cs qs2 := ⟨hR2.len, fun i t e => by
        have ne : t ≠ tp := fun z => nptt (by rw [← z]; exact List.mem_of_getElem? e)
        rw [upd_ne ne]
        exact hR2.at_ i t e⟩
      have etp13 : upd G12 tp (.lst (tt.map V.ref ++ [.str "more"])) tp = some (.lst (tt.map V.ref ++ [.str "more"])) := upd_same
      generalize upd G12 tp (.lst (tt.map V.ref ++ [.str "more"])) = G13 at s113 LA13 eD13 hR13 etp13
      -- the turns
      refine ⟨.ref D, rfl, .ref D, rfl, 1, rfl, D, _, rfl, SqL.of eD13, fun c1' nc1 => ?_⟩
      have sa := Same.fresh (o := .lst (cutV ((cs.map Ask.nm).map V.str) (some 1) none)) nc1
      refine ⟨.ref D, rfl, 1, rfl, D, _, rfl, SqL.of (sa _ _ eD13), fun c2' nc2 => ?_⟩
      have sb := Same.fresh (o := .lst (cutV ((cs.map Ask.nm).map V.str) none (some 1))) nc2
      have ecut1 : cutV ((cs.map Ask.nm).map V.str) (some 1) none = ((cs.map Ask.nm).drop 1).map V.str := cut_fromS (i := 1) (by rw [List.length_map]; omega)
      have ecut2 : cutV ((cs.map Ask.nm).map V.str) none (some 1) = ((cs.map Ask.nm).take 1).map V.str := by
        rw [show (1 : Int) = ((1 : Nat) : Int) from rfl, cutV_map, HT.sIx_none, HT.sIx_nat, Nat.min_eq_left (by rw [List.length_map]; omega)]
        simp
      refine ⟨c1', c2', _, _, rfl, rfl, sb _ _ upd_same, upd_same, ?_, fun c3' nc3 => ?_⟩
      · rw [ecut1, ecut2, List.length_map, List.length_map, List.length_drop, List.length_take, List.length_map, sizeLine_eq]
        omega
      have ecat : cutV ((cs.map Ask.nm).map V.str) (some 1) none ++ cutV ((cs.map Ask.nm).map V.str) none (some 1) = (List.range cs.length).map (fun i => V.str (rnx cs i)) := by
        rw [ecut1, ecut2, ← List.map_append, turn_list c1, List.map_map]
        rfl
      have sc := Same.fresh (o := .lst ((List.range cs.length).map (fun i => V.str (rnx cs i)))) nc3
      rw [ecat]
      have eD14 := (sa.trans (sb.trans sc)) _ _ eD13
      have ekeys : (((List.range cs.length).map fun i => (Sum.inr (nmA cs i) : Key))).map kV = (cs.map Ask.nm).map V.str := by
        rw [List.map_map]
        refine List.ext_getElem? fun j => ?_
        rcases Nat.lt_or_ge j cs.length with lt | ge
        · rw [List.getElem?_map, List.getElem?_range lt, List.getElem?_map, List.getElem?_map, List.getElem?_eq_getElem lt]
          show some (V.str (nmA cs j)) = some (V.str cs[j].nm)
          rw [nmA_at (List.getElem?_eq_getElem lt)]
        · rw [List.getElem?_eq_none (by simpa using ge), List.getElem?_eq_none (by simpa using ge)]
      refine ⟨D, c3', _, _, rfl, (by rw [ekeys]; exact SqL.of eD14), SqL.of upd_same, by simp, fun d nd => ?_⟩
      rw [keyed_zip, merge_keyed inj]
      have sd := Same.fresh (o := .dK (keyed (nmA cs) (fun i => V.str (rnx cs i)) cs.length)) nd
      have s1314 := sa.trans (sb.trans (sc.trans sd))
      have ed : upd (upd (upd (upd G13 c1' (.lst (cutV ((cs.map Ask.nm).map V.str) (some 1) none))) c2' (.lst (cutV ((cs.map Ask.nm).map V.str) none (some 1)))) c3' (.lst ((List.range cs.length).map (fun i => V.str (rnx cs i))))) d (.dK (keyed (nmA cs) (fun i => V.str (rnx cs i)) cs.length)) d = some (.dK (keyed (nmA cs) (fun i => V.str (rnx cs i)) cs.length)) := upd_same
      generalize upd (upd (upd (upd G13 c1' (.lst (cutV ((cs.map Ask.nm).map V.str) (some 1) none))) c2' (.lst (cutV ((cs.map Ask.nm).map V.str) none (some 1)))) c3' (.lst ((List.range cs.length).map (fun i => V.str (rnx cs i))))) d (.dK (keyed (nmA cs) (fun i => V.str (rnx cs i)) cs.length)) = G14 at s1314 ed
      have LA14 := LA13.same s1314
      have s114 := s113.trans s1314
      -- what is due by other names
      refine ⟨.ref x, rfl, x, as, cs, ys, rfl, LGof LA14, fun G15 gp tg qs3 s15 ngp _ _ egp hR3 hE3 lq3 => ⟨gp, rfl, ⟨_, SqL.of egp⟩, fun D6 hD6 => ?_⟩⟩
      obtain rfl : qs3 = qs2 := hE3.above.unique hE.above (by rw [lq3, lq])
      have up := hE3.up
      have ltg := hR3.len
      have wg : Walk (Itl K gp) tg.length (fun H => SqL K H gp (tg.map V.ref)) (YAt (tg.map V.ref)) := walk_refs
      have ed15 := s15 _ _ ed
      refine lc_foldY wg (fun i acc G' => ∃ tl : List Addr, acc = tl.map V.ref ∧ Paired (fun (t : Addr) (r : Row) => t ≠ D6 ∧ G' t = some (.tup [.str r.1, optV r.2])) tl ((rowsOf (ren (rnx cs) cs) qs3).take i)) (by rw [sizeLine_eq]; omega) hD6 ⟨[], rfl, .nil⟩ (fun G' s => SqL.of (s _ _ egp)) yat_same (fun i acc l' G5 G6 eD kk ⟨tl, e1, e2⟩ => ⟨tl, e1, ?_⟩) ?_ ?_
      · clear e1
        revert e2
        generalize (rowsOf (ren (rnx cs) cs) qs3).take i = zs
        intro e2
        induction e2 with
        | nil => exact .nil
        | cons hh _ ih => exact .cons ⟨hh.1, kk _ _ hh.1 hh.2⟩ ih
      · rintro m z acc G16 G16' hm s16 eD6 ⟨rfl, hz⟩ ⟨tl, rfl, htl⟩ N M hN hM
        obtain ⟨t, ht, rfl⟩ := ref_at hz
        have et := (hR3.same s16).at_ m t ht
        have hmc : m < cs.length := by omega
        have edm := s16 _ _ ed15
        have fin : ∀ t2, G16' t2 = none → N (.ref t2) (upd G16' t2 (.tup [V.str (rnx cs m), optV (parO (ren (rnx cs) cs) qs3 m)])) := fun t2 nt2 => by
          refine hN _ _ (Same.fresh nt2) ⟨tl ++ [t2], by rw [List.map_append]; rfl, ?_⟩
          rw [List.take_add_one, rowsOf_at (by omega), ren_nmA hmc]
          refine paired_app ?_ (.cons ⟨fun z => (by rw [z, eD6] at nt2; cases nt2), upd_same⟩ .nil)
          revert htl
          generalize (rowsOf (ren (rnx cs) cs) qs3).take m = zs
          intro htl
          clear hN hM eD6
          induction htl with
          | nil => exact .nil
          | cons hh _ ih => exact .cons ⟨hh.1, (Same.fresh nt2) _ _ hh.2⟩ ih
        refine ⟨t, _, rfl, SqT.of et, rfl, _, _, rfl, _, [], rfl, rfl, rfl, ?_⟩
        unfold tYes
        show (if true = true then _ else _)
        rw [if_pos rfl]
        refine ⟨.ref d, rfl, .str (nmA cs m), rfl, d, .str (rnx cs m), rfl, .inl ⟨_, .inr (nmA cs m), .inl edm, rfl, (valV_keyed (g := fun i => V.str (rnx cs i)) inj hmc).symm⟩, ?_⟩
        refine ⟨.ref d, rfl, d, rfl, .inl ⟨_, .inl edm⟩, parV cs qs3 m, rfl, ?_⟩
        cases eq : qs3[m]? with
        | none => exact absurd (List.getElem?_eq_none_iff.mp eq) (by omega)
        | some o =>
          cases o with
          | none =>
            have e1 : parV cs qs3 m = .non := by unfold parV; rw [eq]
            have e2 : parO (ren (rnx cs) cs) qs3 m = none := by unfold parO; rw [eq]
            rw [e2] at fin
            exact .inr ⟨e1, ⟨_, .inl edm⟩, (by show 2 ≤ sizeLine; decide), fin⟩
          | some j =>
            have hj : j < cs.length := by
              have := (up m j eq).2
              omega
            have e1 : parV cs qs3 m = .str (nmA cs j) := by unfold parV; rw [eq]
            have e2 : parO (ren (rnx cs) cs) qs3 m = some (rnx cs j) := by
              unfold parO
              rw [eq]
              show some (nmA (ren (rnx cs) cs) j) = _
              rw [ren_nmA hj]
            rw [e2] at fin
            rw [e1]
            exact .inl ⟨some (.str (rnx cs j)), .inl ⟨_, .inr (nmA cs j), .inl edm, rfl, (valV_keyed (g := fun i => V.str (rnx cs i)) inj hj).symm⟩, (by show 2 ≤ sizeLine; decide), fin⟩
      rintro G16 acc s16 eD6 ⟨tl, rfl, htl⟩
      have lrn : (ren (rnx cs) cs).length = cs.length := ren_length _ _
      rw [List.take_of_length_le (by rw [rowsOf_length]; omega)] at htl
      have s1416 := s15.trans s16
      have LA16 := LA14.same s1416
      have ed16 := s16 _ _ ed15
      have rnm := ren_nm (rn := rnx cs) (ks := cs)
      have tperm := turn_perm c1
      have rnd : ((ren (rnx cs) cs).map Ask.nm).Nodup := by
        rw [rnm]
        exact tperm.nodup_iff.mpr cnd
      have rks := ren_ks (rnx cs) cs
      have rsub : ∀ k ∈ ren (rnx cs) cs, k.ks.Nodup ∧ ∀ x ∈ k.ks, x ∈ ys := fun k hk => by
        have h1 : k.ks ∈ (ren (rnx cs) cs).map Ask.ks := List.mem_map.mpr ⟨k, hk, rfl⟩
        rw [rks] at h1
        obtain ⟨k', hk', e⟩ := List.mem_map.mp h1
        rw [← e]
        exact csub k' hk'
      refine ⟨.ref x, rfl, .ref d, rfl, x, d, as, cs, rnx cs, rfl, LA16, cnd, by omega, cok1, ed16, tperm, fun G17 xr bs s17 nxr LR => ?_⟩
      refine ⟨xr, bs, ren (rnx cs) cs, ys, rfl, ⟨LR, rnd, by omega, by omega, rsub⟩, fun G18 hp1 th qs4 s18 nhp _ _ ehp hR4 hE4 lq4 => ?_⟩
      rw [lkA_congr rks] at hE4
      obtain rfl : qs4 = qs3 := hE4.above.unique hE.above (by rw [lq4, lrn, lq])
      have rwd : ∀ r ∈ rowsOf (ren (rnx cs) cs) qs4, RowOk r := fun r hr' => by
        have nword : ∀ j, j < cs.length → IsWord (rnx cs j) := fun j hj => by
          have h1 : rnx cs j ∈ (List.range cs.length).map (rnx cs) := List.mem_map.mpr ⟨j, List.mem_range.mpr hj, rfl⟩
          obtain ⟨k, hk, e⟩ := List.mem_map.mp (tperm.mem_iff.mp h1)
          rw [← e]
          exact (cok1 k hk).nm
        obtain ⟨i, hi, rfl⟩ := List.mem_map.mp hr'
        have hi' := List.mem_range.mp hi
        have hic : i < cs.length := by omega
        refine ⟨by rw [ren_nmA hic]; exact nword i hic, fun x hx => ?_⟩
        change parO (ren (rnx cs) cs) qs4 i = some x at hx
        unfold parO at hx
        split at hx
        · rename_i j e
          have hjc : j < cs.length := by
            have := (up i j e).2
            omega
          obtain rfl := Option.some.inj hx
          rw [ren_nmA hjc]
          exact nword j hjc
        · cases hx
      have s1618 := s17.trans s18
      have htl18 : RowsAt G18 tl (rowsOf (ren (rnx cs) cs) qs4) := (rowsAt_of htl).same s1618
      refine ⟨.ref D6, rfl, _, _, dp_rows (SqL.of ehp) hR4.rows, dp_rows (SqL.of (s1618 _ _ eD6)) htl18, shaped_rows rwd, shaped_rows rwd, _, rfl, ?_⟩
      rw [eqv_same (shaped_rows rwd)]
      refine iteF ?_
      have s1418 := s1416.trans s1618
      have LA18 := LA14.same s1418
      have etp18 := s1418 _ _ (s1314 _ _ etp13)
      have hR18 := (hR13.same s1314).same s1418
      refine ⟨.ref x, rfl, x, as, cs, ys, rfl, LGof LA18, fun G19 lp tl2 qs5 s19 nlp _ _ elp hR5 hE5 lq5 => ?_⟩
      obtain rfl : qs5 = qs4 := hE5.above.unique hE.above (by rw [lq5, lq])
      refine ⟨.ref tp, rfl, 1, rfl, -1, rfl, tp, _, rfl, SqL.of (s19 _ _ etp18), fun p6 np6 => ?_⟩
      rw [cut_lastV]
      have s20 := Same.fresh (o := .lst (tt.map V.ref)) np6
      have rok := rowsOk cok1 lq5 hE5.above.lt
      refine ⟨_, _, dp_rows (SqL.of (s20 _ _ elp)) (hR5.same s20).rows, dp_rows (SqL.of upd_same) ((hR18.same s19).same s20).rows, shaped_rows rok, shaped_rows rok, _, rfl, ?_⟩
      rw [eqv_same (shaped_rows rok)]
      refine iteF ?_
      have kAll : Kp p G0 (upd G19 p6 (.lst (tt.map V.ref))) := k011.trans (Kp.same (s114.trans (s1418.trans (s19.trans s20))))
      refine ⟨_, _, _, _, _, _, _, _, _, _, _, rfl, kAll _ _ npp e0, fun j z hj hz => purse_kp (pu j z (by omega) hz) kAll fun e => ?_⟩
      subst e
      obtain ⟨m1, e1⟩ := List.getElem?_eq_some_iff.mp hz
      obtain ⟨m2, e2⟩ := List.getElem?_eq_some_iff.mp hp
      exact List.pairwise_iff_getElem.mp pnd i j m2 m1 (by omega) (e2.trans e1.symm)
    · rintro σ G ⟨v1, v2, v3, v4, v5, v6, v7, v8, v9, v10, v11, rfl, e0, _⟩
      exact q G
end
end Eld
end L2

set_option Elab.async false
set_option linter.all false
set_option maxRecDepth 100000
set_option maxHeartbeats 8000000
/-! ## what the top has written; the end -/
namespace L2
namespace Eld
open PySem PySem.Spec PyProof.Rows PySem.EldX
def insB (K : PySem.W.Frag) (C : Addr) : Bool :=
  PySem.W.plainGet K C Str.empty && (PySem.W.hasDictIn K C && (PySem.W.plainOver K C && (PySem.W.findIn K (.ref C) "__setattr__" == some (some (.builtin "object.__setattr__")) && (PySem.W.findIn K (.ref C) "__class__" == some (some (.builtin "object.__class__")) &&
    (PySem.W.specialIn K (.builtin "object.__class__") "__get__" == some (some (.builtin "getset_descriptor.__get__")) && (PySem.W.takesIn K (.builtin "object.__class__") == some true && (PySem.W.mroIn K C (.type "object") == some true && PySem.W.kitOne K (.ref C) (.ref C) == some true)))))))
theorem insB_ok {K : PySem.W.Frag} {C : Addr} (q : insB K C = true) : InsC K C := by
  unfold insB at q
  simp only [Bool.and_eq_true, beq_iff_eq] at q
  obtain ⟨h1, h2, h3, h4, h5, h6, h7, h8, h9⟩ := q
  exact ⟨⟨h1, h2, h3, h4⟩, h5, h6, h7, h8, h9⟩
def propB (K : PySem.W.Frag) (C : Addr) (f : Str) (p g : Addr) : Bool :=
  PySem.W.findIn K (.ref C) f == some (some (.ref p)) && (PySem.W.specialIn K (.ref p) "__get__" == some (some (.builtin "property.__get__")) && (PySem.W.takesIn K (.ref p) == some true &&
    (match PySem.W.recIn K p "property" with | some (.ref g' :: _) => g' == g | _ => false)))
theorem propB_ok {K : PySem.W.Frag} {C : Addr} {f : Str} {p g : Addr} (q : propB K C f p g = true) : PropOf K C f p g := by
  unfold propB at q
  simp only [Bool.and_eq_true, beq_iff_eq] at q
  obtain ⟨h1, h2, h3, h4⟩ := q
  refine ⟨h1, h2, h3, ?_⟩
  split at h4
  · rename_i g' rest e
    rw [beq_iff_eq] at h4
    subst h4
    exact ⟨rest, e⟩
  · cases h4
def ownB (K : PySem.W.Frag) (C f : Addr) : Bool := PySem.W.findIn K (.ref C) "__eq__" == some (some (.ref f)) && (PySem.W.isFn K (.ref f) && (PySem.W.findIn K (.ref C) "__ne__" == some (some (.builtin "object.__ne__")) && PySem.W.subIn K (.ref C) (.type "object") == some true))
theorem ownB_ok {K : PySem.W.Frag} {C f : Addr} (q : ownB K C f = true) : OwnE K C f := by
  unfold ownB at q
  simp only [Bool.and_eq_true, beq_iff_eq] at q
  obtain ⟨h1, h2, h3, h4⟩ := q
  exact ⟨h1, h2, h3, h4⟩
def makeB (K : PySem.W.Frag) (C f : Addr) : Bool := PySem.W.makesIn K C && (PySem.W.findIn K (.ref C) "__init__" == some (some (.ref f)) && (PySem.W.isFn K (.ref f) && PySem.W.keepIn K (.ref C)))
theorem makeB_ok {K : PySem.W.Frag} {C f : Addr} (q : makeB K C f = true) : Mk K C f := by
  unfold makeB at q
  simp only [Bool.and_eq_true, beq_iff_eq] at q
  obtain ⟨h1, h2, h3, h4⟩ := q
  exact ⟨h1, h2, h3, h4⟩
def methB (K : PySem.W.Frag) (C : Addr) (m : Str) (f : Addr) : Bool := PySem.W.findIn K (.ref C) m == some (some (.ref f)) && (PySem.W.isFn K (.ref f) && PySem.W.keepIn K (.ref f))
theorem methB_ok {K : PySem.W.Frag} {C : Addr} {m : Str} {f : Addr} (q : methB K C m f = true) : PySem.W.findIn K (.ref C) m = some (some (.ref f)) ∧ PySem.W.isFn K (.ref f) = true ∧ PySem.W.keepIn K (.ref f) = true := by
  unfold methB at q
  simpa only [Bool.and_eq_true, beq_iff_eq] using q
def clsAB (K : PySem.W.Frag) (C fI pN gN pF gF pM gM fE : Addr) : Bool :=
  insB K C && (PySem.W.findIn K (.ref C) "_name" == some none && (PySem.W.findIn K (.ref C) "_fits" == some none && (PySem.W.findIn K (.ref C) "_most" == some none && (makeB K C fI && (propB K C "name" pN gN && (propB K C "fits" pF gF && (propB K C "most" pM gM && ownB K C fE)))))))
theorem clsAB_ok {K : PySem.W.Frag} {C fI pN gN pF gF pM gM fE : Addr} (q : clsAB K C fI pN gN pF gF pM gM fE = true) : ACls K C fI pN gN pF gF pM gM fE := by
  unfold clsAB at q
  simp only [Bool.and_eq_true, beq_iff_eq] at q
  obtain ⟨h1, h2, h3, h4, h5, h6, h7, h8, h9⟩ := q
  exact ⟨insB_ok h1, h2, h3, h4, makeB_ok h5, propB_ok h6, propB_ok h7, propB_ok h8, ownB_ok h9⟩
def clsLB (K : PySem.W.Frag) (C fI fE fL fA fN fK fR fP : Addr) : Bool :=
  insB K C && (PySem.W.findIn K (.ref C) "_askers" == some none && (makeB K C fI && (ownB K C fE && (methB K C "__len__" fL && (methB K C "askers" fA && (methB K C "names" fN && (methB K C "kinds" fK && (methB K C "asker" fR && methB K C "place" fP))))))))
theorem clsLB_ok {K : PySem.W.Frag} {C fI fE fL fA fN fK fR fP : Addr} (q : clsLB K C fI fE fL fA fN fK fR fP = true) : LCls K C fI fE fL fA fN fK fR fP := by
  unfold clsLB at q
  simp only [Bool.and_eq_true, beq_iff_eq] at q
  obtain ⟨h1, h2, h3, h4, h5, h6, h7, h8, h9, h10⟩ := q
  exact ⟨insB_ok h1, h2, makeB_ok h3, ownB_ok h4, (methB_ok h5).1, (methB_ok h5).2.1, ⟨(methB_ok h6).1, (methB_ok h6).2.1, (methB_ok h6).2.2⟩, ⟨(methB_ok h7).1, (methB_ok h7).2.1, (methB_ok h7).2.2⟩, ⟨(methB_ok h8).1, (methB_ok h8).2.1, (methB_ok h8).2.2⟩, ⟨(methB_ok h9).1, (methB_ok h9).2.1, (methB_ok h9).2.2⟩, ⟨(methB_ok h10).1, (methB_ok h10).2.1, (methB_ok h10).2.2⟩⟩
def clsLB2 (K : PySem.W.Frag) (C fW fI : Addr) : Bool := methB K C "without" fW && methB K C "put_in" fI
theorem clsLB2_ok {K : PySem.W.Frag} {C fW fI : Addr} (q : clsLB2 K C fW fI = true) : LClsB K C fW fI := by
  unfold clsLB2 at q
  simp only [Bool.and_eq_true] at q
  obtain ⟨h1, h2⟩ := q
  exact ⟨⟨(methB_ok h1).1, (methB_ok h1).2.1, (methB_ok h1).2.2⟩, ⟨(methB_ok h2).1, (methB_ok h2).2.1, (methB_ok h2).2.2⟩⟩
theorem all_mk {l : PySem.W.OpenLaw} {w : World} {K : PySem.W.Frag} {h : Heap} {mg : Str → Option Value} {fa : Addr} (X : K.In h) (G : h.Ns mainGlobals mg) (hfa : mg "law" = some (.ref fa)) {CA CL pAName pAFits pAMost : Addr}
    {fWhole fCount fIsName fUnlike fAreNames fIsExchange fAreAskers fNeedAsker fNeedExchange fRecalled fNeedLine fShare fParents fGroups fForebears fGroup fParent fForest fTouched fPurse fMixed fDraw fPurses fShuffled fWord fNames fKinds fLLinked fIsNear fGrown fAbove fUps fSpareName fFew fLineRight fOthersRight fLaw fAInit fAEq fLInit fLEq fLLen fLAskers fLNames fLKinds fLAsk fLPlace fLWithout fLPutIn fAName fAFits fAMost : Addr} {odWhole anWhole odCount anCount odIsName anIsName odUnlike anUnlike odAreNames anAreNames odIsExchange anIsExchange odAreAskers anAreAskers odNeedAsker anNeedAsker odNeedExchange anNeedExchange odRecalled anRecalled odNeedLine anNeedLine odShare anShare odParents anParents odGroups anGroups odForebears anForebears odGroup anGroup odParent anParent odForest anForest odTouched anTouched odPurse anPurse odMixed anMixed odDraw anDraw odPurses anPurses odShuffled anShuffled odWord anWord odNames anNames odKinds anKinds odLLinked anLLinked odIsNear anIsNear odGrown anGrown odAbove anAbove odUps anUps odSpareName anSpareName odFew anFew odLineRight anLineRight odOthersRight anOthersRight odLaw anLaw odAInit anAInit odAEq anAEq odLInit anLInit odLEq anLEq odLLen anLLen odLAskers anLAskers odLNames anLNames odLKinds anLKinds odLAsk anLAsk odLPlace anLPlace odLWithout anLWithout odLPutIn anLPutIn odAName anAName odAFits anAFits odAMost anAMost : Option Addr} {slWhole slCount slIsName slUnlike slAreNames slIsExchange slAreAskers slNeedAsker slNeedExchange slRecalled slNeedLine slShare slParents slGroups slForebears slGroup slParent slForest slTouched slPurse slMixed slDraw slPurses slShuffled slWord slNames slKinds slLLinked slIsNear slGrown slAbove slUps slSpareName slFew slLineRight slOthersRight slLaw slAInit slAEq slLInit slLEq slLLen slLAskers slLNames slLKinds slLAsk slLPlace slLWithout slLPutIn slAName slAFits slAMost : Array (Option Value)}
    {ocWhole kVWhole dcWhole pmWhole cdWhole ctWhole ocCount kVCount dcCount pmCount cdCount ctCount ocIsName kVIsName dcIsName pmIsName cdIsName ctIsName ocUnlike kVUnlike dcUnlike pmUnlike cdUnlike ctUnlike ocAreNames kVAreNames dcAreNames pmAreNames cdAreNames ctAreNames ocIsExchange kVIsExchange dcIsExchange pmIsExchange cdIsExchange ctIsExchange ocAreAskers kVAreAskers dcAreAskers pmAreAskers cdAreAskers ctAreAskers ocNeedAsker kVNeedAsker dcNeedAsker pmNeedAsker cdNeedAsker ctNeedAsker ocNeedExchange kVNeedExchange dcNeedExchange pmNeedExchange cdNeedExchange ctNeedExchange ocRecalled kVRecalled dcRecalled pmRecalled cdRecalled ctRecalled ocNeedLine kVNeedLine dcNeedLine pmNeedLine cdNeedLine ctNeedLine ocShare kVShare dcShare pmShare cdShare ctShare ocParents kVParents dcParents pmParents cdParents ctParents ocGroups kVGroups dcGroups pmGroups cdGroups ctGroups ocForebears kVForebears dcForebears pmForebears cdForebears ctForebears ocGroup kVGroup dcGroup pmGroup cdGroup ctGroup ocParent kVParent dcParent pmParent cdParent ctParent ocForest kVForest dcForest pmForest cdForest ctForest ocTouched kVTouched dcTouched pmTouched cdTouched ctTouched ocPurse kVPurse dcPurse pmPurse cdPurse ctPurse ocMixed kVMixed dcMixed pmMixed cdMixed ctMixed ocDraw kVDraw dcDraw pmDraw cdDraw ctDraw ocPurses kVPurses dcPurses pmPurses cdPurses ctPurses ocShuffled kVShuffled dcShuffled pmShuffled cdShuffled ctShuffled ocWord kVWord dcWord pmWord cdWord ctWord ocNames kVNames dcNames pmNames cdNames ctNames ocKinds kVKinds dcKinds pmKinds cdKinds ctKinds ocLLinked kVLLinked dcLLinked pmLLinked cdLLinked ctLLinked ocIsNear kVIsNear dcIsNear pmIsNear cdIsNear ctIsNear ocGrown kVGrown dcGrown pmGrown cdGrown ctGrown ocAbove kVAbove dcAbove pmAbove cdAbove ctAbove ocUps kVUps dcUps pmUps cdUps ctUps ocSpareName kVSpareName dcSpareName pmSpareName cdSpareName ctSpareName ocFew kVFew dcFew pmFew cdFew ctFew ocLineRight kVLineRight dcLineRight pmLineRight cdLineRight ctLineRight ocOthersRight kVOthersRight dcOthersRight pmOthersRight cdOthersRight ctOthersRight ocLaw kVLaw dcLaw pmLaw cdLaw ctLaw ocAInit kVAInit dcAInit pmAInit cdAInit ctAInit ocAEq kVAEq dcAEq pmAEq cdAEq ctAEq ocLInit kVLInit dcLInit pmLInit cdLInit ctLInit ocLEq kVLEq dcLEq pmLEq cdLEq ctLEq ocLLen kVLLen dcLLen pmLLen cdLLen ctLLen ocLAskers kVLAskers dcLAskers pmLAskers cdLAskers ctLAskers ocLNames kVLNames dcLNames pmLNames cdLNames ctLNames ocLKinds kVLKinds dcLKinds pmLKinds cdLKinds ctLKinds ocLAsk kVLAsk dcLAsk pmLAsk cdLAsk ctLAsk ocLPlace kVLPlace dcLPlace pmLPlace cdLPlace ctLPlace ocLWithout kVLWithout dcLWithout pmLWithout cdLWithout ctLWithout ocLPutIn kVLPutIn dcLPutIn pmLPutIn cdLPutIn ctLPutIn ocAName kVAName dcAName pmAName cdAName ctAName ocAFits kVAFits dcAFits pmAFits cdAFits ctAFits ocAMost kVAMost dcAMost pmAMost cdAMost ctAMost : Value}
    (aA : PySem.W.nsIn K mainGlobals "Asker" = some (some (.ref CA))) (aL : PySem.W.nsIn K mainGlobals "Line" = some (some (.ref CL)))
    (aWhole : PySem.W.nsIn K mainGlobals "is_whole" = some (some (.ref fWhole))) (lWhole : K.lookup fWhole = some ⟨ocWhole, odWhole, .func (PySem.W.fnOf "is_whole" "is_whole" (defArgs sWhole) (defBody sWhole) (defScope sWhole) .none kVWhole dcWhole pmWhole anWhole cdWhole ctWhole), slWhole⟩)
    (cWhole : PySem.W.codeIn K cdWhole "is_whole" = true) (kWhole : PySem.W.keepIn K (.ref fWhole) = true)
    (aCount : PySem.W.nsIn K mainGlobals "is_count" = some (some (.ref fCount))) (lCount : K.lookup fCount = some ⟨ocCount, odCount, .func (PySem.W.fnOf "is_count" "is_count" (defArgs sCount) (defBody sCount) (defScope sCount) .none kVCount dcCount pmCount anCount cdCount ctCount), slCount⟩)
    (cCount : PySem.W.codeIn K cdCount "is_count" = true) (kCount : PySem.W.keepIn K (.ref fCount) = true)
    (aIsName : PySem.W.nsIn K mainGlobals "is_name" = some (some (.ref fIsName))) (lIsName : K.lookup fIsName = some ⟨ocIsName, odIsName, .func (PySem.W.fnOf "is_name" "is_name" (defArgs sIsName) (defBody sIsName) (defScope sIsName) .none kVIsName dcIsName pmIsName anIsName cdIsName ctIsName), slIsName⟩)
    (cIsName : PySem.W.codeIn K cdIsName "is_name" = true) (kIsName : PySem.W.keepIn K (.ref fIsName) = true)
    (aUnlike : PySem.W.nsIn K mainGlobals "are_unlike" = some (some (.ref fUnlike))) (lUnlike : K.lookup fUnlike = some ⟨ocUnlike, odUnlike, .func (PySem.W.fnOf "are_unlike" "are_unlike" (defArgs sUnlike) (defBody sUnlike) (defScope sUnlike) .none kVUnlike dcUnlike pmUnlike anUnlike cdUnlike ctUnlike), slUnlike⟩)
    (cUnlike : PySem.W.codeIn K cdUnlike "are_unlike" = true) (kUnlike : PySem.W.keepIn K (.ref fUnlike) = true)
    (aAreNames : PySem.W.nsIn K mainGlobals "are_names" = some (some (.ref fAreNames))) (lAreNames : K.lookup fAreNames = some ⟨ocAreNames, odAreNames, .func (PySem.W.fnOf "are_names" "are_names" (defArgs sAreNames) (defBody sAreNames) (defScope sAreNames) .none kVAreNames dcAreNames pmAreNames anAreNames cdAreNames ctAreNames), slAreNames⟩)
    (cAreNames : PySem.W.codeIn K cdAreNames "are_names" = true) (kAreNames : PySem.W.keepIn K (.ref fAreNames) = true)
    (aIsExchange : PySem.W.nsIn K mainGlobals "is_exchange" = some (some (.ref fIsExchange))) (lIsExchange : K.lookup fIsExchange = some ⟨ocIsExchange, odIsExchange, .func (PySem.W.fnOf "is_exchange" "is_exchange" (defArgs sIsExchange) (defBody sIsExchange) (defScope sIsExchange) .none kVIsExchange dcIsExchange pmIsExchange anIsExchange cdIsExchange ctIsExchange), slIsExchange⟩)
    (cIsExchange : PySem.W.codeIn K cdIsExchange "is_exchange" = true) (kIsExchange : PySem.W.keepIn K (.ref fIsExchange) = true)
    (aAreAskers : PySem.W.nsIn K mainGlobals "_are_askers" = some (some (.ref fAreAskers))) (lAreAskers : K.lookup fAreAskers = some ⟨ocAreAskers, odAreAskers, .func (PySem.W.fnOf "_are_askers" "_are_askers" (defArgs sAreAskers) (defBody sAreAskers) (defScope sAreAskers) .none kVAreAskers dcAreAskers pmAreAskers anAreAskers cdAreAskers ctAreAskers), slAreAskers⟩)
    (cAreAskers : PySem.W.codeIn K cdAreAskers "_are_askers" = true) (kAreAskers : PySem.W.keepIn K (.ref fAreAskers) = true)
    (aNeedAsker : PySem.W.nsIn K mainGlobals "need_asker" = some (some (.ref fNeedAsker))) (lNeedAsker : K.lookup fNeedAsker = some ⟨ocNeedAsker, odNeedAsker, .func (PySem.W.fnOf "need_asker" "need_asker" (defArgs sNeedAsker) (defBody sNeedAsker) (defScope sNeedAsker) .none kVNeedAsker dcNeedAsker pmNeedAsker anNeedAsker cdNeedAsker ctNeedAsker), slNeedAsker⟩)
    (cNeedAsker : PySem.W.codeIn K cdNeedAsker "need_asker" = true) (kNeedAsker : PySem.W.keepIn K (.ref fNeedAsker) = true)
    (aNeedExchange : PySem.W.nsIn K mainGlobals "_need_exchange" = some (some (.ref fNeedExchange))) (lNeedExchange : K.lookup fNeedExchange = some ⟨ocNeedExchange, odNeedExchange, .func (PySem.W.fnOf "_need_exchange" "_need_exchange" (defArgs sNeedExchange) (defBody sNeedExchange) (defScope sNeedExchange) .none kVNeedExchange dcNeedExchange pmNeedExchange anNeedExchange cdNeedExchange ctNeedExchange), slNeedExchange⟩)
    (cNeedExchange : PySem.W.codeIn K cdNeedExchange "_need_exchange" = true) (kNeedExchange : PySem.W.keepIn K (.ref fNeedExchange) = true)
    (aRecalled : PySem.W.nsIn K mainGlobals "recalled" = some (some (.ref fRecalled))) (lRecalled : K.lookup fRecalled = some ⟨ocRecalled, odRecalled, .func (PySem.W.fnOf "recalled" "recalled" (defArgs sRecalled) (defBody sRecalled) (defScope sRecalled) .none kVRecalled dcRecalled pmRecalled anRecalled cdRecalled ctRecalled), slRecalled⟩)
    (cRecalled : PySem.W.codeIn K cdRecalled "recalled" = true) (kRecalled : PySem.W.keepIn K (.ref fRecalled) = true)
    (aNeedLine : PySem.W.nsIn K mainGlobals "need_line" = some (some (.ref fNeedLine))) (lNeedLine : K.lookup fNeedLine = some ⟨ocNeedLine, odNeedLine, .func (PySem.W.fnOf "need_line" "need_line" (defArgs sNeedLine) (defBody sNeedLine) (defScope sNeedLine) .none kVNeedLine dcNeedLine pmNeedLine anNeedLine cdNeedLine ctNeedLine), slNeedLine⟩)
    (cNeedLine : PySem.W.codeIn K cdNeedLine "need_line" = true) (kNeedLine : PySem.W.keepIn K (.ref fNeedLine) = true)
    (aShare : PySem.W.nsIn K mainGlobals "_share" = some (some (.ref fShare))) (lShare : K.lookup fShare = some ⟨ocShare, odShare, .func (PySem.W.fnOf "_share" "_share" (defArgs sShare) (defBody sShare) (defScope sShare) .none kVShare dcShare pmShare anShare cdShare ctShare), slShare⟩)
    (cShare : PySem.W.codeIn K cdShare "_share" = true) (kShare : PySem.W.keepIn K (.ref fShare) = true)
    (aParents : PySem.W.nsIn K mainGlobals "_parents" = some (some (.ref fParents))) (lParents : K.lookup fParents = some ⟨ocParents, odParents, .func (PySem.W.fnOf "_parents" "_parents" (defArgs sParents) (defBody sParents) (defScope sParents) .none kVParents dcParents pmParents anParents cdParents ctParents), slParents⟩)
    (cParents : PySem.W.codeIn K cdParents "_parents" = true) (kParents : PySem.W.keepIn K (.ref fParents) = true)
    (aGroups : PySem.W.nsIn K mainGlobals "_groups" = some (some (.ref fGroups))) (lGroups : K.lookup fGroups = some ⟨ocGroups, odGroups, .func (PySem.W.fnOf "_groups" "_groups" (defArgs sGroups) (defBody sGroups) (defScope sGroups) .none kVGroups dcGroups pmGroups anGroups cdGroups ctGroups), slGroups⟩)
    (cGroups : PySem.W.codeIn K cdGroups "_groups" = true) (kGroups : PySem.W.keepIn K (.ref fGroups) = true)
    (aForebears : PySem.W.nsIn K mainGlobals "_forebears" = some (some (.ref fForebears))) (lForebears : K.lookup fForebears = some ⟨ocForebears, odForebears, .func (PySem.W.fnOf "_forebears" "_forebears" (defArgs sForebears) (defBody sForebears) (defScope sForebears) .none kVForebears dcForebears pmForebears anForebears cdForebears ctForebears), slForebears⟩)
    (cForebears : PySem.W.codeIn K cdForebears "_forebears" = true) (kForebears : PySem.W.keepIn K (.ref fForebears) = true)
    (aGroup : PySem.W.nsIn K mainGlobals "group" = some (some (.ref fGroup))) (lGroup : K.lookup fGroup = some ⟨ocGroup, odGroup, .func (PySem.W.fnOf "group" "group" (defArgs sGroup) (defBody sGroup) (defScope sGroup) .none kVGroup dcGroup pmGroup anGroup cdGroup ctGroup), slGroup⟩)
    (cGroup : PySem.W.codeIn K cdGroup "group" = true) (kGroup : PySem.W.keepIn K (.ref fGroup) = true)
    (aParent : PySem.W.nsIn K mainGlobals "parent" = some (some (.ref fParent))) (lParent : K.lookup fParent = some ⟨ocParent, odParent, .func (PySem.W.fnOf "parent" "parent" (defArgs sParent) (defBody sParent) (defScope sParent) .none kVParent dcParent pmParent anParent cdParent ctParent), slParent⟩)
    (cParent : PySem.W.codeIn K cdParent "parent" = true) (kParent : PySem.W.keepIn K (.ref fParent) = true)
    (aForest : PySem.W.nsIn K mainGlobals "forest" = some (some (.ref fForest))) (lForest : K.lookup fForest = some ⟨ocForest, odForest, .func (PySem.W.fnOf "forest" "forest" (defArgs sForest) (defBody sForest) (defScope sForest) .none kVForest dcForest pmForest anForest cdForest ctForest), slForest⟩)
    (cForest : PySem.W.codeIn K cdForest "forest" = true) (kForest : PySem.W.keepIn K (.ref fForest) = true)
    (aTouched : PySem.W.nsIn K mainGlobals "touched" = some (some (.ref fTouched))) (lTouched : K.lookup fTouched = some ⟨ocTouched, odTouched, .func (PySem.W.fnOf "touched" "touched" (defArgs sTouched) (defBody sTouched) (defScope sTouched) .none kVTouched dcTouched pmTouched anTouched cdTouched ctTouched), slTouched⟩)
    (cTouched : PySem.W.codeIn K cdTouched "touched" = true) (kTouched : PySem.W.keepIn K (.ref fTouched) = true)
    (aPurse : PySem.W.nsIn K mainGlobals "_law_purse" = some (some (.ref fPurse))) (lPurse : K.lookup fPurse = some ⟨ocPurse, odPurse, .func (PySem.W.fnOf "_law_purse" "_law_purse" (defArgs sPurse) (defBody sPurse) (defScope sPurse) .none kVPurse dcPurse pmPurse anPurse cdPurse ctPurse), slPurse⟩)
    (cPurse : PySem.W.codeIn K cdPurse "_law_purse" = true) (kPurse : PySem.W.keepIn K (.ref fPurse) = true)
    (aMixed : PySem.W.nsIn K mainGlobals "_law_mixed" = some (some (.ref fMixed))) (lMixed : K.lookup fMixed = some ⟨ocMixed, odMixed, .func (PySem.W.fnOf "_law_mixed" "_law_mixed" (defArgs sMixed) (defBody sMixed) (defScope sMixed) .none kVMixed dcMixed pmMixed anMixed cdMixed ctMixed), slMixed⟩)
    (cMixed : PySem.W.codeIn K cdMixed "_law_mixed" = true) (kMixed : PySem.W.keepIn K (.ref fMixed) = true)
    (aDraw : PySem.W.nsIn K mainGlobals "_law_draw" = some (some (.ref fDraw))) (lDraw : K.lookup fDraw = some ⟨ocDraw, odDraw, .func (PySem.W.fnOf "_law_draw" "_law_draw" (defArgs sDraw) (defBody sDraw) (defScope sDraw) .none kVDraw dcDraw pmDraw anDraw cdDraw ctDraw), slDraw⟩)
    (cDraw : PySem.W.codeIn K cdDraw "_law_draw" = true) (kDraw : PySem.W.keepIn K (.ref fDraw) = true)
    (aPurses : PySem.W.nsIn K mainGlobals "_law_purses" = some (some (.ref fPurses))) (lPurses : K.lookup fPurses = some ⟨ocPurses, odPurses, .func (PySem.W.fnOf "_law_purses" "_law_purses" (defArgs sPurses) (defBody sPurses) (defScope sPurses) .none kVPurses dcPurses pmPurses anPurses cdPurses ctPurses), slPurses⟩)
    (cPurses : PySem.W.codeIn K cdPurses "_law_purses" = true) (kPurses : PySem.W.keepIn K (.ref fPurses) = true)
    (aShuffled : PySem.W.nsIn K mainGlobals "_law_shuffled" = some (some (.ref fShuffled))) (lShuffled : K.lookup fShuffled = some ⟨ocShuffled, odShuffled, .func (PySem.W.fnOf "_law_shuffled" "_law_shuffled" (defArgs sShuffled) (defBody sShuffled) (defScope sShuffled) .none kVShuffled dcShuffled pmShuffled anShuffled cdShuffled ctShuffled), slShuffled⟩)
    (cShuffled : PySem.W.codeIn K cdShuffled "_law_shuffled" = true) (kShuffled : PySem.W.keepIn K (.ref fShuffled) = true)
    (aWord : PySem.W.nsIn K mainGlobals "_law_word" = some (some (.ref fWord))) (lWord : K.lookup fWord = some ⟨ocWord, odWord, .func (PySem.W.fnOf "_law_word" "_law_word" (defArgs sWord) (defBody sWord) (defScope sWord) .none kVWord dcWord pmWord anWord cdWord ctWord), slWord⟩)
    (cWord : PySem.W.codeIn K cdWord "_law_word" = true) (kWord : PySem.W.keepIn K (.ref fWord) = true)
    (aNames : PySem.W.nsIn K mainGlobals "_law_names" = some (some (.ref fNames))) (lNames : K.lookup fNames = some ⟨ocNames, odNames, .func (PySem.W.fnOf "_law_names" "_law_names" (defArgs sNames) (defBody sNames) (defScope sNames) .none kVNames dcNames pmNames anNames cdNames ctNames), slNames⟩)
    (cNames : PySem.W.codeIn K cdNames "_law_names" = true) (kNames : PySem.W.keepIn K (.ref fNames) = true)
    (aKinds : PySem.W.nsIn K mainGlobals "_law_kinds" = some (some (.ref fKinds))) (lKinds : K.lookup fKinds = some ⟨ocKinds, odKinds, .func (PySem.W.fnOf "_law_kinds" "_law_kinds" (defArgs sKinds) (defBody sKinds) (defScope sKinds) .none kVKinds dcKinds pmKinds anKinds cdKinds ctKinds), slKinds⟩)
    (cKinds : PySem.W.codeIn K cdKinds "_law_kinds" = true) (kKinds : PySem.W.keepIn K (.ref fKinds) = true)
    (aLLinked : PySem.W.nsIn K mainGlobals "_law_linked" = some (some (.ref fLLinked))) (lLLinked : K.lookup fLLinked = some ⟨ocLLinked, odLLinked, .func (PySem.W.fnOf "_law_linked" "_law_linked" (defArgs sLLinked) (defBody sLLinked) (defScope sLLinked) .none kVLLinked dcLLinked pmLLinked anLLinked cdLLinked ctLLinked), slLLinked⟩)
    (cLLinked : PySem.W.codeIn K cdLLinked "_law_linked" = true) (kLLinked : PySem.W.keepIn K (.ref fLLinked) = true)
    (aIsNear : PySem.W.nsIn K mainGlobals "_law_is_near" = some (some (.ref fIsNear))) (lIsNear : K.lookup fIsNear = some ⟨ocIsNear, odIsNear, .func (PySem.W.fnOf "_law_is_near" "_law_is_near" (defArgs sIsNear) (defBody sIsNear) (defScope sIsNear) .none kVIsNear dcIsNear pmIsNear anIsNear cdIsNear ctIsNear), slIsNear⟩)
    (cIsNear : PySem.W.codeIn K cdIsNear "_law_is_near" = true) (kIsNear : PySem.W.keepIn K (.ref fIsNear) = true)
    (aGrown : PySem.W.nsIn K mainGlobals "_law_grown" = some (some (.ref fGrown))) (lGrown : K.lookup fGrown = some ⟨ocGrown, odGrown, .func (PySem.W.fnOf "_law_grown" "_law_grown" (defArgs sGrown) (defBody sGrown) (defScope sGrown) .none kVGrown dcGrown pmGrown anGrown cdGrown ctGrown), slGrown⟩)
    (cGrown : PySem.W.codeIn K cdGrown "_law_grown" = true) (kGrown : PySem.W.keepIn K (.ref fGrown) = true)
    (aAbove : PySem.W.nsIn K mainGlobals "_law_above" = some (some (.ref fAbove))) (lAbove : K.lookup fAbove = some ⟨ocAbove, odAbove, .func (PySem.W.fnOf "_law_above" "_law_above" (defArgs sAbove) (defBody sAbove) (defScope sAbove) .none kVAbove dcAbove pmAbove anAbove cdAbove ctAbove), slAbove⟩)
    (cAbove : PySem.W.codeIn K cdAbove "_law_above" = true) (kAbove : PySem.W.keepIn K (.ref fAbove) = true)
    (aUps : PySem.W.nsIn K mainGlobals "_law_ups" = some (some (.ref fUps))) (lUps : K.lookup fUps = some ⟨ocUps, odUps, .func (PySem.W.fnOf "_law_ups" "_law_ups" (defArgs sUps) (defBody sUps) (defScope sUps) .none kVUps dcUps pmUps anUps cdUps ctUps), slUps⟩)
    (cUps : PySem.W.codeIn K cdUps "_law_ups" = true) (kUps : PySem.W.keepIn K (.ref fUps) = true)
    (aSpareName : PySem.W.nsIn K mainGlobals "_law_spare_name" = some (some (.ref fSpareName))) (lSpareName : K.lookup fSpareName = some ⟨ocSpareName, odSpareName, .func (PySem.W.fnOf "_law_spare_name" "_law_spare_name" (defArgs sSpareName) (defBody sSpareName) (defScope sSpareName) .none kVSpareName dcSpareName pmSpareName anSpareName cdSpareName ctSpareName), slSpareName⟩)
    (cSpareName : PySem.W.codeIn K cdSpareName "_law_spare_name" = true) (kSpareName : PySem.W.keepIn K (.ref fSpareName) = true)
    (aFew : PySem.W.nsIn K mainGlobals "_law_few" = some (some (.ref fFew))) (lFew : K.lookup fFew = some ⟨ocFew, odFew, .func (PySem.W.fnOf "_law_few" "_law_few" (defArgs sFew) (defBody sFew) (defScope sFew) .none kVFew dcFew pmFew anFew cdFew ctFew), slFew⟩)
    (cFew : PySem.W.codeIn K cdFew "_law_few" = true) (kFew : PySem.W.keepIn K (.ref fFew) = true)
    (aLineRight : PySem.W.nsIn K mainGlobals "_law_line_right" = some (some (.ref fLineRight))) (lLineRight : K.lookup fLineRight = some ⟨ocLineRight, odLineRight, .func (PySem.W.fnOf "_law_line_right" "_law_line_right" (defArgs sLineRight) (defBody sLineRight) (defScope sLineRight) .none kVLineRight dcLineRight pmLineRight anLineRight cdLineRight ctLineRight), slLineRight⟩)
    (cLineRight : PySem.W.codeIn K cdLineRight "_law_line_right" = true) (kLineRight : PySem.W.keepIn K (.ref fLineRight) = true)
    (aOthersRight : PySem.W.nsIn K mainGlobals "_law_others_right" = some (some (.ref fOthersRight))) (lOthersRight : K.lookup fOthersRight = some ⟨ocOthersRight, odOthersRight, .func (PySem.W.fnOf "_law_others_right" "_law_others_right" (defArgs sOthersRight) (defBody sOthersRight) (defScope sOthersRight) .none kVOthersRight dcOthersRight pmOthersRight anOthersRight cdOthersRight ctOthersRight), slOthersRight⟩)
    (cOthersRight : PySem.W.codeIn K cdOthersRight "_law_others_right" = true) (kOthersRight : PySem.W.keepIn K (.ref fOthersRight) = true)
    (aLaw : PySem.W.nsIn K mainGlobals "law" = some (some (.ref fLaw))) (lLaw : K.lookup fLaw = some ⟨ocLaw, odLaw, .func (PySem.W.fnOf "law" "law" (defArgs sLaw) (defBody sLaw) (defScope sLaw) .none kVLaw dcLaw pmLaw anLaw cdLaw ctLaw), slLaw⟩)
    (cLaw : PySem.W.codeIn K cdLaw "law" = true) (kLaw : PySem.W.keepIn K (.ref fLaw) = true)
    (aAInit : PySem.W.findIn K (.ref CA) "__init__" = some (some (.ref fAInit))) (lAInit : K.lookup fAInit = some ⟨ocAInit, odAInit, .func (PySem.W.fnOf "__init__" "Asker.__init__" (defArgs sAInit) (defBody sAInit) (defScope sAInit) .none kVAInit dcAInit pmAInit anAInit cdAInit ctAInit), slAInit⟩)
    (cAInit : PySem.W.codeIn K cdAInit "Asker.__init__" = true) (kAInit : PySem.W.keepIn K (.ref fAInit) = true)
    (aAEq : PySem.W.findIn K (.ref CA) "__eq__" = some (some (.ref fAEq))) (lAEq : K.lookup fAEq = some ⟨ocAEq, odAEq, .func (PySem.W.fnOf "__eq__" "Asker.__eq__" (defArgs sAEq) (defBody sAEq) (defScope sAEq) .none kVAEq dcAEq pmAEq anAEq cdAEq ctAEq), slAEq⟩)
    (cAEq : PySem.W.codeIn K cdAEq "Asker.__eq__" = true) (kAEq : PySem.W.keepIn K (.ref fAEq) = true)
    (aLInit : PySem.W.findIn K (.ref CL) "__init__" = some (some (.ref fLInit))) (lLInit : K.lookup fLInit = some ⟨ocLInit, odLInit, .func (PySem.W.fnOf "__init__" "Line.__init__" (defArgs sLInit) (defBody sLInit) (defScope sLInit) .none kVLInit dcLInit pmLInit anLInit cdLInit ctLInit), slLInit⟩)
    (cLInit : PySem.W.codeIn K cdLInit "Line.__init__" = true) (kLInit : PySem.W.keepIn K (.ref fLInit) = true)
    (aLEq : PySem.W.findIn K (.ref CL) "__eq__" = some (some (.ref fLEq))) (lLEq : K.lookup fLEq = some ⟨ocLEq, odLEq, .func (PySem.W.fnOf "__eq__" "Line.__eq__" (defArgs sLEq) (defBody sLEq) (defScope sLEq) .none kVLEq dcLEq pmLEq anLEq cdLEq ctLEq), slLEq⟩)
    (cLEq : PySem.W.codeIn K cdLEq "Line.__eq__" = true) (kLEq : PySem.W.keepIn K (.ref fLEq) = true)
    (aLLen : PySem.W.findIn K (.ref CL) "__len__" = some (some (.ref fLLen))) (lLLen : K.lookup fLLen = some ⟨ocLLen, odLLen, .func (PySem.W.fnOf "__len__" "Line.__len__" (defArgs sLLen) (defBody sLLen) (defScope sLLen) .none kVLLen dcLLen pmLLen anLLen cdLLen ctLLen), slLLen⟩)
    (cLLen : PySem.W.codeIn K cdLLen "Line.__len__" = true) (kLLen : PySem.W.keepIn K (.ref fLLen) = true)
    (aLAskers : PySem.W.findIn K (.ref CL) "askers" = some (some (.ref fLAskers))) (lLAskers : K.lookup fLAskers = some ⟨ocLAskers, odLAskers, .func (PySem.W.fnOf "askers" "Line.askers" (defArgs sLAskers) (defBody sLAskers) (defScope sLAskers) .none kVLAskers dcLAskers pmLAskers anLAskers cdLAskers ctLAskers), slLAskers⟩)
    (cLAskers : PySem.W.codeIn K cdLAskers "Line.askers" = true) (kLAskers : PySem.W.keepIn K (.ref fLAskers) = true)
    (aLNames : PySem.W.findIn K (.ref CL) "names" = some (some (.ref fLNames))) (lLNames : K.lookup fLNames = some ⟨ocLNames, odLNames, .func (PySem.W.fnOf "names" "Line.names" (defArgs sLNames) (defBody sLNames) (defScope sLNames) .none kVLNames dcLNames pmLNames anLNames cdLNames ctLNames), slLNames⟩)
    (cLNames : PySem.W.codeIn K cdLNames "Line.names" = true) (kLNames : PySem.W.keepIn K (.ref fLNames) = true)
    (aLKinds : PySem.W.findIn K (.ref CL) "kinds" = some (some (.ref fLKinds))) (lLKinds : K.lookup fLKinds = some ⟨ocLKinds, odLKinds, .func (PySem.W.fnOf "kinds" "Line.kinds" (defArgs sLKinds) (defBody sLKinds) (defScope sLKinds) .none kVLKinds dcLKinds pmLKinds anLKinds cdLKinds ctLKinds), slLKinds⟩)
    (cLKinds : PySem.W.codeIn K cdLKinds "Line.kinds" = true) (kLKinds : PySem.W.keepIn K (.ref fLKinds) = true)
    (aLAsk : PySem.W.findIn K (.ref CL) "asker" = some (some (.ref fLAsk))) (lLAsk : K.lookup fLAsk = some ⟨ocLAsk, odLAsk, .func (PySem.W.fnOf "asker" "Line.asker" (defArgs sLAsk) (defBody sLAsk) (defScope sLAsk) .none kVLAsk dcLAsk pmLAsk anLAsk cdLAsk ctLAsk), slLAsk⟩)
    (cLAsk : PySem.W.codeIn K cdLAsk "Line.asker" = true) (kLAsk : PySem.W.keepIn K (.ref fLAsk) = true)
    (aLPlace : PySem.W.findIn K (.ref CL) "place" = some (some (.ref fLPlace))) (lLPlace : K.lookup fLPlace = some ⟨ocLPlace, odLPlace, .func (PySem.W.fnOf "place" "Line.place" (defArgs sLPlace) (defBody sLPlace) (defScope sLPlace) .none kVLPlace dcLPlace pmLPlace anLPlace cdLPlace ctLPlace), slLPlace⟩)
    (cLPlace : PySem.W.codeIn K cdLPlace "Line.place" = true) (kLPlace : PySem.W.keepIn K (.ref fLPlace) = true)
    (aLWithout : PySem.W.findIn K (.ref CL) "without" = some (some (.ref fLWithout))) (lLWithout : K.lookup fLWithout = some ⟨ocLWithout, odLWithout, .func (PySem.W.fnOf "without" "Line.without" (defArgs sLWithout) (defBody sLWithout) (defScope sLWithout) .none kVLWithout dcLWithout pmLWithout anLWithout cdLWithout ctLWithout), slLWithout⟩)
    (cLWithout : PySem.W.codeIn K cdLWithout "Line.without" = true) (kLWithout : PySem.W.keepIn K (.ref fLWithout) = true)
    (aLPutIn : PySem.W.findIn K (.ref CL) "put_in" = some (some (.ref fLPutIn))) (lLPutIn : K.lookup fLPutIn = some ⟨ocLPutIn, odLPutIn, .func (PySem.W.fnOf "put_in" "Line.put_in" (defArgs sLPutIn) (defBody sLPutIn) (defScope sLPutIn) .none kVLPutIn dcLPutIn pmLPutIn anLPutIn cdLPutIn ctLPutIn), slLPutIn⟩)
    (cLPutIn : PySem.W.codeIn K cdLPutIn "Line.put_in" = true) (kLPutIn : PySem.W.keepIn K (.ref fLPutIn) = true)
    (qAName : PySem.W.findIn K (.ref CA) "name" = some (some (.ref pAName))) (aAName : ∃ rest, PySem.W.recIn K pAName "property" = some (.ref fAName :: rest)) (lAName : K.lookup fAName = some ⟨ocAName, odAName, .func (PySem.W.fnOf "name" "Asker.name" (defArgs sAName) (defBody sAName) (defScope sAName) .none kVAName dcAName pmAName anAName cdAName ctAName), slAName⟩)
    (cAName : PySem.W.codeIn K cdAName "Asker.name" = true) (kAName : PySem.W.keepIn K (.ref fAName) = true)
    (qAFits : PySem.W.findIn K (.ref CA) "fits" = some (some (.ref pAFits))) (aAFits : ∃ rest, PySem.W.recIn K pAFits "property" = some (.ref fAFits :: rest)) (lAFits : K.lookup fAFits = some ⟨ocAFits, odAFits, .func (PySem.W.fnOf "fits" "Asker.fits" (defArgs sAFits) (defBody sAFits) (defScope sAFits) .none kVAFits dcAFits pmAFits anAFits cdAFits ctAFits), slAFits⟩)
    (cAFits : PySem.W.codeIn K cdAFits "Asker.fits" = true) (kAFits : PySem.W.keepIn K (.ref fAFits) = true)
    (qAMost : PySem.W.findIn K (.ref CA) "most" = some (some (.ref pAMost))) (aAMost : ∃ rest, PySem.W.recIn K pAMost "property" = some (.ref fAMost :: rest)) (lAMost : K.lookup fAMost = some ⟨ocAMost, odAMost, .func (PySem.W.fnOf "most" "Asker.most" (defArgs sAMost) (defBody sAMost) (defScope sAMost) .none kVAMost dcAMost pmAMost anAMost cdAMost ctAMost), slAMost⟩)
    (cAMost : PySem.W.codeIn K cdAMost "Asker.most" = true) (kAMost : PySem.W.keepIn K (.ref fAMost) = true)
    (z0 : PySem.W.nsIn K mainGlobals "len" = some none)
    (z1 : PySem.W.nsIn K mainGlobals "isinstance" = some none)
    (z2 : PySem.W.nsIn K mainGlobals "int" = some none)
    (z3 : PySem.W.nsIn K mainGlobals "bool" = some none)
    (z4 : PySem.W.nsIn K mainGlobals "str" = some none)
    (z5 : PySem.W.nsIn K mainGlobals "list" = some none)
    (z6 : PySem.W.nsIn K mainGlobals "set" = some none)
    (z7 : PySem.W.nsIn K mainGlobals "all" = some none)
    (z8 : PySem.W.nsIn K mainGlobals "sorted" = some none)
    (z9 : PySem.W.nsIn K mainGlobals "tuple" = some none)
    (z10 : PySem.W.nsIn K mainGlobals "range" = some none)
    (z11 : PySem.W.nsIn K mainGlobals "min" = some none)
    (z12 : PySem.W.nsIn K mainGlobals "max" = some none)
    (z13 : PySem.W.nsIn K mainGlobals "sum" = some none)
    (z14 : PySem.W.nsIn K mainGlobals "repr" = some none)
    (y0 : PySem.W.nsIn K mainGlobals "any" = some none) (y1 : PySem.W.nsIn K mainGlobals "zip" = some none) (y2 : PySem.W.nsIn K mainGlobals "enumerate" = some none) (y3 : PySem.W.nsIn K mainGlobals "dict" = some none) (hA : clsAB K CA fAInit pAName fAName pAFits fAFits pAMost fAMost fAEq = true) (hL : clsLB K CL fLInit fLEq fLLen fLAskers fLNames fLKinds fLAsk fLPlace = true) (hL2 : clsLB2 K CL fLWithout fLPutIn = true) (hne : CL ≠ CA) :
    ∃ fd : FuncData, (∀ (s : Shared) (v : Value), BindsTo s fd ⟨[v], []⟩ [("_law_script", v)]) ∧ ∀ base : Heap, K.In base → base.Ns mainGlobals mg → FnG l.prog w K mg base CX0 8 fa fd ["_law_script"] (spLaw K) := by
  have e := hfa.symm.trans (PySem.W.mg_of X G aLaw)
  cases e
  have FWhole := fun_mk (st := sWhole) lWhole cWhole kWhole
  have FCount := fun_mk (st := sCount) lCount cCount kCount
  have FIsName := fun_mk (st := sIsName) lIsName cIsName kIsName
  have FUnlike := fun_mk (st := sUnlike) lUnlike cUnlike kUnlike
  have FAreNames := fun_mk (st := sAreNames) lAreNames cAreNames kAreNames
  have FIsExchange := fun_mk (st := sIsExchange) lIsExchange cIsExchange kIsExchange
  have FAreAskers := fun_mk (st := sAreAskers) lAreAskers cAreAskers kAreAskers
  have FNeedAsker := fun_mk (st := sNeedAsker) lNeedAsker cNeedAsker kNeedAsker
  have FNeedExchange := fun_mk (st := sNeedExchange) lNeedExchange cNeedExchange kNeedExchange
  have FRecalled := fun_mk (st := sRecalled) lRecalled cRecalled kRecalled
  have FNeedLine := fun_mk (st := sNeedLine) lNeedLine cNeedLine kNeedLine
  have FShare := fun_mk (st := sShare) lShare cShare kShare
  have FParents := fun_mk (st := sParents) lParents cParents kParents
  have FGroups := fun_mk (st := sGroups) lGroups cGroups kGroups
  have FForebears := fun_mk (st := sForebears) lForebears cForebears kForebears
  have FGroup := fun_mk (st := sGroup) lGroup cGroup kGroup
  have FParent := fun_mk (st := sParent) lParent cParent kParent
  have FForest := fun_mk (st := sForest) lForest cForest kForest
  have FTouched := fun_mk (st := sTouched) lTouched cTouched kTouched
  have FPurse := fun_mk (st := sPurse) lPurse cPurse kPurse
  have FMixed := fun_mk (st := sMixed) lMixed cMixed kMixed
  have FDraw := fun_mk (st := sDraw) lDraw cDraw kDraw
  have FPurses := fun_mk (st := sPurses) lPurses cPurses kPurses
  have FShuffled := fun_mk (st := sShuffled) lShuffled cShuffled kShuffled
  have FWord := fun_mk (st := sWord) lWord cWord kWord
  have FNames := fun_mk (st := sNames) lNames cNames kNames
  have FKinds := fun_mk (st := sKinds) lKinds cKinds kKinds
  have FLLinked := fun_mk (st := sLLinked) lLLinked cLLinked kLLinked
  have FIsNear := fun_mk (st := sIsNear) lIsNear cIsNear kIsNear
  have FGrown := fun_mk (st := sGrown) lGrown cGrown kGrown
  have FAbove := fun_mk (st := sAbove) lAbove cAbove kAbove
  have FUps := fun_mk (st := sUps) lUps cUps kUps
  have FSpareName := fun_mk (st := sSpareName) lSpareName cSpareName kSpareName
  have FFew := fun_mk (st := sFew) lFew cFew kFew
  have FLineRight := fun_mk (st := sLineRight) lLineRight cLineRight kLineRight
  have FOthersRight := fun_mk (st := sOthersRight) lOthersRight cOthersRight kOthersRight
  have FLaw := fun_mk (st := sLaw) lLaw cLaw kLaw
  have FAInit := fun_mk (st := sAInit) lAInit cAInit kAInit
  have FAEq := fun_mk (st := sAEq) lAEq cAEq kAEq
  have FLInit := fun_mk (st := sLInit) lLInit cLInit kLInit
  have FLEq := fun_mk (st := sLEq) lLEq cLEq kLEq
  have FLLen := fun_mk (st := sLLen) lLLen cLLen kLLen
  have FLAskers := fun_mk (st := sLAskers) lLAskers cLAskers kLAskers
  have FLNames := fun_mk (st := sLNames) lLNames cLNames kLNames
  have FLKinds := fun_mk (st := sLKinds) lLKinds cLKinds kLKinds
  have FLAsk := fun_mk (st := sLAsk) lLAsk cLAsk kLAsk
  have FLPlace := fun_mk (st := sLPlace) lLPlace cLPlace kLPlace
  have FLWithout := fun_mk (st := sLWithout) lLWithout cLWithout kLWithout
  have FLPutIn := fun_mk (st := sLPutIn) lLPutIn cLPutIn kLPutIn
  have FAName := fun_mk (st := sAName) lAName cAName kAName
  have FAFits := fun_mk (st := sAFits) lAFits cAFits kAFits
  have FAMost := fun_mk (st := sAMost) lAMost cAMost kAMost
  have DR : Drw K mg fMixed fDraw fMixed fShuffled fWord _ _ (PySem.W.fnOf "law" "law" (defArgs sLaw) (defBody sLaw) (defScope sLaw) .none kVLaw dcLaw pmLaw anLaw cdLaw ctLaw) _ _ := ⟨FMixed, FDraw, FShuffled, FWord, PySem.W.mg_of X G aMixed, PySem.W.mg_of X G aDraw, PySem.W.mg_of X G aShuffled, PySem.W.mg_of X G aWord⟩
  have CH : Chk K mg fIsName fUnlike _ _ := ⟨FIsName, FUnlike, PySem.W.mg_of X G aIsName, PySem.W.mg_of X G aUnlike⟩
  have CH2 : Chk2 K mg fWhole fAreNames _ _ := ⟨FWhole, FAreNames, PySem.W.mg_of X G aWhole, PySem.W.mg_of X G aAreNames⟩
  have CH3 : Chk3 K mg fNeedAsker fCount _ _ := ⟨FNeedAsker, FCount, PySem.W.mg_of X G aNeedAsker, PySem.W.mg_of X G aCount⟩
  have DO : Ord2 K mg fNeedLine fShare fParents fGroups fForebears fGroup fParent fForest fTouched _ _ _ _ _ _ _ _ _ := ⟨FNeedLine, FShare, FParents, FGroups, FForebears, FGroup, FParent, FForest, FTouched, PySem.W.mg_of X G aNeedLine, PySem.W.mg_of X G aShare, PySem.W.mg_of X G aParents, PySem.W.mg_of X G aGroups, PySem.W.mg_of X G aForebears, PySem.W.mg_of X G aGroup, PySem.W.mg_of X G aParent, PySem.W.mg_of X G aForest, PySem.W.mg_of X G aTouched⟩
  have DW : Own2 K mg fLLinked fIsNear fGrown fAbove fUps fSpareName _ _ _ _ _ _ := ⟨FLLinked, FIsNear, FGrown, FAbove, FUps, FSpareName, PySem.W.mg_of X G aLLinked, PySem.W.mg_of X G aIsNear, PySem.W.mg_of X G aGrown, PySem.W.mg_of X G aAbove, PySem.W.mg_of X G aUps, PySem.W.mg_of X G aSpareName⟩
  have DF : Defs K mg fPurse fPurses fNames fKinds fFew fLineRight fOthersRight fAreAskers fRecalled fNeedExchange fIsExchange _ _ _ _ _ _ _ _ _ _ _ := ⟨FPurse, FPurses, FNames, FKinds, FFew, FLineRight, FOthersRight, FAreAskers, FRecalled, FNeedExchange, FIsExchange, PySem.W.mg_of X G aPurse, PySem.W.mg_of X G aPurses, PySem.W.mg_of X G aNames, PySem.W.mg_of X G aKinds, PySem.W.mg_of X G aFew, PySem.W.mg_of X G aLineRight, PySem.W.mg_of X G aOthersRight, PySem.W.mg_of X G aAreAskers, PySem.W.mg_of X G aRecalled, PySem.W.mg_of X G aNeedExchange, PySem.W.mg_of X G aIsExchange⟩
  have B2 : Blt2 mg := ⟨PySem.W.mg_none_of X G y0, PySem.W.mg_none_of X G y1, PySem.W.mg_none_of X G y2, PySem.W.mg_none_of X G y3⟩
  have B : Blt mg := ⟨PySem.W.mg_none_of X G z0, PySem.W.mg_none_of X G z1, PySem.W.mg_none_of X G z2, PySem.W.mg_none_of X G z3, PySem.W.mg_none_of X G z4, PySem.W.mg_none_of X G z5, PySem.W.mg_none_of X G z6, PySem.W.mg_none_of X G z7, PySem.W.mg_none_of X G z8, PySem.W.mg_none_of X G z9, PySem.W.mg_none_of X G z10, PySem.W.mg_none_of X G z11, PySem.W.mg_none_of X G z12, PySem.W.mg_none_of X G z13, PySem.W.mg_none_of X G z14⟩
  exact ⟨PySem.W.fnOf "law" "law" (defArgs sLaw) (defBody sLaw) (defScope sLaw) .none kVLaw dcLaw pmLaw anLaw cdLaw ctLaw, fun s v => .of_eq rfl, fun base _ _ =>
    ok_law FLaw DR CH CH2 CH3 B B2 DO DW DF (clsAB_ok hA) (PySem.W.mg_of X G aA) FAName FAFits FAEq (clsLB_ok hL) (PySem.W.mg_of X G aL) FLEq FLNames FLPlace FLAskers hne FAInit FAMost FLInit (clsLB2_ok hL2) FLWithout FLPutIn⟩
end Eld
end L2
open PySem PySem.W PyProof.Rows
set_option maxHeartbeats 0 in
theorem PySem.Challenge.cw_elderlink_k20_whole_parents_and_forests_holds : PySem.Challenge.rw_elderlink_k20_whole_parents_and_forests.Holds := by
  w_on; o_law; k_head; (case hw => w_witness2)
  k_fill
  refine L2.Eld.walkG (l := PySem.Challenge.rw_elderlink_k20_whole_parents_and_forests) (n := 63) (k := 8) (x := "_law_script") (sp := fun w => L2.Eld.spLaw _) rfl (by decide) rfl ⟨rfl, by decide, by decide⟩ (fun w h Y => PySem.W.kIn_of Y) ?F (fun _ _ a ns hl _ hS => ⟨a, ns, rfl, hS, hl, fun _ => rfl⟩)
  case F =>
    intro w mg fa h KX G hmg
    refine' L2.Eld.all_mk KX G hmg ?aA ?aL ?aWhole ?lWhole ?cWhole ?kWhole ?aCount ?lCount ?cCount ?kCount ?aIsName ?lIsName ?cIsName ?kIsName ?aUnlike ?lUnlike ?cUnlike ?kUnlike ?aAreNames ?lAreNames ?cAreNames ?kAreNames ?aIsExchange ?lIsExchange ?cIsExchange ?kIsExchange ?aAreAskers ?lAreAskers ?cAreAskers ?kAreAskers ?aNeedAsker ?lNeedAsker ?cNeedAsker ?kNeedAsker ?aNeedExchange ?lNeedExchange ?cNeedExchange ?kNeedExchange ?aRecalled ?lRecalled ?cRecalled ?kRecalled ?aNeedLine ?lNeedLine ?cNeedLine ?kNeedLine ?aShare ?lShare ?cShare ?kShare ?aParents ?lParents ?cParents ?kParents ?aGroups ?lGroups ?cGroups ?kGroups ?aForebears ?lForebears ?cForebears ?kForebears ?aGroup ?lGroup ?cGroup ?kGroup ?aParent ?lParent ?cParent ?kParent ?aForest ?lForest ?cForest ?kForest ?aTouched ?lTouched ?cTouched ?kTouched ?aPurse ?lPurse ?cPurse ?kPurse ?aMixed ?lMixed ?cMixed ?kMixed ?aDraw ?lDraw ?cDraw ?kDraw ?aPurses ?lPurses ?cPurses ?kPurses ?aShuffled ?lShuffled ?cShuffled ?kShuffled ?aWord ?lWord ?cWord ?kWord ?aNames ?lNames ?cNames ?kNames ?aKinds ?lKinds ?cKinds ?kKinds ?aLLinked ?lLLinked ?cLLinked ?kLLinked ?aIsNear ?lIsNear ?cIsNear ?kIsNear ?aGrown ?lGrown ?cGrown ?kGrown ?aAbove ?lAbove ?cAbove ?kAbove ?aUps ?lUps ?cUps ?kUps ?aSpareName ?lSpareName ?cSpareName ?kSpareName ?aFew ?lFew ?cFew ?kFew ?aLineRight ?lLineRight ?cLineRight ?kLineRight ?aOthersRight ?lOthersRight ?cOthersRight ?kOthersRight ?aLaw ?lLaw ?cLaw ?kLaw ?aAInit ?lAInit ?cAInit ?kAInit ?aAEq ?lAEq ?cAEq ?kAEq ?aLInit ?lLInit ?cLInit ?kLInit ?aLEq ?lLEq ?cLEq ?kLEq ?aLLen ?lLLen ?cLLen ?kLLen ?aLAskers ?lLAskers ?cLAskers ?kLAskers ?aLNames ?lLNames ?cLNames ?kLNames ?aLKinds ?lLKinds ?cLKinds ?kLKinds ?aLAsk ?lLAsk ?cLAsk ?kLAsk ?aLPlace ?lLPlace ?cLPlace ?kLPlace ?aLWithout ?lLWithout ?cLWithout ?kLWithout ?aLPutIn ?lLPutIn ?cLPutIn ?kLPutIn ?qAName ?aAName ?lAName ?cAName ?kAName ?qAFits ?aAFits ?lAFits ?cAFits ?kAFits ?qAMost ?aAMost ?lAMost ?cAMost ?kAMost ?z0 ?z1 ?z2 ?z3 ?z4 ?z5 ?z6 ?z7 ?z8 ?z9 ?z10 ?z11 ?z12 ?z13 ?z14 ?y0 ?y1 ?y2 ?y3 ?hA ?hL ?hL2 ?hne
    (case aA => k_is); (case aL => k_is)
    (case aWhole => k_is); (case lWhole => k_is); (case cWhole => k_is); (case kWhole => k_is)
    (case aCount => k_is); (case lCount => k_is); (case cCount => k_is); (case kCount => k_is)
    (case aIsName => k_is); (case lIsName => k_is); (case cIsName => k_is); (case kIsName => k_is)
    (case aUnlike => k_is); (case lUnlike => k_is); (case cUnlike => k_is); (case kUnlike => k_is)
    (case aAreNames => k_is); (case lAreNames => k_is); (case cAreNames => k_is); (case kAreNames => k_is)
    (case aIsExchange => k_is); (case lIsExchange => k_is); (case cIsExchange => k_is); (case kIsExchange => k_is)
    (case aAreAskers => k_is); (case lAreAskers => k_is); (case cAreAskers => k_is); (case kAreAskers => k_is)
    (case aNeedAsker => k_is); (case lNeedAsker => k_is); (case cNeedAsker => k_is); (case kNeedAsker => k_is)
    (case aNeedExchange => k_is); (case lNeedExchange => k_is); (case cNeedExchange => k_is); (case kNeedExchange => k_is)
    (case aRecalled => k_is); (case lRecalled => k_is); (case cRecalled => k_is); (case kRecalled => k_is)
    (case aNeedLine => k_is); (case lNeedLine => k_is); (case cNeedLine => k_is); (case kNeedLine => k_is)
    (case aShare => k_is); (case lShare => k_is); (case cShare => k_is); (case kShare => k_is)
    (case aParents => k_is); (case lParents => k_is); (case cParents => k_is); (case kParents => k_is)
    (case aGroups => k_is); (case lGroups => k_is); (case cGroups => k_is); (case kGroups => k_is)
    (case aForebears => k_is); (case lForebears => k_is); (case cForebears => k_is); (case kForebears => k_is)
    (case aGroup => k_is); (case lGroup => k_is); (case cGroup => k_is); (case kGroup => k_is)
    (case aParent => k_is); (case lParent => k_is); (case cParent => k_is); (case kParent => k_is)
    (case aForest => k_is); (case lForest => k_is); (case cForest => k_is); (case kForest => k_is)
    (case aTouched => k_is); (case lTouched => k_is); (case cTouched => k_is); (case kTouched => k_is)
    (case aPurse => k_is); (case lPurse => k_is); (case cPurse => k_is); (case kPurse => k_is)
    (case aMixed => k_is); (case lMixed => k_is); (case cMixed => k_is); (case kMixed => k_is)
    (case aDraw => k_is); (case lDraw => k_is); (case cDraw => k_is); (case kDraw => k_is)
    (case aPurses => k_is); (case lPurses => k_is); (case cPurses => k_is); (case kPurses => k_is)
    (case aShuffled => k_is); (case lShuffled => k_is); (case cShuffled => k_is); (case kShuffled => k_is)
    (case aWord => k_is); (case lWord => k_is); (case cWord => k_is); (case kWord => k_is)
    (case aNames => k_is); (case lNames => k_is); (case cNames => k_is); (case kNames => k_is)
    (case aKinds => k_is); (case lKinds => k_is); (case cKinds => k_is); (case kKinds => k_is)
    (case aLLinked => k_is); (case lLLinked => k_is); (case cLLinked => k_is); (case kLLinked => k_is)
    (case aIsNear => k_is); (case lIsNear => k_is); (case cIsNear => k_is); (case kIsNear => k_is)
    (case aGrown => k_is); (case lGrown => k_is); (case cGrown => k_is); (case kGrown => k_is)
    (case aAbove => k_is); (case lAbove => k_is); (case cAbove => k_is); (case kAbove => k_is)
    (case aUps => k_is); (case lUps => k_is); (case cUps => k_is); (case kUps => k_is)
    (case aSpareName => k_is); (case lSpareName => k_is); (case cSpareName => k_is); (case kSpareName => k_is)
    (case aFew => k_is); (case lFew => k_is); (case cFew => k_is); (case kFew => k_is)
    (case aLineRight => k_is); (case lLineRight => k_is); (case cLineRight => k_is); (case kLineRight => k_is)
    (case aOthersRight => k_is); (case lOthersRight => k_is); (case cOthersRight => k_is); (case kOthersRight => k_is)
    (case aLaw => k_is); (case lLaw => k_is); (case cLaw => k_is); (case kLaw => k_is)
    (case aAInit => k_is); (case lAInit => k_is); (case cAInit => k_is); (case kAInit => k_is)
    (case aAEq => k_is); (case lAEq => k_is); (case cAEq => k_is); (case kAEq => k_is)
    (case aLInit => k_is); (case lLInit => k_is); (case cLInit => k_is); (case kLInit => k_is)
    (case aLEq => k_is); (case lLEq => k_is); (case cLEq => k_is); (case kLEq => k_is)
    (case aLLen => k_is); (case lLLen => k_is); (case cLLen => k_is); (case kLLen => k_is)
    (case aLAskers => k_is); (case lLAskers => k_is); (case cLAskers => k_is); (case kLAskers => k_is)
    (case aLNames => k_is); (case lLNames => k_is); (case cLNames => k_is); (case kLNames => k_is)
    (case aLKinds => k_is); (case lLKinds => k_is); (case cLKinds => k_is); (case kLKinds => k_is)
    (case aLAsk => k_is); (case lLAsk => k_is); (case cLAsk => k_is); (case kLAsk => k_is)
    (case aLPlace => k_is); (case lLPlace => k_is); (case cLPlace => k_is); (case kLPlace => k_is)
    (case aLWithout => k_is); (case lLWithout => k_is); (case cLWithout => k_is); (case kLWithout => k_is)
    (case aLPutIn => k_is); (case lLPutIn => k_is); (case cLPutIn => k_is); (case kLPutIn => k_is)
    (case qAName => k_is); (case aAName => exact ⟨_, by k_is⟩); (case lAName => k_is); (case cAName => k_is); (case kAName => k_is)
    (case qAFits => k_is); (case aAFits => exact ⟨_, by k_is⟩); (case lAFits => k_is); (case cAFits => k_is); (case kAFits => k_is)
    (case qAMost => k_is); (case aAMost => exact ⟨_, by k_is⟩); (case lAMost => k_is); (case cAMost => k_is); (case kAMost => k_is)
    (case z0 => k_is); (case z1 => k_is); (case z2 => k_is); (case z3 => k_is); (case z4 => k_is); (case z5 => k_is); (case z6 => k_is); (case z7 => k_is); (case z8 => k_is); (case z9 => k_is); (case z10 => k_is); (case z11 => k_is); (case z12 => k_is); (case z13 => k_is); (case z14 => k_is)
    (case y0 => k_is)
    (case y1 => k_is)
    (case y2 => k_is)
    (case y3 => k_is)
    (case hA => kernel_rfl)
    (case hL => kernel_rfl)
    (case hL2 => kernel_rfl)
    (case hne => decide)

