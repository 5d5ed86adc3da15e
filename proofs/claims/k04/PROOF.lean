import PyProof.Rows.All
import Wide.All
import OpenK.AllK
import Wide.FinOn
import PyProof.EqAt
import PyProof.EqKinds
import PyProof.TupleCall
import KE.KIsAll
import KE.KTryMore
import HandS.ForMost
import HandS.Exc
import HandS.ExcIs
import HandS.ExcInit
import HandS.ExcField
import HandS.ExcValue
import HandS.Defaults
import HandS.IsInst
import HandS.WideBits
import HandS.Wide
import PyProof.ReprRoads
import PyProof.ReprText
import HandS.Set
import HandS.SetFor
import HandS.Strs
import HandS.Zip
import HandS.SetBool
import HandS.Comp
import HandS.OwnEq
import HandS.Property
import HandS.Walk
import HandS.Style
import HandS.TupAny
import PyProof.NeKinds
import HandS.Star
import PySem.Challenge.RW_elderlink_k04_lines_changed
set_option Elab.async false
set_option linter.all false
set_option maxRecDepth 100000
set_option maxHeartbeats 4000000
namespace PySem
namespace EldX
open PySem.W PySem.Calls PyProof.Rows PySem.HandSPX
open Builtin Builtin.ObjectAttr
section
variable {prog : Program} {w : World} {A : Around} {E : Value → Shared → Prop} {R : Result → Shared → Prop} {h : Heap} {g : Array GenState} {d : Drawn} {t : Nat} {os : OsState}
variable {nm q : Str} {C N : Addr} {bs bm bmB : List Value} {hdct : Bool} {sn : List Str} {sub : List Value} {ab : Bool} {col : Option Bool} {dd : Option Addr} {k0 k1 k2 k3 k5 : Option Value} {B newId initId : String}
/-- a keyword beside the class is let through by the maker's look -/
theorem chk_kw {M : Model} (F : ExcBaseFacts B newId initId bmB) (hT : ∀ X : String, bm.contains (.type X) = bmB.contains (.type X)) {x : Str} {v : Value} {Q : Unit → Shared → Prop}
    (hC : h.get? C = some (excClassObj nm q C N bs bm hdct sn sub ab col dd k0 k1 k2 k3 k5 newId)) (hq : Q () ⟨h, g, d, t, os⟩) :
    wpAny M A (checkBuiltinCall newId ⟨[.ref C], [(x, v)]⟩) Q E ⟨h, g, d, t, os⟩ := by
  have hB : (Value.ref C :: bm).contains (.type B) = true := by
    rw [List.contains_cons, hT, F.hasB, Bool.or_true]
  have hs := F.noStar
  simp only [checkBuiltinCall, F.newKind, F.newSplit, F.newRow]
  repeat (first
    | refine wpAny_loadPart_at hC ?_
    | (refine wpAny_isSubtype_exc hC ?_; rw [hB])
    | refine wpAny_staticBase_exc hC ?_
    | refine wpAny_madeBy_exc hC ?_
    | simp only [bne_self_eq_false, Bool.false_eq_true, if_false]
    | wp_step)
  exact hq
/-- the maker's own run with one keyword: it sees the class alone -/
theorem new_kw (F : ExcBaseFacts B newId initId bmB) (hT : ∀ X : String, bm.contains (.type X) = bmB.contains (.type X)) {x : Str} {v : Value}
    (hC : h.get? C = some (excClassObj nm q C N bs bm hdct sn sub ab col dd k0 k1 k2 k3 k5 newId))
    (hq : R (.ok (.ret (.ref (h.objs.size + 1)))) ⟨(h.push (W.kdv_tup [])).push (excO C h.objs.size), g, d, t, os⟩) :
    codeAny (model prog w) A (.builtin newId ⟨[.ref C], [(x, v)]⟩) R ⟨h, g, d, t, os⟩ := by
  have he := F.ends
  have cB : (Value.ref C :: bm).contains (.type B) = true := by
    rw [List.contains_cons, hT, F.hasB, Bool.or_true]
  have cA : (Value.ref C :: bm).contains (.type "AttributeError") = false := by
    rw [List.contains_cons, hT, F.noAttr]
    rfl
  have cN : (Value.ref C :: bm).contains (.type "NameError") = false := by
    rw [List.contains_cons, hT, F.noName]
    rfl
  refine codeAny_builtinAt F.entry ?_
  unfold Builtin.«BaseException.__new__»
  refine wpAt_bind ?_
  show wpAt _ _ _ (stack >>= _) _ _ _
  refine wpAt_bind (wpAt_stack fun _ _ => wpAt_of_wpAny ?_)
  wp_walk
  refine wpAt_of_wpAny ?_
  rw [F.owner]
  repeat (first
    | with_reducible refine wpAny_madeHere_exc F.canon hC ?_
    | with_reducible refine wpAny_loadPart_at hC ?_
    | (with_reducible refine wpAny_isSubtype_exc hC ?_; first | rw [cB] | rw [cA] | rw [cN])
    | wp_step)
  show R _ _
  rw [Heap.size_push]
  exact hq
theorem type_call_kw (F : ExcBaseFacts B newId initId bmB) (hT : ∀ X : String, bm.contains (.type X) = bmB.contains (.type X)) {x : Str} {v : Value} {fI : Addr} {Q : Fin → Shared → Prop}
    (hC : h.get? C = some (excClassObj nm q C N bs bm hdct sn sub ab col dd k0 k1 k2 k3 k5 newId))
    (hi : W.Looks (model prog w) h (typeLookup (.ref C) "__init__") (some (.ref fI))) (hb : ∀ self, W.Looks (model prog w) h (bindSpecial (.ref fI) self) (.ref fI, [self]))
    (hq : codeAny (model prog w) A (.call (.ref fI) ⟨[.ref (h.objs.size + 1)], [(x, v)]⟩)
      (fun r s' => match r with | .ok (.ret u) => u = .none ∧ Q (.done (.ret (.ref (h.objs.size + 1)))) s' | .ok _ => False | .error e => E e s')
      ⟨(h.push (W.kdv_tup [])).push (excO C h.objs.size), g, d, t, os⟩) :
    wpAny (model prog w) A (Builtin.«type.__call__» ⟨[.ref C], [(x, v)]⟩) Q E ⟨h, g, d, t, os⟩ := by
  repeat (first
    | with_reducible refine wpAny_loadPart_at hC ?_
    | with_reducible refine wpAny_madeBy_exc hC ?_
    | wp_step)
  refine codeAny_call_builtin_code (Code.quiet_builtin _ F.quiet) (chk_kw F hT hC ?_)
  refine new_kw F hT hC ?_
  show wpAny _ _ _ _ _ _
  have keep : ∀ b o, h.get? b = some o → ((h.push (W.kdv_tup [])).push (excO C h.objs.size)).get? b = some o := fun b o e =>
    Heap.get?_push_of_some _ (Heap.get?_push_of_some _ e)
  have hC' := keep _ _ hC
  have new : ((h.push (W.kdv_tup [])).push (excO C h.objs.size)).get? (h.objs.size + 1) = some (excO C h.objs.size) := by heap_get
  have self : (Value.ref C :: bm).contains (.ref C) = true := by simp
  have i' := hi.keeps keep
  have b' := (hb (.ref (h.objs.size + 1))).keeps keep
  unfold isInstance
  repeat (first
    | with_reducible refine wpAny_loadPart_at new ?_
    | (with_reducible refine wpAny_isSubtype_exc hC' ?_; rw [self])
    | wp_step)
  show wpAny _ _ (typeLookup (.ref C) _) _ _ _
  refine i'.at ?_
  refine wpAny_holding (wpAny_bind (b'.at ?_))
  refine wpAny_bind (wpAny_call (codeAny_mono hq fun r s' z => ?_))
  rcases r with e | (u | _ | _ | _) <;> first | exact z | exact z.elim | skip
  obtain ⟨rfl, z⟩ := z
  first
    | exact wpAny_pure (wpAny_pure z)
    | (wp_walk; exact z)
/-- C(x = v) for an own exception class with its own __init__ -/
theorem call_kw (F : ExcBaseFacts B newId initId bmB) (hT : ∀ X : String, bm.contains (.type X) = bmB.contains (.type X)) {x : Str} {v : Value} {fI : Addr}
    (hC : h.get? C = some (excClassObj nm q C N bs bm hdct sn sub ab col dd k0 k1 k2 k3 k5 newId))
    (hi : W.Looks (model prog w) h (typeLookup (.ref C) "__init__") (some (.ref fI))) (hb : ∀ self, W.Looks (model prog w) h (bindSpecial (.ref fI) self) (.ref fI, [self]))
    (hq : codeAny (model prog w) (A.under (.builtin "type.__call__" ⟨[.ref C], [(x, v)]⟩)) (.call (.ref fI) ⟨[.ref (h.objs.size + 1)], [(x, v)]⟩) (W.InitBack (h.objs.size + 1) R)
      ⟨(h.push (W.kdv_tup [])).push (excO C h.objs.size), g, d, t, os⟩) :
    codeAny (model prog w) A (.call (.ref C) ⟨[], [(x, v)]⟩) R ⟨h, g, d, t, os⟩ := by
  have f1 := tc_lookup
  have f2 := tc_bind (.ref C)
  have ty : (⟨h, g, d, t, os⟩ : Shared).TypeIs (.ref C) "type" := ⟨_, hC, rfl⟩
  refine codeAny_of_tree ?_
  show wpAny _ _ (callAny (.ref C) _) _ _ _
  repeat (any_goals (first
    | assumption
    | with_reducible refine wpAny_loadPart_at hC ?_
    | wp_step))
  refine ⟨rfl, ?_⟩
  refine codeAny_call_builtin_at (Code.quiet_builtin _ (by decide +kernel)) entry_typeCall (wpAny_check_type_call_sub hC (type_call_kw F hT hC hi hb ?_))
  refine codeAny_mono hq fun r s' z => ?_
  rcases r with e | (u | _ | _ | _) <;> exact z
end
end EldX
end PySem

set_option Elab.async false
set_option linter.all false
set_option maxRecDepth 100000
set_option maxHeartbeats 4000000
namespace PySem
namespace EldX
open PySem.W PySem.Calls PyProof.Rows PySem.HandSPX
/-! ### the text of an error's __init__(self, value=None): self.value = value -/
def eA (p1 p2 p3 : Pos) (k : Nat) : Arguments :=
  { posonlyargs := [], args := [{ arg := "self", annotation := none, pos := p1 }, { arg := "value", annotation := none, pos := p2 }],
    vararg := none, kwonlyargs := [], kw_defaults := [], kwarg := none, defaults := [.Constant .none k p3] }
def eB (q1 q2 q3 q4 : Pos) : List Stmt :=
  [.Assign [.Attribute (.Name "self" q1) "value" q2] (.Name "value" q3) q4]
def eS : Scope :=
  { kind := .function, names := [(PySem.Str.ofString "self", .local), (PySem.Str.ofString "value", .local)],
    isGenerator := false, isCoroutine := false, more := [] }
/-- what the written part says of an error's class at C -/
structure ErrC (K : Frag) (C : Addr) : Prop where
  cls : ∃ nm q N bs bm sn sub ab col dd k0 k1 k2 k3 k5,
    K.lookup C = some (excClassObj nm q C N bs bm true sn sub ab col dd k0 k1 k2 k3 k5 "ValueError.__new__") ∧ refsVE bm = true
  sa : findIn K (.ref C) "__setattr__" = some (some (.builtin "object.__setattr__"))
  ga : findIn K (.ref C) "__getattribute__" = some (some (.builtin "BaseException.__getattribute__"))
  gg : findIn K (.ref C) "__getattr__" = some none
  ex : subIn K (.ref C) (.type "BaseException") = some true
  ha : findIn K (.ref C) "__class__" = some (some (.builtin "object.__class__"))
  ob : mroIn K C (.type "object") = some true
  hd : hasDictIn K C = true
  kp : keepIn K (.ref C) = true
/-- .. and of its own __init__ -/
structure ErrI (K : Frag) (C : Addr) : Prop where
  no : findIn K (.ref C) "value" = some none
  fn : ∃ (f : Addr) (q : Str) (oc : Value) (od : Option Addr) (T : Addr) (oT : Obj) (n : Nat) (kV doc pm : Value) (an : Option Addr) (cdv ct : Value) (osl : Array (Option Value)) (p1 p2 p3 q1 q2 q3 q4 : Pos) (kk : Nat),
    findIn K (.ref C) "__init__" = some (some (.ref f)) ∧ typeIn K (.ref f) = some (.type "function") ∧
    K.lookup f = some ⟨oc, od, .func (fnOf "__init__" q (eA p1 p2 p3 kk) (eB q1 q2 q3 q4) eS (.ref T) kV doc pm an cdv ct), osl⟩ ∧
    codeIn K cdv q = true ∧ K.lookup T = some oT ∧ oT.data = .seq #[.none] n
/-- how the two parameters may be bound: by place, by name, not at all -/
inductive Given (v : Value) : List Value → List (Str × Value) → Prop where
  | place : Given v [v] []
  | name : Given v [] [("value", v)]
  | none (h : v = .none) : Given v [] []
section
variable {s : Shared} {K : Frag} {T : Addr} {oT : Obj} {n : Nat} {q : Str} {kV doc pm cdv ct self v : Value} {an : Option Addr} {p1 p2 p3 q1 q2 q3 q4 : Pos} {kk : Nat}
theorem binds_given (X : K.In s.heap) (lT : K.lookup T = some oT) (eT : oT.data = .seq #[.none] n) {us : List Value} {kw : List (Str × Value)} (g : Given v us kw) :
    BindsTo s (fnOf "__init__" q (eA p1 p2 p3 kk) (eB q1 q2 q3 q4) eS (.ref T) kV doc pm an cdv ct) ⟨self :: us, kw⟩ [("self", self), ("value", v)] := by
  refine L2.BindsTo.of_looks fun M => ?_
  cases g with
  | place =>
    have e : ∃ k, bindArgs (fnOf "__init__" q (eA p1 p2 p3 kk) (eB q1 q2 q3 q4) eS (.ref T) kV doc pm an cdv ct) ⟨[self, v], []⟩ = seqItems? (.ref T) >>= k ∧
        k (some #[.none]) = (pure [(("self" : Str), self), ("value", v)] : Sem (List (Str × Value))) := by
      refine ⟨_, rfl, ?_⟩
      first | rfl | with_unfolding_all rfl | kernel_rfl
    obtain ⟨k, e1, e2⟩ := e
    rw [e1]
    exact L2.looks_items X lT eT (.of_pure e2)
  | name =>
    have e : ∃ k, bindArgs (fnOf "__init__" q (eA p1 p2 p3 kk) (eB q1 q2 q3 q4) eS (.ref T) kV doc pm an cdv ct) ⟨[self], [("value", v)]⟩ = seqItems? (.ref T) >>= k ∧
        k (some #[.none]) = (pure [(("self" : Str), self), ("value", v)] : Sem (List (Str × Value))) := by
      refine ⟨_, rfl, ?_⟩
      first | rfl | with_unfolding_all rfl | kernel_rfl
    obtain ⟨k, e1, e2⟩ := e
    rw [e1]
    exact L2.looks_items X lT eT (.of_pure e2)
  | none h =>
    subst h
    have e : ∃ k, bindArgs (fnOf "__init__" q (eA p1 p2 p3 kk) (eB q1 q2 q3 q4) eS (.ref T) kV doc pm an cdv ct) ⟨[self], []⟩ = seqItems? (.ref T) >>= k ∧
        k (some #[.none]) = (pure [(("self" : Str), self), ("value", Value.none)] : Sem (List (Str × Value))) := by
      refine ⟨_, rfl, ?_⟩
      first | rfl | with_unfolding_all rfl | kernel_rfl
    obtain ⟨k, e1, e2⟩ := e
    rw [e1]
    exact L2.looks_items X lT eT (.of_pure e2)
end
/-- what is made: a new error at e, its dict at d -/
structure Made (h h' : Heap) (e C d : Addr) (v : Value) : Prop where
  keep : ∀ b o, h.get? b = some o → h'.get? b = some o
  new : h.get? e = none
  dnew : h.get? d = none
  ne : d ≠ e
  obj : ∃ t, h'.get? e = some { cls := .ref C, dict := some d, data := .fields #[.ref t, .none, .none, .none, .bool false, .none] }
  ns : h'.Ns1 d (fun y => if y = "value" then some v else none)
section
variable {prog : Program} {w : World} {A : Around} {E : Value → Shared → Prop} {R : Result → Shared → Prop} {s : Shared} {K : Frag} {C : Addr}
theorem load_local {M : Model} {s : Shared} {name : Str} {scope : Scope} {L a : Addr} {cd : Value} {m : Str → Option Value} {x : Str} {pos : Pos} {v : Value} {Q : Value → Shared → Prop} {A : Around} {E : Value → Shared → Prop}
    (hn : s.heap.Ns L m) (hv : m x = some v) (h : Q v s) (hk : scope.kind = .function := by rfl) (hl : (envOfC name scope L a cd).kindOf x = some .local := by rfl) (hd : (x == ("__debug__" : Str)) = false := by decide) :
    wpAny M A (eval (.Name x pos) (envOfC name scope L a cd)) Q E s :=
  wpAny_Name (wpAny_loadName_local hk hl hn hv h) hd
/-- __init__ runs on a fresh error at x -/
theorem init_run (T : ErrC K C) {f T0 : Addr} {oT : Obj} {n : Nat} {q : Str} {oc kV doc pm cdv ct : Value} {od an : Option Addr} {osl : Array (Option Value)} {p1 p2 p3 q1 q2 q3 q4 : Pos} {kk : Nat}
    (ho : K.lookup f = some ⟨oc, od, .func (fnOf "__init__" q (eA p1 p2 p3 kk) (eB q1 q2 q3 q4) eS (.ref T0) kV doc pm an cdv ct), osl⟩) (hcd : codeIn K cdv q = true) (lT : K.lookup T0 = some oT) (eT : oT.data = .seq #[.none] n)
    (hno : findIn K (.ref C) "value" = some none) {x t0 : Addr} {v : Value} {us : List Value} {kw : List (Str × Value)} (gv : Given v us kw) (X : K.In s.heap) (hlim : s.heap.NoLimit) (hx : s.heap.get? x = some (excO C t0)) (hroom : A.depth < recursionLimit)
    (hq : ∀ h' tk dx, (∀ b o, b ≠ x → s.heap.get? b = some o → h'.get? b = some o) → s.heap.objs.size ≤ dx → dx ≠ x →
      h'.get? x = some { cls := .ref C, dict := some dx, data := .fields #[.ref t0, .none, .none, .none, .bool false, .none] } → h'.Ns1 dx (fun y => if y = "value" then some v else none) → R (.ok (.ret .none)) { s with heap := h', toks := tk }) :
    codeAny (model prog w) A (.call (.ref f) ⟨.ref x :: us, kw⟩) R s := by
  obtain ⟨nm, qq, N, bs, bm, sn, sub, ab, col, dd, k0, k1, k2, k3, k5, hC, hbm⟩ := T.cls
  have hcl : clsIn K C = some { name := nm, bases := bs, mro := .ref C :: bm, ns := N, qualname := qq, hasDict := true, slotNames := sn, subclasses := sub, abstract := ab, collection := col, hasDel := false } := by
    unfold clsIn
    rw [hC] <;> rfl
  refine Att.call_fn (binds := [("self", .ref x), ("value", v)]) X hlim ho hcd hroom (binds_given X lT eT gv) (by first | rfl | decide | with_unfolding_all rfl) (fun s₁ IC => ?_) rfl rfl rfl
  obtain ⟨h₁, tk₁, rfl⟩ := IC.toInCall.same
  have keep : ∀ b o, s.heap.get? b = some o → h₁.get? b = some o := IC.toInCall.keep
  have hn := IC.toInCall.ns
  have hne : s.heap.objs.size ≠ x := Nat.ne_of_gt (Heap.lt_size hx)
  have X₁ : K.In h₁ := X.keeps keep
  have hx₁ := keep _ _ hx
  show wpAny _ _ (execs _ _) _ _ _
  refine wpAny_execs_cons (plainObj_wpAny_Assign_Attribute ?_)
  refine load_local (v := v) hn (by first | rfl | with_unfolding_all rfl | kernel_rfl) (load_local (v := .ref x) hn (by first | rfl | with_unfolding_all rfl | kernel_rfl) ?_)
  refine set_plain X₁ (ox := excO C t0) (od := none) ⟨hx₁, rfl, rfl, trivial⟩ T.sa ?_
  refine exc_osa X₁ hx₁ hcl (show refsVE (.ref C :: bm) = true from hbm) rfl hno (fun h₃ tk₃ dx k₃ dn dne hx₃ hn₃ => ?_)
  show wpAny _ _ (execs _ _) _ _ _
  have lt : s.heap.objs.size < h₁.objs.size := hn.lt
  exact wpAny_execs_nil (hq h₃ tk₃ dx (fun b o hb e => k₃ b o hb (keep b o e)) (Nat.le_of_lt (Nat.lt_of_lt_of_le lt dn)) dne hx₃ hn₃)
/-- an error's class is called -/
theorem made_run (T : ErrC K C) (TI : ErrI K C) {v : Value} {us : List Value} {kw : List (Str × Value)} (gv : Given v us kw) (X : K.In s.heap) (hlim : s.heap.NoLimit) (hroom : A.depth + 1 < recursionLimit)
    (hq : ∀ h' tk e d, Made s.heap h' e C d v → R (.ok (.ret (.ref e))) { s with heap := h', toks := tk }) :
    codeAny (model prog w) A (.call (.ref C) ⟨us, kw⟩) R s := by
  obtain ⟨nm, qq, N, bs, bm, sn, sub, ab, col, dd, k0, k1, k2, k3, k5, hC, hbm⟩ := T.cls
  obtain ⟨f, q, oc, od, T0, oT, n, kV, doc, pm, an, cdv, ct, osl, p1, p2, p3, q1, q2, q3, q4, kk, iC, tf, ho, hcd, lT, eT⟩ := TI.fn
  obtain ⟨hp, g, dr, tk, os⟩ := s
  have fin : ∀ (xs : List Value) (A' : Around), A'.depth < recursionLimit →
      codeAny (model prog w) A' (.call (.ref f) ⟨.ref (hp.objs.size + 1) :: us, kw⟩) (W.InitBack (hp.objs.size + 1) R) ⟨(hp.push (W.kdv_tup xs)).push (excO C hp.objs.size), g, dr, tk, os⟩ := by
    intro xs A' hA
    have keep : ∀ b o, hp.get? b = some o → ((hp.push (W.kdv_tup xs)).push (excO C hp.objs.size)).get? b = some o := fun b o e =>
      Heap.get?_push_of_some _ (Heap.get?_push_of_some _ e)
    have new : ((hp.push (W.kdv_tup xs)).push (excO C hp.objs.size)).get? (hp.objs.size + 1) = some (excO C hp.objs.size) := by heap_get
    refine init_run (s := ⟨(hp.push (W.kdv_tup xs)).push (excO C hp.objs.size), g, dr, tk, os⟩) T ho hcd lT eT TI.no gv (X.keeps keep) (hlim.keeps keep) new hA fun h' tk' dx k' dn dne hx hns => ?_
    have big : hp.objs.size + 1 + 1 ≤ dx := by
      have z := dn
      first
        | exact z
        | (rw [Heap.size_push, Heap.size_push] at z; exact z)
    have old : ∀ b o, hp.get? b = some o → h'.get? b = some o := fun b o e => k' b o (Nat.ne_of_lt (Nat.lt_succ_of_lt (Heap.lt_size e))) (keep b o e)
    have none_of : ∀ b, hp.objs.size ≤ b → hp.get? b = none := fun b hb => by
      cases e : hp.get? b with
      | none => rfl
      | some o => exact absurd (Heap.lt_size e) (Nat.not_lt.mpr hb)
    exact ⟨rfl, hq h' tk' (hp.objs.size + 1) dx ⟨old, none_of _ (Nat.le_succ _), none_of _ (by omega), dne, ⟨_, hx⟩, hns⟩⟩
  have hi := looks_findIn (M := model prog w) X iC
  have hb : ∀ self, W.Looks (model prog w) hp (bindSpecial (.ref f) self) (.ref f, [self]) := fun self => bind_fn X self tf
  cases gv with
  | place =>
    refine HandSPX.call_own F.excBase_ValueError (fun X => refsVE_contains X bm hbm) (X _ _ hC) hi hb (by rw [sizeLine_eq]; exact (by decide : 1 ≤ 16777216)) ?_
    exact fin [v] _ (by show A.depth + 1 < recursionLimit; exact hroom)
  | name =>
    refine call_kw F.excBase_ValueError (fun X => refsVE_contains X bm hbm) (X _ _ hC) hi hb ?_
    exact fin [] _ (by show A.depth + 1 < recursionLimit; exact hroom)
  | none h =>
    refine HandSPX.call_own F.excBase_ValueError (fun X => refsVE_contains X bm hbm) (X _ _ hC) hi hb (Nat.zero_le _) ?_
    exact fin [] _ (by show A.depth + 1 < recursionLimit; exact hroom)
end
end EldX
end PySem

set_option Elab.async false
set_option linter.all false
set_option maxRecDepth 100000
set_option maxHeartbeats 4000000
/-! ## errors as tracked values -/
namespace L2
namespace Eld
open PySem PySem.Spec PyProof.Rows PySem.EldX
section
variable {X : Cx} {pins : List (Addr × Obj)} {σ : St} {H : Hp} {s : Shared} {h' : Heap} {d e : Addr} {od oe : HO}
theorem un_two {fs ex : List Addr} {h : Heap} (k : ∀ b u, h.get? b = some u → h'.get? b = some u) (gd : h.get? d = none) (ge : h.get? e = none) (nd : H d = none) (ne : H e = none) :
    Un fs ex H (upd (upd H d od) e oe) h h' where
  keep := fun b u q _ _ _ => k b u q
  slot := fun b u q _ _ _ => ⟨u.slots, k b u q⟩
  free := fun b u q n _ => by
    rw [upd_ne (fun z => by rw [z, ge] at q; cases q), upd_ne (fun z => by rw [z, gd] at q; cases q)]
    exact n
  there := fun b u q _ => ⟨u, k b u q⟩
  tups := fun b xs q => by
    rw [upd_ne (ne_of_none q ne), upd_ne (ne_of_none q nd)]
    exact q
  frzs := fun b u xs q => by
    rw [upd_ne (ne_of_none q ne), upd_ne (ne_of_none q nd)]
    exact q
  tbls := fun b ps q => ⟨#[], by rw [upd_ne (ne_of_none q ne), upd_ne (ne_of_none q nd), q]; simp⟩
theorem inv_two {t' : Nat} (I : Inv X pins σ H s) (k : ∀ b u, s.heap.get? b = some u → h'.get? b = some u) (gd : s.heap.get? d = none) (ge : s.heap.get? e = none)
    (od_ok : ObjOk X.prog X.w (upd (upd H d od) e oe) h' d od) (oe_ok : ObjOk X.prog X.w (upd (upd H d od) e oe) h' e oe) :
    Inv X pins σ (upd (upd H d od) e oe) { s with heap := h', toks := t' } := by
  have nd := I.hok.gone gd
  have ne := I.hok.gone ge
  refine I.un (un_two k gd ge nd ne) fun b u q => ?_
  by_cases hb : b = e
  · subst hb
    rw [upd_same] at q
    cases q
    exact oe_ok
  · rw [upd_ne hb] at q
    by_cases hd : b = d
    · subst hd
      rw [upd_same] at q
      cases q
      exact od_ok
    · rw [upd_ne hd] at q
      exact (I.hok b u q).stay (fun c v _ z => k c v z) (fun c z => by rw [upd_ne (ne_of_none z ne), upd_ne (ne_of_none z nd)]; exact z)
        fun c xs z => by rw [upd_ne (ne_of_none z ne), upd_ne (ne_of_none z nd)]; exact z
end
/-- the field's dict -/
abbrev fld (v : V) : List (Str × V) := [(("value" : Str), v)]
/-- the heap with a new error of the class at C, its dict at d -/
def mkErr (H : Hp) (C e d : Addr) (v : V) : Hp := upd (upd H d (exd d (fld v))) e (exo e C (some d))
/-- what is asked of the making of C(v) -/
def rErr (C : Addr) (v : V) (H : Hp) (Q : VK) : Prop := ∀ e d : Addr, H e = none → H d = none → d ≠ e → Q (.ref e) (mkErr H C e d v)
section
variable {X : Cx} {pins : List (Addr × Obj)} {σ : St} {H : Hp} {s : Shared} {C : Addr}
theorem err_end {Q : VK} {e d : Addr} {h' : Heap} {tk : Nat} {v : V} {u : Value} (I : Inv X pins σ H s) (rv : RelV v u) (M : Made s.heap h' e C d u) (q : rErr C v H Q) :
    EP X pins σ Q (.ref e) { s with heap := h', toks := tk } := by
  obtain ⟨t, ho⟩ := M.obj
  have ne := I.hok.gone M.new
  have nd := I.hok.gone M.dnew
  exact ⟨.ref e, mkErr H C e d v, inv_two I M.keep M.dnew M.new (exd_ok M.ns (relO_put (fs := []) rv fun g => True.intro)) (exo_ok ho), rfl, q e d ne nd M.ne⟩
variable {x : Str} {a : Expr} {ta : TA} {p pos : Pos} {k : Nat}
/-- C(e) -/
theorem pe_err1 (T : ErrC X.K C) (TI : ErrI X.K C) (hr : Room k X.A) (hm : X.mg x = some (.ref C)) (ha : PA X [a] ta) (hg : Gl X x := by rfl)
    (hdb : (x == ("__debug__" : Str)) = false := by decide) (he : starEach (a :: []) X.env = (false, eval a X.env) :: starEach [] X.env := by rfl) (hpl : (backTo pos (starEach [] X.env)).any (·.1) = false := by rfl) :
    PE X (.Call (.Name x p) [a] [] pos) (fun σ H Q => ta σ H fun vs H1 => ∃ v, vs = [v] ∧ rErr C v H1 Q) := by
  refine ⟨fun pins s σ H Q I h => ?_⟩
  refine wpAny_Call_Name_kw (ld_glob I hg hm ?_ hdb)
  refine PySem.W.callWith_K (h₀ := X.base) I.ok.mod.kin T.kp (thn (ha.run pos pins s σ H _ I h) fun us s1 ⟨vs, H1, I1, r1, v, ev, q1⟩ => ⟨I1.kIn, ?_⟩) he hpl
  subst ev
  cases r1 with
  | cons rv rn =>
    cases rn
    show wpAny _ _ (call (.ref C) [_]) _ _ _
    exact wpAny_call (made_run T TI .place I1.kIn I1.nolimit (by have := hr.dp; omega) fun h' tk e d M => err_end I1 rv M q1)
/-- C() -/
theorem pe_err0 (T : ErrC X.K C) (TI : ErrI X.K C) (hr : Room k X.A) (hm : X.mg x = some (.ref C)) (hg : Gl X x := by rfl) (hdb : (x == ("__debug__" : Str)) = false := by decide) :
    PE X (.Call (.Name x p) [] [] pos) (fun σ H Q => rErr C .non H Q) := by
  refine ⟨fun pins s σ H Q I h => ?_⟩
  refine wpAny_Call_Name_kw (ld_glob I hg hm ?_ hdb)
  refine PySem.W.callWith_K0 I.kIn T.kp ?_
  show wpAny _ _ (call (.ref C) []) _ _ _
  exact wpAny_call (made_run T TI (.none rfl) I.kIn I.nolimit (by have := hr.dp; omega) fun h' tk e d M => err_end (v := .non) I rfl M h)
/-- C(value = e) -/
theorem pe_errK {kws : List Keyword} {tk : TA} (T : ErrC X.K C) (TI : ErrI X.K C) (hr : Room k X.A) (hm : X.mg x = some (.ref C)) (hkw : PK X kws tk) (hg : Gl X x := by rfl)
    (hall : (backToKw pos (keywordEach kws X.env)).all (·.1.isSome) = true := by rfl) (hks : (backToKw pos (keywordEach kws X.env)).filterMap (·.1) = [("value" : Str)] := by rfl)
    (hdb : (x == ("__debug__" : Str)) = false := by decide)
    (hpl : ((backTo pos (starEach [] X.env)).any (·.1) || (backToKw pos (keywordEach kws X.env)).any (·.1.isNone)) = false := by rfl) :
    PE X (.Call (.Name x p) [] kws pos) (fun σ H Q => tk σ H fun vs H1 => ∃ v, vs = [v] ∧ rErr C v H1 Q) := by
  refine ⟨fun pins s σ H Q I h => ?_⟩
  refine wpAny_Call_Name_kw (ld_glob I hg hm ?_ hdb)
  refine PySem.W.callWith_KW0 (h₀ := X.base) I.ok.mod.kin T.kp hall (thn (hkw.run pos pins s σ H _ I h) fun us s1 ⟨vs, H1, I1, r1, v, ev, q1⟩ => ⟨I1.kIn, ?_⟩) hpl
  subst ev
  rw [hks]
  cases r1 with
  | cons rv rn =>
    cases rn
    show wpAny _ _ (call (.ref C) [] [(("value" : Str), _)]) _ _ _
    exact wpAny_call (made_run T TI .name I1.kIn I1.nolimit (by have := hr.dp; omega) fun h' tk e d M => err_end I1 rv M q1)
/-- C() where C has no __init__ of its own -/
theorem pe_errN {bmB : List Value} {B newId initId : String} (F : ExcBaseFacts B newId initId bmB) (q : PySem.W.excIn X.K C bmB newId = true) (kp : PySem.W.keepIn X.K (.ref C) = true) (hm : X.mg x = some (.ref C)) (hg : Gl X x := by rfl)
    (hdb : (x == ("__debug__" : Str)) = false := by decide) :
    PE X (.Call (.Name x p) [] [] pos) (fun σ H Q => ∀ e : Addr, H e = none → Q (.ref e) (upd H e (exo e C none))) := by
  refine ⟨fun pins s σ H Q I h => ?_⟩
  refine wpAny_Call_Name_kw (ld_glob I hg hm ?_ hdb)
  refine PySem.W.callWith_K0 I.kIn kp ?_
  show wpAny _ _ (call (.ref C) []) _ _ _
  obtain ⟨bm, N, nm, qn, bs, hdct, sn, sub, ab, col, dd, k0, k1, k2, k3, k5, mN, hC, hN, hni, T⟩ := exc_obj I.kIn q
  refine wpAny_call_exc_subT F T hC hN hni (fun h' e M => ?_) (Nat.zero_le _)
  have ne := I.hok.gone M.new
  obtain ⟨t, ht, _, _⟩ := M.there
  exact ⟨.ref e, upd H e (exo e C none), I.laidN M.keeps M.new ne (exo_ok ht), rfl, h e ne⟩
/-- err.value -/
theorem pe_value {te : TE} {n : Str} (en : n = "value" := by rfl) (he : PE X a te) (hb : attributeBase a n X.env (eval a X.env) = eval a X.env := by rfl) :
    PE X (.Attribute a n pos) (fun σ H Q => te σ H fun x H1 => ∃ (e C d : Addr) (v : V), x = .ref e ∧ ErrC X.K C ∧ ErrI X.K C ∧ H1 e = some (exo e C (some d)) ∧ H1 d = some (exd d (fld v)) ∧ Q v H1) := by
  refine ⟨fun pins s σ H Q I h => ?_⟩
  refine attr_of hb (thn (he.run pins s σ H _ I h) fun u s1 ⟨x, H1, I1, rx, e, C, d, v, ex, T, TI, ee, ed, q⟩ => ?_)
  subst ex
  obtain rfl : u = Value.ref e := rx
  obtain ⟨t1, ho⟩ := exo_at I1.hok ee
  obtain ⟨mA, hns, hr⟩ := exd_at I1.hok ed
  obtain ⟨od, hod, hl⟩ := lookIn_ns hns
  obtain ⟨u, hu, ru⟩ := RelO.some_of (v := v) (o := mA n) (by
    have z := hr n
    rw [en] at z ⊢
    exact z)
  have J : PySem.W.InstAt s1.heap e { cls := .ref C, dict := some d, data := .fields #[.ref t1, .none, .none, .none, .bool false, .none] } C (some od) := ⟨ho, rfl, rfl, hod⟩
  refine HandSPX.exc_get I1.kIn J T.ga T.gg T.ex (PySem.W.findObj_own T.hd (by rw [en]; exact TI.no) rfl (by rw [hl, hu])) (handed_of ru) ⟨v, H1, I1.tok _, ru, q⟩
end
end Eld
end L2

set_option Elab.async false
set_option linter.all false
set_option maxRecDepth 100000
set_option maxHeartbeats 4000000
namespace PySem
namespace EldX
open PySem PySem.Spec PySem.W PySem.Calls PyProof.Rows
section
variable {prog : Program} {w : World} {A : Around} {E : Value → Shared → Prop} {s : Shared} {K : Frag} {x D : Addr} {ox : Obj} {od : Option Obj}
theorem find_data {C : Addr} {n : Str} {a g : Value} (hc : (clsIn K C).isSome = true) (ha : findIn K (.ref C) n = some (some a)) (hg : specialIn K a "__get__" = some (some g)) (ht : takesIn K a = some true) :
    findObj K C od n = some (.bind g a) := by
  obtain ⟨cd, e⟩ := Option.isSome_iff_exists.mp hc
  unfold findObj
  rw [e, Option.bind_some, ha]
  rw [Option.bind_some]
  simp [hg, ht]
/-- an error's __class__ -/
theorem err_class {Q : Option Value → Shared → Prop} (T : ErrC K D) (hn : specialIn K (.builtin "object.__class__") "__get__" = some (some (.builtin "getset_descriptor.__get__"))) (htk : takesIn K (.builtin "object.__class__") = some true)
    (X : K.In s.heap) (I : InstAt s.heap x ox D od) (h : Q (some (.ref D)) { s with toks := s.toks + 1 }) : wpAny (model prog w) A (getAttr? (.ref x) "__class__") Q E s := by
  have hf : findObj K D od "__class__" = some (.bind (.builtin "getset_descriptor.__get__") (.builtin "object.__class__")) := by
    refine find_data ?_ T.ha hn htk
    obtain ⟨cd, hc, _⟩ := any_some T.hd
    rw [hc] <;> rfl
  obtain ⟨hp, g, d, t, os⟩ := s
  have l0 := I.type (M := model prog w)
  have l1 := looks_findIn (M := model prog w) X T.ga
  have l2 := looks_findIn (M := model prog w) X T.gg
  have l3 := looks_find (M := model prog w) X I hf
  have sub : Looks (model prog w) hp (isInstance (.ref x) (.type "BaseException")) true := l0.andThen (looks_subIn X T.ex)
  have n0 : (false && onTheHeap (Value.builtin "BaseException.__getattribute__")) = false := rfl
  have n2 : (Value.builtin "BaseException.__getattribute__" == Value.builtin "object.__getattribute__") = false := by decide +kernel
  have n1 : (onTheHeap (Value.ref D) && Value.builtin "BaseException.__getattribute__" == Value.builtin "object.__getattribute__") = false := by
    rw [n2]
    rfl
  unfold getAttr? getAttrBy? getAttrBy
  refine wpAny_bind (wpAny_mkText (wpAny_bind (wpAny_attempt (wpAny_holding (wpAny_bind (l0.at (wpAny_bind (l1.at ?_))))))))
  show wpAny _ _ (if (onTheHeap (Value.ref D) && Value.builtin "BaseException.__getattribute__" == Value.builtin "object.__getattribute__") = true then _ else _) _ _ _
  rw [n1, if_neg Bool.false_ne_true]
  unfold getAttrByItsOwn hookBefore
  refine wpAny_bind ?_
  rw [if_pos (show onTheHeap (Value.ref D) = true from rfl)]
  refine l2.at ?_
  refine wpAny_bind (wpAny_attempt (wpAny_holding ?_))
  unfold callGetattribute
  rw [n0, if_neg Bool.false_ne_true]
  unfold boundAndCalled
  rw [PySem.F.excAttr_ValueError.ga.bind (.ref x)]
  refine wpAny_bind (wpAny_pure ?_)
  show wpAny _ _ (call (.builtin "BaseException.__getattribute__") [.ref x, .str "__class__" t]) _ _ _
  refine wpAny_call (codeAny_call_builtin PySem.F.excAttr_ValueError.ga.plain PySem.F.entry_bexc_ga ?_)
  refine @check_slot (model prog w) _ _ ⟨hp, g, d, t + 1, os⟩ "BaseException.__getattribute__" "BaseException" "__getattribute__" (.ref x) [.str "__class__" t] [] _
    (by decide +kernel) (by decide +kernel) sub (PySem.F.args_bexc_ga (.ref x) (.str "__class__" t)) ?_
  unfold Builtin.«object.__getattribute__»
  refine wpAny_bind (wpAny_of_eq (a := ((Value.ref x : Value), [Value.str "__class__" t]))
    (by first | rfl | (simp only [slotArgs]; rfl)) ?_)
  refine wpAny_bind (wpAny_pure (wpAny_bind (l0.at (wpAny_bind (l3.at ?_)))))
  show wpAny _ _ (holding [Value.builtin "object.__class__"] (call (.builtin "getset_descriptor.__get__") [.builtin "object.__class__", .ref x, .ref D]) >>= ret) _ _ _
  refine wpAny_bind (wpAny_holding (wpAny_call (class_get (s := ⟨hp, g, d, t + 1, os⟩) (ox := ox) (od := od) X I T.ob ?_)))
  refine wpAny_pure ?_
  show wpAny _ _ (handedOut (.ref D)) _ _ _
  rw [handedOut_of (v := .ref D) rfl]
  first
    | exact wpAny_pure (wpAny_pure h)
    | exact wpAny_pure h
    | exact wpAny_pure (wpAny_bind (wpAny_pure (wpAny_pure h)))
theorem err_kit (T : ErrC K D) (hn : specialIn K (.builtin "object.__class__") "__get__" = some (some (.builtin "getset_descriptor.__get__"))) (htk : takesIn K (.builtin "object.__class__") = some true) :
    KitX K (.ref x) (.ref D) (fun h => InstAt h x ox D od) where
  ty := fun _ _ _ I => I.type
  it := fun _ _ X _ => by
    obtain ⟨cd, hc, _⟩ := any_some T.hd
    unfold clsIn at hc
    split at hc
    · rename_i c' d' cd' sl' ho
      intro A' Q' E' s' k q
      unfold isType loadHead
      refine wpAny_bind (wpAny_loadPart (k _ _ (X _ _ ho)) ?_)
      exact wpAny_pure q
    · cases hc
  ne := fun h tp dd its n sl X htp => by
    obtain ⟨cd, hc, _⟩ := any_some T.hd
    refine Bool.eq_false_iff.mpr fun q => ?_
    have e : D = tp := Value.ref.inj (beq_iff_eq.mp q)
    subst e
    unfold clsIn at hc
    split at hc
    · rename_i c' d' cd' sl' ho
      cases (X _ _ ho).symm.trans htp
    · cases hc
  ca := fun X I k => err_class T hn htk X I k
end
end EldX
end PySem
namespace L2
namespace Eld
open PySem PySem.Spec PyProof.Rows PySem.EldX
/-- the two words of the library that isinstance asks -/
structure KitW (K : PySem.W.Frag) : Prop where
  hn : PySem.W.specialIn K (.builtin "object.__class__") "__get__" = some (some (.builtin "getset_descriptor.__get__"))
  ht : PySem.W.takesIn K (.builtin "object.__class__") = some true
/-- an error at e of the class at C stands in H -/
def IsErr (H : Hp) (C e : Addr) : Prop := H e = some (exo e C none) ∨ ∃ (d : Addr) (v : V), H e = some (exo e C (some d)) ∧ H d = some (exd d (fld v))
/-- isinstance(err, D) -/
def rIsErr (K : PySem.W.Frag) : List V → Hp → VK → Prop := fun xs H Q => ∃ (e C D : Addr) (b : Bool), xs = [.ref e, .ref D] ∧ ErrC K C ∧ KitW K ∧ IsErr H C e ∧ PySem.W.kitOne K (.ref C) (.ref D) = some b ∧ Q (.bl b) H
/-- isinstance(err, T), T a built-in class -/
def rIsErrT (K : PySem.W.Frag) : List V → Hp → VK → Prop := fun xs H Q => ∃ (e C : Addr) (n : String) (b : Bool), xs = [.ref e, .ty n] ∧ ErrC K C ∧ KitW K ∧ IsErr H C e ∧ PySem.W.kitOne K (.ref C) (.type n) = some b ∧ Q (.bl b) H
section
variable {X : Cx}
theorem isErr_at {pins : List (Addr × Obj)} {σ : St} {H : Hp} {s : Shared} {C e : Addr} (I : Inv X pins σ H s) (h : IsErr H C e) : ∃ ox od, PySem.W.InstAt s.heap e ox C od := by
  rcases h with h | ⟨d, v, h, hd⟩
  · obtain ⟨t, ho⟩ := exo_at I.hok h
    exact ⟨_, none, ho, rfl, rfl, trivial⟩
  · obtain ⟨t, ho⟩ := exo_at I.hok h
    obtain ⟨mA, hns, _⟩ := exd_at I.hok hd
    obtain ⟨od, hod, _⟩ := lookIn_ns hns
    exact ⟨_, some od, ho, rfl, rfl, hod⟩
theorem call_isErr : CallR X (.builtin "isinstance") (rIsErr X.K) := by
  intro pins s σ H xs us Q I r h
  obtain ⟨e, C, D, b, rfl, T, W, he, k, q⟩ := h
  obtain ⟨u1, u2, rfl, r1, r2⟩ := vals2 r
  cases (show u1 = Value.ref e from r1)
  cases (show u2 = Value.ref D from r2)
  obtain ⟨ox, od, J⟩ := isErr_at I he
  exact PySem.W.kia_one (err_kit T W.hn W.ht) I.kIn J k (fun z => nomatch z) fun tk => ⟨.bl b, H, I.tok tk, rfl, q⟩
theorem call_isErrT : CallR X (.builtin "isinstance") (rIsErrT X.K) := by
  intro pins s σ H xs us Q I r h
  obtain ⟨e, C, n, b, rfl, T, W, he, k, q⟩ := h
  obtain ⟨u1, u2, rfl, r1, r2⟩ := vals2 r
  cases (show u1 = Value.ref e from r1)
  cases (show u2 = Value.type n from r2)
  obtain ⟨ox, od, J⟩ := isErr_at I he
  exact PySem.W.kia_one (err_kit T W.hn W.ht) I.kIn J k (fun z => nomatch z) fun tk => ⟨.bl b, H, I.tok tk, rfl, q⟩
end
end Eld
end L2

set_option Elab.async false
set_option linter.all false
set_option maxRecDepth 100000
set_option maxHeartbeats 4000000
/-! ## repr of data -/
namespace L2
namespace Eld
open PySem PySem.Spec PyProof.Rows PySem.EldX
mutual
/-- the value v, in H, is the datum d (dicts by texts, too) -/
inductive Dq (K : PySem.W.Frag) (H : Hp) : V → PyData → Prop
  | non : Dq K H .non .none
  | bl (b : Bool) : Dq K H (.bl b) (.bool b)
  | int (i : Int) : Dq K H (.int i) (.int i)
  | str (x : Str) : Dq K H (.str x) (.str x)
  | lst {a : Addr} {xs : List V} {ds : List PyData} : SqL K H a xs → DqAll K H xs ds → Dq K H (.ref a) (.list ds)
  | tup {a : Addr} {xs : List V} {ds : List PyData} : SqT K H a xs → DqAll K H xs ds → Dq K H (.ref a) (.tuple ds)
  | dct {a : Addr} {kvs : List (Key × V)} {ds : List (PyData × PyData)} : H a = some (.dK kvs) → DqKv K H kvs ds → Dq K H (.ref a) (.dict ds)
inductive DqAll (K : PySem.W.Frag) (H : Hp) : List V → List PyData → Prop
  | nil : DqAll K H [] []
  | cons {v : V} {vs : List V} {d : PyData} {ds : List PyData} : Dq K H v d → DqAll K H vs ds → DqAll K H (v :: vs) (d :: ds)
inductive DqKv (K : PySem.W.Frag) (H : Hp) : List (Key × V) → List (PyData × PyData) → Prop
  | nil : DqKv K H [] []
  | cons {x : Str} {v : V} {kvs : List (Key × V)} {d : PyData} {ds : List (PyData × PyData)} : Dq K H v d → DqKv K H kvs ds → DqKv K H ((.inr x, v) :: kvs) ((.str x, d) :: ds)
end
/-- what is known of a value that is read and shown -/
def Shw (P : Program) (w : World) (h : Heap) (u : Value) (d : PyData) : Prop :=
  (∃ as, Reads h u d as) ∧ ∃ bs, ReadAtMost h d.depth bs ∧ ReprK P w bs h d.depth u d.shown
def ShwAll (P : Program) (w : World) (h : Heap) (us : List Value) (ds : List PyData) : Prop :=
  (∃ as, ReadsAll h us ds as) ∧ ∃ bs, ReadAtMost h (PyData.depthAll ds) bs ∧ ReprAllK P w bs h (PyData.depthAll ds) us (PyData.shownAll ds)
theorem ShwAll.nil {P : Program} {w : World} {h : Heap} : ShwAll P w h [] [] :=
  ⟨⟨_, .nil⟩, [], (fun _ z => nomatch z), by simp only [PyData.shownAll]; exact .nil⟩
theorem ShwAll.cons {P : Program} {w : World} {h : Heap} {u : Value} {us : List Value} {d : PyData} {ds : List PyData} (a : Shw P w h u d) (b : ShwAll P w h us ds) : ShwAll P w h (u :: us) (d :: ds) := by
  obtain ⟨⟨as, r⟩, b1, hb1, k1⟩ := a
  obtain ⟨⟨bs, q⟩, b2, hb2, k2⟩ := b
  refine ⟨⟨_, .cons r q⟩, b1 ++ b2, fun b hm => ?_, ?_⟩
  · simp only [PyData.depthAll]
    rcases List.mem_append.mp hm with z | z
    · obtain ⟨d', a', r', l⟩ := hb1 b z
      exact ⟨d', a', r', Nat.le_trans l (Nat.le_max_left _ _)⟩
    · obtain ⟨d', a', r', l⟩ := hb2 b z
      exact ⟨d', a', r', Nat.le_trans l (Nat.le_max_right _ _)⟩
  · simp only [PyData.depthAll, PyData.shownAll]
    exact .cons ((k1.more fun b hb => List.mem_append_left _ hb).level_le (Nat.le_max_left _ _)) (k2.more_le (fun b hb => List.mem_append_right _ hb) (Nat.le_max_right _ _))
/-- a dict's entries -/
def ShwKv (P : Program) (w : World) (h : Heap) (es : List DictEntry) (ds : List (PyData × PyData)) : Prop :=
  ShwAll P w h (es.map (·.key)) (ds.map (·.1)) ∧ ShwAll P w h (es.map (·.val)) (ds.map (·.2))
section
variable {X : Cx} {pins : List (Addr × Obj)} {σ : St} {H : Hp} {s : Shared}
theorem shw_str {P : Program} {w : World} {h : Heap} (x : Str) (t : Tok) (hz : (reprText x).length ≤ sizeLine) : Shw P w h (.str x t) (.str x) :=
  ⟨⟨_, .str x t⟩, [], (fun _ z => nomatch z), by simp only [PyData.shown]; exact .of_is (ReprIs.str x t hz) _ _ _⟩
mutual
theorem Dq.shw (I : Inv X pins σ H s) : ∀ (d : PyData) (v : V) (u : Value), Dq X.K H v d → RelV v u → d.showable = true → d.shown.length ≤ sizeLine → Shw X.prog X.w s.heap u d
  | .none, _, _, h, r, _, _ => by
    cases h
    cases r
    exact ⟨⟨_, .none⟩, [], (fun _ z => nomatch z), by simp only [PyData.shown]; exact .of_is ReprIs.none _ _ _⟩
  | .bool b, _, _, h, r, _, _ => by
    cases h
    cases r
    exact ⟨⟨_, .bool b⟩, [], (fun _ z => nomatch z), by simp only [PyData.shown]; exact .of_is (ReprIs.bool b) _ _ _⟩
  | .int i, _, _, h, r, hs, _ => by
    cases h
    obtain ⟨t, rfl⟩ := r
    exact ⟨⟨_, .int i t⟩, [], (fun _ z => nomatch z), by simp only [PyData.shown]; exact .of_is (ReprIs.int t (by simpa [PyData.showable] using hs)) _ _ _⟩
  | .str x, _, _, h, r, _, hz => by
    cases h
    obtain ⟨t, rfl⟩ := r
    exact shw_str x t (by simpa only [PyData.shown] using hz)
  | .list ds, _, _, h, r, hs, hz => by
    cases h with
    | @lst a xs _ hS hA =>
      obtain rfl : _ = Value.ref a := r
      obtain ⟨its, rv, ⟨o, n, ho, hc, _, hd⟩, _⟩ := I.list hS
      have hz' : (listText (PyData.shownAll ds)).length ≤ sizeLine := by simpa only [PyData.shown] using hz
      obtain ⟨⟨as, q⟩, bs, hb, hk⟩ := Dq.shwAll I ds xs its hA rv (by simpa [PyData.showable] using hs) (fun t ht => Nat.le_trans (listText_mem_le ht) hz')
      have rd : Reads s.heap (.ref a) (.list ds) (a :: as) := .list ho hc hd q
      have hna : a ∉ bs := not_mem_of_deeper rd (by simp only [PyData.depth]; omega) hb
      refine ⟨⟨_, rd⟩, a :: bs, ReadAtMost.cons rd (by simp only [PyData.depth]; omega) hb, ?_⟩
      simp only [PyData.depth, PyData.shown]
      cases its with
      | nil =>
        cases q
        simp only [PyData.shownAll, listText_nil]
        exact ReprK.listEmpty ho hc hd
      | cons y l => exact ReprK.list ho hc hd hna (by simpa using hk.length_eq) (fun i y e => hk.item i y (by simpa using e))
  | .tuple ds, _, _, h, r, hs, hz => by
    cases h with
    | @tup a xs _ hS hA =>
      obtain rfl : _ = Value.ref a := r
      obtain ⟨its, rv, ⟨o, ho, hc, n, hd⟩, _⟩ := I.tuple hS
      have hz' : (tupleText (PyData.shownAll ds)).length ≤ sizeLine := by simpa only [PyData.shown] using hz
      obtain ⟨⟨as, q⟩, bs, hb, hk⟩ := Dq.shwAll I ds xs its hA rv (by simpa [PyData.showable] using hs) (fun t ht => Nat.le_trans (tupleText_mem_le ht) hz')
      have rd : Reads s.heap (.ref a) (.tuple ds) as := .tuple ho hc hd q
      have hna : a ∉ bs := not_mem_of_deeper rd (by simp only [PyData.depth]; omega) hb
      refine ⟨⟨_, rd⟩, a :: bs, ReadAtMost.cons rd (by simp only [PyData.depth]; omega) hb, ?_⟩
      simp only [PyData.depth, PyData.shown]
      exact ReprK.tuple ho hc hd hna hk
  | .dict ds, _, _, h, r, hs, hz => by
    cases h with
    | @dct a kvs _ ha hA =>
      obtain rfl : _ = Value.ref a := r
      obtain ⟨_, hsys, vs, rv, o, es, ep, ho, hx, hd, _, hp, _⟩ := (show ObjOk X.prog X.w H s.heap a (.dK kvs) from I.hok a _ ha)
      have hz' : (dictText (PyData.shownKv ds)).length ≤ sizeLine := by simpa only [PyData.shown] using hz
      obtain ⟨s1, s2⟩ := PyData.showableKv_split ds (by simpa [PyData.showable] using hs)
      have hK : ∀ t ∈ PyData.shownAll (ds.map (·.1)), t.length ≤ sizeLine := fun t ht =>
        let ⟨p, hp, hl⟩ := PyData.shownKv_key_le ds t ht
        Nat.le_trans hl (Nat.le_trans (dictText_mem_le hp) hz')
      have hV : ∀ t ∈ PyData.shownAll (ds.map (·.2)), t.length ≤ sizeLine := fun t ht =>
        let ⟨p, hp, hl⟩ := PyData.shownKv_val_le ds t ht
        Nat.le_trans hl (Nat.le_trans (dictText_mem_le hp) hz')
      obtain ⟨⟨⟨as, q1⟩, b1, hb1, k1⟩, ⟨bs, q2⟩, b2, hb2, k2⟩ := Dq.shwKv I ds kvs vs es.toList hA rv hp s2 hK hV
      have rd : Reads s.heap (.ref a) (.dict ds) (a :: as ++ bs) := .dict ho hx.1 hd q1 q2
      have hb : ReadAtMost s.heap (PyData.depthKv ds) (b1 ++ b2) := (hb1.mono (PyData.depthAll_keys_le ds)).append (hb2.mono (PyData.depthAll_vals_le ds))
      have hna : a ∉ b1 ++ b2 := not_mem_of_deeper rd (by simp only [PyData.depth]; omega) hb
      refine ⟨⟨_, rd⟩, a :: (b1 ++ b2), ReadAtMost.cons rd (by simp only [PyData.depth]; omega) hb, ?_⟩
      simp only [PyData.depth, PyData.shown, PyData.shownKv_eq]
      exact ReprK.dict ho hx.1 hd hsys hna (ReprEntriesK.of_two es.toList _ _
        (k1.more_le (fun b hb => List.mem_append_left _ hb) (PyData.depthAll_keys_le ds))
        (k2.more_le (fun b hb => List.mem_append_right _ hb) (PyData.depthAll_vals_le ds)))
theorem Dq.shwAll (I : Inv X pins σ H s) : ∀ (ds : List PyData) (vs : List V) (us : List Value), DqAll X.K H vs ds → Vals vs us → PyData.showableAll ds = true → (∀ t ∈ PyData.shownAll ds, t.length ≤ sizeLine) → ShwAll X.prog X.w s.heap us ds
  | [], _, _, h, r, _, _ => by
    cases h
    cases r
    exact ShwAll.nil
  | d :: ds, _, _, h, r, hs, hz => by
    cases h with
    | cons h1 h2 =>
      cases r with
      | cons r1 r2 =>
        have hs' : d.showable = true ∧ PyData.showableAll ds = true := by simpa [PyData.showableAll] using hs
        have z1 : d.shown.length ≤ sizeLine := hz _ (by simp only [PyData.shownAll]; exact List.mem_cons_self ..)
        have z2 : ∀ t ∈ PyData.shownAll ds, t.length ≤ sizeLine := fun t ht => hz t (by simp only [PyData.shownAll]; exact List.mem_cons_of_mem _ ht)
        exact ShwAll.cons (Dq.shw I d _ _ h1 r1 hs'.1 z1) (Dq.shwAll I ds _ _ h2 r2 hs'.2 z2)
theorem Dq.shwKv (I : Inv X pins σ H s) : ∀ (ds : List (PyData × PyData)) (kvs : List (Key × V)) (ws : List (Key × Value)) (es : List DictEntry), DqKv X.K H kvs ds → KV kvs ws → Pairs (mixKind X.prog X.w) es ws →
    PyData.showableAll (ds.map (·.2)) = true → (∀ t ∈ PyData.shownAll (ds.map (·.1)), t.length ≤ sizeLine) → (∀ t ∈ PyData.shownAll (ds.map (·.2)), t.length ≤ sizeLine) → ShwKv X.prog X.w s.heap es ds
  | [], _, _, _, h, r, p, _, _, _ => by
    cases h
    cases r
    cases p
    exact ⟨ShwAll.nil, ShwAll.nil⟩
  | (k, d) :: ds, _, _, _, h, r, p, hs, hk, hv => by
    cases h with
    | @cons x v kvs _ _ h1 h2 =>
      cases r with
      | cons r1 r2 =>
        cases p with
        | cons p1 p2 p3 =>
          rename_i w ws e es
          obtain ⟨rk, rv⟩ := r1
          have hs' : d.showable = true ∧ PyData.showableAll (ds.map (·.2)) = true := by simpa [PyData.showableAll] using hs
          simp only [List.map_cons, PyData.shownAll] at hk hv
          have hk1 : (PyData.shown (.str x)).length ≤ sizeLine := hk _ (List.mem_cons_self ..)
          have hv1 : d.shown.length ≤ sizeLine := hv _ (List.mem_cons_self ..)
          obtain ⟨a, b⟩ := Dq.shwKv I ds kvs ws es h2 r2 p3 hs'.2 (fun t ht => hk t (List.mem_cons_of_mem _ ht)) (fun t ht => hv t (List.mem_cons_of_mem _ ht))
          have ek : ∃ t, e.key = Value.str x t := by
            have z : keyIs w.1 e.key = true := p1
            rw [← rk] at z
            rcases keyIs_shape z with ⟨i, t, q, _⟩ | ⟨y, t, q, q'⟩
            · cases q
            · cases q
              exact ⟨t, q'⟩
          obtain ⟨t, ek⟩ := ek
          have rv' : RelV v e.val := by
            rw [p2]
            exact rv
          refine ⟨?_, ?_⟩
          · simp only [List.map_cons, ek]
            exact ShwAll.cons (shw_str x t (by simpa only [PyData.shown] using hk1)) a
          · simp only [List.map_cons]
            exact ShwAll.cons (Dq.shw I d _ _ h1 rv' hs'.1 hv1) b
end
end
end Eld
end L2

set_option Elab.async false
set_option linter.all false
set_option maxRecDepth 100000
set_option maxHeartbeats 4000000
namespace L2
namespace Eld
open PySem PySem.Spec PyProof.Rows PySem.EldX
/-! ## repr(x) as a rule: where nothing is being shown -/
/-- what is asked: data, whose text is laid -/
def rRepr (K : PySem.W.Frag) : List V → Hp → VK → Prop := fun xs H Q => ∃ (x : V) (d : PyData), xs = [x] ∧ Dq K H x d ∧ d.showable = true ∧ d.shown.length ≤ sizeLine ∧ d.depth ≤ 100 ∧ Q (.str d.shown) H
section
variable {X : Cx}
theorem call_repr {k : Nat} (hg : X.A.guards = some []) (hr : Room k X.A) : CallR X (.builtin "repr") (rRepr X.K) := by
  intro pins s σ H xs us Q I r h
  obtain ⟨x, d, rfl, hd, hs, hz, hp, q⟩ := h
  obtain ⟨u, rfl, rx⟩ := vals1 r
  have hu : X.A.units + 1 < cLine := hu_of hr
  have hu2 : X.A.in1.units + d.depth < cLine := by
    have z := hr.un
    show X.A.units + 1 + d.depth < cLine
    omega
  have fin : ∀ {h' : Heap} {t : Tok} {tk : Nat}, (∀ b o, s.heap.get? b = some o → h'.get? b = some o) → EP X pins σ Q (.str d.shown t) { s with heap := h', toks := tk } :=
    fun {h' t tk} kp => ⟨.str d.shown, H, I.kept (t' := tk) kp, ⟨t, rfl⟩, q⟩
  cases hd with
  | non =>
    cases (show u = Value.none from rx)
    have e : PyData.none.shown = ("None" : Str) := by simp only [PyData.shown]
    rw [e] at fin
    exact PySem.P.repr_of_none (fin fun _ _ z => z)
  | bl b =>
    cases (show u = Value.bool b from rx)
    have e : (PyData.bool b).shown = ((if b then "True" else "False" : Str)) := by simp only [PyData.shown]
    rw [e] at fin
    exact PySem.P.repr_of_bool (fin fun _ _ z => z)
  | int i =>
    obtain ⟨t, rfl⟩ := (show ∃ t, u = Value.int i t from rx)
    have e : (PyData.int i).shown = toString i := by simp only [PyData.shown]
    rw [e] at fin
    exact PySem.P.repr_of_int (by simpa [PyData.showable] using hs) (fin fun _ _ z => z)
  | str y =>
    obtain ⟨t, rfl⟩ := (show ∃ t, u = Value.str y t from rx)
    have e : (PyData.str y).shown = reprText y := by simp only [PyData.shown]
    rw [e] at fin hz
    exact PySem.P.repr_of_str (fin fun _ _ z => z) hz
  | @lst a ys ds hS hA =>
    cases (show u = Value.ref a from rx)
    obtain ⟨its, rv, ⟨o, n, ho, hc, _, hd⟩, _⟩ := I.list hS
    have hz' : (listText (PyData.shownAll ds)).length ≤ sizeLine := by simpa only [PyData.shown] using hz
    obtain ⟨⟨as, q1⟩, bs, hb, hk⟩ := Dq.shwAll I ds ys its hA rv (by simpa [PyData.showable] using hs) (fun t ht => Nat.le_trans (listText_mem_le ht) hz')
    have rd : Reads s.heap (.ref a) (.list ds) (a :: as) := .list ho hc hd q1
    have hna : a ∉ bs := not_mem_of_deeper rd (by simp only [PyData.depth]; omega) hb
    have e : (PyData.list ds).shown = listText (PyData.shownAll ds) := by simp only [PyData.shown]
    rw [e] at fin
    simp only [PyData.depth] at hu2
    refine call_repr_slot hu ⟨o, ho, hc⟩ F.slot_list_repr.toG ?_
    cases its with
    | nil =>
      cases q1
      simp only [PyData.shownAll, listText_nil] at fin
      exact call_list_repr_empty ⟨o, ho, hc⟩ ho hd ⟨_, _, rfl, fin fun _ _ z => z⟩
    | cons y l =>
      exact call_list_reprK ho hc hd hna (by simpa using hk.length_eq) (fun i y e => hk.item i y (by simpa using e)) hg (fun b _ => Clear.nil b) hu2 (fun _ _ z => z)
        (fun h' u tk kp => ⟨_, _, rfl, fin kp⟩) hz'
  | @tup a ys ds hS hA =>
    cases (show u = Value.ref a from rx)
    obtain ⟨its, rv, ⟨o, ho, hc, n, hd⟩, _⟩ := I.tuple hS
    have hz' : (tupleText (PyData.shownAll ds)).length ≤ sizeLine := by simpa only [PyData.shown] using hz
    obtain ⟨⟨as, q1⟩, bs, hb, hk⟩ := Dq.shwAll I ds ys its hA rv (by simpa [PyData.showable] using hs) (fun t ht => Nat.le_trans (tupleText_mem_le ht) hz')
    have rd : Reads s.heap (.ref a) (.tuple ds) as := .tuple ho hc hd q1
    have hna : a ∉ bs := not_mem_of_deeper rd (by simp only [PyData.depth]; omega) hb
    have e : (PyData.tuple ds).shown = tupleText (PyData.shownAll ds) := by simp only [PyData.shown]
    rw [e] at fin
    simp only [PyData.depth] at hu2
    refine call_repr_slot hu ⟨o, ho, hc⟩ F.slot_tuple_repr ?_
    exact call_tuple_reprK ho hc hd hna hk hg (fun b _ => Clear.nil b) hu2 (fun _ _ z => z) (fun h' u tk kp => ⟨_, _, rfl, fin kp⟩) hz'
  | @dct a kvs ds ha hA =>
    cases (show u = Value.ref a from rx)
    obtain ⟨_, hsys, vs, rv, o, es, ep, ho, hx, hd, _, hp', _⟩ := (show ObjOk X.prog X.w H s.heap a (.dK kvs) from I.hok a _ ha)
    have hz' : (dictText (PyData.shownKv ds)).length ≤ sizeLine := by simpa only [PyData.shown] using hz
    obtain ⟨s1, s2⟩ := PyData.showableKv_split ds (by simpa [PyData.showable] using hs)
    have hK : ∀ t ∈ PyData.shownAll (ds.map (·.1)), t.length ≤ sizeLine := fun t ht =>
      let ⟨p, hp, hl⟩ := PyData.shownKv_key_le ds t ht
      Nat.le_trans hl (Nat.le_trans (dictText_mem_le hp) hz')
    have hV : ∀ t ∈ PyData.shownAll (ds.map (·.2)), t.length ≤ sizeLine := fun t ht =>
      let ⟨p, hp, hl⟩ := PyData.shownKv_val_le ds t ht
      Nat.le_trans hl (Nat.le_trans (dictText_mem_le hp) hz')
    obtain ⟨⟨⟨as, q1⟩, b1, hb1, k1⟩, ⟨bs, q2⟩, b2, hb2, k2⟩ := Dq.shwKv I ds kvs vs es.toList hA rv hp' s2 hK hV
    have rd : Reads s.heap (.ref a) (.dict ds) (a :: as ++ bs) := .dict ho hx.1 hd q1 q2
    have hb : ReadAtMost s.heap (PyData.depthKv ds) (b1 ++ b2) := (hb1.mono (PyData.depthAll_keys_le ds)).append (hb2.mono (PyData.depthAll_vals_le ds))
    have hna : a ∉ b1 ++ b2 := not_mem_of_deeper rd (by simp only [PyData.depth]; omega) hb
    have e : (PyData.dict ds).shown = dictText (List.zipWith (fun k v : Str => k ++ ": " ++ v) (PyData.shownAll (ds.map (·.1))) (PyData.shownAll (ds.map (·.2)))) := by
      simp only [PyData.shown, PyData.shownKv_eq]
    rw [e] at fin
    simp only [PyData.depth] at hu2
    refine call_repr_slot hu ⟨o, ho, hx.1⟩ F.slot_dict_repr ?_
    exact call_dict_reprK ho hx.1 hd hsys hna (ReprEntriesK.of_two es.toList _ _
      (k1.more_le (fun b hb => List.mem_append_left _ hb) (PyData.depthAll_keys_le ds))
      (k2.more_le (fun b hb => List.mem_append_right _ hb) (PyData.depthAll_vals_le ds))) hg (fun b _ => Clear.nil b) hu2 (fun _ _ z => z)
      (fun h' u tk kp => ⟨_, _, rfl, fin kp⟩) (by rw [← PyData.shownKv_eq]; exact hz')
end
/-! ## promises of defs that are called where nothing is being shown -/
structure FnG (P : Program) (w : World) (K : PySem.W.Frag) (mg : Str → Option Value) (base : Heap) (CX : CXT) (k : Nat) (f : Addr) (fd : FuncData) (ps : List Str) (sp : Sp) : Prop where
  len : ∀ vs H Q E, sp vs H Q E → vs.length = ps.length
  run : ∀ (A : Around) (outer : List Env) (s : Shared) (H : Hp) (args : Args) (us : List Value) (vs : List V) (Q : VK) (E : XK), A.guards = some [] → Room k A →
    Env0 P w K mg base A outer s H → BindsTo s fd args (ps.zip us) → Vals vs us → sp vs H Q E → codeAny (model P w) A (.call (.ref f) args) (CR CX outer P w H s Q E) s
theorem FnG.of {P : Program} {w : World} {K : PySem.W.Frag} {mg : Str → Option Value} {base : Heap} {CX : CXT} {k : Nat} {f : Addr} {fd : FuncData} {ps : List Str} {sp : Sp} (F : FnOk P w K mg base CX k f fd ps sp) : FnG P w K mg base CX k f fd ps sp :=
  ⟨F.len, fun A outer s H args us vs Q E _ hr e b r h => F.run A outer s H args us vs Q E hr e b r h⟩
/-- a def by its body -/
theorem fnG_of {CX : CXT} {P : Program} {w : World} {K : PySem.W.Frag} {mg : Str → Option Value} {base : Heap} {k : Nat} {f : Addr} {name qual : Str} {params : Arguments} {body : List Stmt} {scope : Scope} {dV kV doc pm cdv ct oc : Value} {an od : Option Addr}
    {osl : Array (Option Value)} {N ps : List Str} {sp : Sp} (lk : K.lookup f = some ⟨oc, od, .func (PySem.W.fnOf name qual params body scope dV kV doc pm an cdv ct), osl⟩)
    (hcd : PySem.W.codeIn K cdv qual = true) (S : FnScope N ps scope) (len : ∀ vs H Q E, sp vs H Q E → vs.length = ps.length)
    (hbody : ∀ (A : Around) (outer : List Env) (s : Shared) (H : Hp) (vs : List V) (Q : VK) (E : XK), A.guards = some [] → Room k (A.deeper (envOfC qual scope s.heap.objs.size f cdv)) → sp vs H Q E →
      ∃ t, PSs (cxOf CX P w K mg base N qual scope f cdv A outer s H E) body t ∧ t { nx := fun _ H' => Q .non H', rt := Q } (start N vs) H) :
    FnG P w K mg base CX (k + 1) f (PySem.W.fnOf name qual params body scope dV kV doc pm an cdv ct) ps sp := by
  refine ⟨len, fun A outer s H args us vs Q E hG hr e0 hb r hsp => ?_⟩
  -- the promise «whatever is asked here»: of this one call, by the library's own rule
  let one : Sp := fun vs' H' Q' E' => vs' = vs ∧ H' = H ∧ Q' = Q ∧ E' = E ∧ sp vs H Q E
  have KX : K.In s.heap := e0.mod.kin.keeps fun b o e => (e0.bs b o e).1
  have lim : s.heap.NoLimit := e0.mod.nolimit.keeps fun b o e => (e0.bs b o e).1
  have hl := len _ _ _ _ hsp
  have hkind : ∀ y ∈ ps.zip us, scope.names.lookup y.1 = some .local ∨
      (scope.names.lookup y.1 = some .cell ∧ ((cellsFrom (s.heap.objs.size + 1) scope.names []).lookup y.1).isSome = true) := fun ⟨n, v⟩ hy => by
    rcases S.par n (List.of_mem_zip hy).1 with q | q
    · exact .inl q
    · exact .inr ⟨q, PySem.W.cellsFrom_some _ _ _ (.inl q)⟩
  refine codeAny_call_function hr.depth (KX _ _ lk) rfl S.co S.gen rfl (PySem.W.codeRec_of KX hcd)
    (hb _ _ _ _ ?_)
  refine wpAny_newFunctionEnv_cells S.kind hkind fun env he s1 x => ?_
  subst he
  refine ⟨lim.keeps x.toInCall.keep, codeAny_func ?_⟩
  obtain ⟨t, ht, hq⟩ := hbody A outer s H vs Q E hG (hr.deeper _) hsp
  have I := inv_start (CX := CX) (E := E) S hr.hd e0 hl r x
  refine wpAny_mono (ht.run [] s1 (start N vs) H _ I hq) (fun fl s' hs => ?_) fun e s' hs => hs
  cases fl with
  | ret u =>
    obtain ⟨v, σ', H', J, rv, q⟩ := hs
    exact ⟨v, H', J.os, J.bare, J.base, J.hok, rv, q⟩
  | next =>
    obtain ⟨σ', H', J, q⟩ := hs
    exact ⟨.non, H', J.os, J.bare, J.base, J.hok, rfl, q⟩
  | brk =>
    obtain ⟨_, _, _, q⟩ := hs
    exact q.elim
  | cont =>
    obtain ⟨_, _, _, q⟩ := hs
    exact q.elim
theorem FunG {P : Program} {w : World} {K : PySem.W.Frag} {mg : Str → Option Value} {base : Heap} {x qual : Str} {st : Stmt} {f : Addr} {fd : FuncData} {N ps : List Str} {k : Nat} {sp : Sp} (F : Fun K x qual st f fd) (S : FnScope N ps (defScope st))
    (len : ∀ vs H Q E, sp vs H Q E → vs.length = ps.length)
    (hbody : ∀ (cdv : Value) (A : Around) (outer : List Env) (s : Shared) (H : Hp) (vs : List V) (Q : VK) (E : XK), A.guards = some [] → Room k (A.deeper (envOfC qual (defScope st) s.heap.objs.size f cdv)) → sp vs H Q E →
      ∃ t, PSs (cxOf CX0 P w K mg base N qual (defScope st) f cdv A outer s H E).nox (defBody st) t ∧ t { nx := fun _ H' => Q .non H', rt := Q } (start N vs) H) : FnG P w K mg base CX0 (k + 1) f fd ps sp := by
  obtain ⟨oc, od, kV, doc, pm, an, cdv, ct, osl, rfl, lk, hcd⟩ := F.ex
  refine fnG_of lk hcd S len fun A outer s H vs Q E hG hr hsp => ?_
  obtain ⟨t, h, q⟩ := hbody cdv A outer s H vs Q E hG hr hsp
  exact ⟨t, h.nox, q⟩
section
variable {X : Cx} {CX : CXT} {k : Nat} {f : Addr} {fd : FuncData} {ps : List Str} {sp : Sp} {dvs : List V} {ds : List Value} {E : XK} {x : Str} {p pos : Pos} {e : Expr} {es : List Expr} {t : TA}
theorem run_fnG {pins : List (Addr × Obj)} {σ : St} {H : Hp} {s : Shared} {Q : VK} {us : List Value} {vs : List V} (F : FnG X.prog X.w X.K X.mg X.base CX k f fd ps sp) (hG : X.A.guards = some []) (hr : Room k X.A) (hb : Binds X.K fd ps ds) (hd : Vals dvs ds)
    (hx : Passes CX X E) (I : Inv X pins σ H s) (r : Vals vs us) (h : sp (vs ++ dvs) H Q E) : wpAny (model X.prog X.w) X.A (call (.ref f) us) (EP X pins σ Q) X.xe s := by
  have r2 : Vals (vs ++ dvs) (us ++ ds) := r.append hd
  have hl : (us ++ ds).length = ps.length := r2.length.symm.trans (F.len _ _ _ _ h)
  refine wpAny_call (codeAny_mono (F.run X.A X.stack s H ⟨us, []⟩ (us ++ ds) (vs ++ dvs) Q E hG hr I.env0 (hb s us I.kIn hl) r2 h) fun r s' hq => ?_)
  rcases r with e | fl
  · exact hx pins σ H s e s' I hq
  · cases fl <;> first | exact I.after hq | exact False.elim hq
theorem pe_callG (F : FnG X.prog X.w X.K X.mg X.base CX k f fd ps sp) (hG : X.A.guards = some []) (hr : Room k X.A) (hm : X.mg x = some (.ref f)) (hk : PySem.W.keepIn X.K (.ref f) = true) (hb : Binds X.K fd ps ds) (hd : Vals dvs ds) (hx : Passes CX X E)
    (ha : PA X (e :: es) t) (hg : Gl X x := by rfl) (hdb : (x == ("__debug__" : Str)) = false := by decide) (he : starEach (e :: es) X.env = (false, eval e X.env) :: starEach es X.env := by rfl) (hpl : (backTo pos (starEach es X.env)).any (·.1) = false := by rfl) :
    PE X (.Call (.Name x p) (e :: es) [] pos) (tCall sp dvs E t) := by
  refine ⟨fun pins s σ H Q I h => ?_⟩
  refine wpAny_Call_Name_kw (ld_glob I hg hm ?_ hdb)
  refine PySem.W.callWith_K (h₀ := X.base) I.ok.mod.kin hk (thn (ha.run pos pins s σ H _ I h) fun us s1 ⟨vs, H1, I1, r, q⟩ => ⟨I1.kIn, ?_⟩) he hpl
  exact run_fnG F hG hr hb hd hx I1 r q
end
/-! ## the law's own call -/
section
variable {P : Program} {w : World} {K : PySem.W.Frag} {mg mb : Str → Option Value} {CX : CXT} {k : Nat} {fa a : Addr} {fd : FuncData} {x : Str} {sp : Sp} {s₁ : Shared} {vs : List Value} {ns : List Int}
/-- from an abstract heap that tracks nothing but the script -/
theorem law_core (KX : K.In s₁.heap) (hns : s₁.heap.Ns mainGlobals mg) (hb : s₁.heap.Ns builtinsNs mb) (hbb : ∀ x : Str, x ≠ "__name__" → mb x = bootBuiltins x) (hlim : s₁.heap.NoLimit) (hg : s₁.gens = #[])
    (ha : s₁.heap.get? a = some { cls := .type "list", data := .seq vs.toArray }) (hr : Room k callerA)
    (F : ∀ base : Heap, K.In base → base.Ns mainGlobals mg → FnG P w K mg base CX k fa fd [x] sp) (hbind : ∀ (s : Shared) (u : Value), BindsTo s fd ⟨[u], []⟩ [(x, u)])
    (hCX : ∀ H e s', CX [] H s₁ (fun _ _ _ => False) e s' → False) (H : Hp) (hO : Only H) (hok : HOk P w H s₁.heap) (hA : ∀ b, H b ≠ none → b = a) (hK : H a ≠ none → K.lookup a = none)
    (hsp : sp [.ref a] H (fun v _ => v = .bl true) fun _ _ _ => False) :
    codeAny (model P w) callerA (.call (.ref fa) ⟨[.ref a], []⟩) (fun r s' => r = .ok (.ret (.bool true)) ∧ OldK s₁.heap s'.heap ∧ s'.os = s₁.os ∧ AllBare s'.gens) s₁ := by
  have there : ∀ {b : Addr} {o : Obj}, s₁.heap.get? b = some o → H b = none → (hidT s₁.heap H).get? b = some o := fun e n => hidT_get e n
  have free : ∀ {b : Addr} {o : Obj}, s₁.heap.get? b = some o → (b = a → False) → H b = none := fun {b o} e n => by
    cases q : H b with
    | none => rfl
    | some u => exact (n (hA b (by rw [q]; simp))).elim
  have ns_of : ∀ {b : Addr} {m : Str → Option Value}, s₁.heap.Ns b m → (hidT s₁.heap H).Ns b m := fun {b m} ⟨o, es, ep, e, d, r⟩ =>
    ⟨o, es, ep, there e (free e fun z => by
      subst z
      rw [ha] at e
      cases e
      cases (show Data.seq vs.toArray _ = Data.dict es ep from d)), d, r⟩
  have kin : K.In (hidT s₁.heap H) := fun b o e => there (KX b o e) (by
    cases q : H b with
    | none => rfl
    | some u =>
      obtain rfl := hA b (by rw [q]; simp)
      rw [hK (by rw [q]; simp)] at e
      cases e)
  have mod : Mod K mg (hidT s₁.heap H) :=
    ⟨kin, ns_of hns, ⟨mb, ns_of hb, hbb⟩, let ⟨mc, h1, h2⟩ := hlim; ⟨mc, ns_of h1, h2⟩⟩
  have env : Env0 P w K mg (hidT s₁.heap H) callerA [] s₁ H :=
    ⟨rfl, mod, fun b o e => of_hidT e, Nat.le_of_eq (hidT_size _ _), trivial, fun b hb => absurd (show b ∈ ([] : List Addr) from hb) (by simp), hok, .of_eq hg⟩
  refine codeAny_mono ((F _ kin (ns_of hns)).run callerA [] s₁ H ⟨[.ref a], []⟩ [.ref a] [.ref a] _ _ rfl hr env (hbind s₁ (.ref a)) (.cons rfl .nil) hsp) fun r s' h => ?_
  rcases r with e | fl
  · exact (hCX H e s' h).elim
  · cases fl with
    | next => exact False.elim h
    | brk => exact False.elim h
    | cont => exact False.elim h
    | ret u =>
      obtain ⟨v, H', os, bare, un, hok', r', q⟩ := h
      obtain rfl : v = .bl true := q
      obtain rfl : u = Value.bool true := r'
      refine ⟨rfl, OldK.of_keep fun b o e => ?_, os, bare⟩
      cases q : H b with
      | none => exact un.keep b o e q (by intro z; exact absurd (show b ∈ ([] : List Addr) from z) (by simp)) (by simp)
      | some u =>
        rcases hO b with z | ⟨ob, xs, z⟩
        · rw [q] at z
          cases z
        · obtain ⟨e1, _⟩ := hok b _ z
          obtain ⟨e2, _⟩ := hok' b _ (un.frzs b ob _ z)
          rw [e] at e1
          cases e1
          exact e2
theorem lawG_call (KX : K.In s₁.heap) (hns : s₁.heap.Ns mainGlobals mg) (hb : s₁.heap.Ns builtinsNs mb) (hbb : ∀ x : Str, x ≠ "__name__" → mb x = bootBuiltins x) (hlim : s₁.heap.NoLimit) (hg : s₁.gens = #[])
    (ha : s₁.heap.get? a = some { cls := .type "list", data := .seq vs.toArray }) (hi : IntsAre vs ns) (hl : ns.length ≤ sizeLine) (hr : Room k callerA)
    (F : ∀ base : Heap, K.In base → base.Ns mainGlobals mg → FnG P w K mg base CX k fa fd [x] sp) (hbind : ∀ (s : Shared) (u : Value), BindsTo s fd ⟨[u], []⟩ [(x, u)])
    (hsp : ∀ H : Hp, Only H → SqL K H a (ns.map V.int) → sp [.ref a] H (fun v _ => v = .bl true) fun _ _ _ => False) (hCX : ∀ H e s', CX [] H s₁ (fun _ _ _ => False) e s' → False) :
    codeAny (model P w) callerA (.call (.ref fa) ⟨[.ref a], []⟩) (fun r s' => r = .ok (.ret (.bool true)) ∧ OldK s₁.heap s'.heap ∧ s'.os = s₁.os ∧ AllBare s'.gens) s₁ := by
  have rv := vals_ints hi
  have len := hi.length
  cases hk : K.lookup a with
  | some o =>
    have e := KX a o hk
    rw [ha] at e
    cases e
    have hO : Only fun _ => none := fun _ => .inl rfl
    have hS : SqL K (fun _ => none) a (ns.map V.int) := .inr ⟨_, vs.toArray, _, hk, rfl, rfl, rfl, by rw [List.size_toArray, len]; exact hl, by simpa using rv⟩
    exact law_core KX hns hb hbb hlim hg ha hr F hbind hCX _ hO (fun b u z => by cases (show (none : Option HO) = some u from z)) (fun b z => absurd rfl z) (fun z => absurd rfl z) (hsp _ hO hS)
  | none =>
    let H : Hp := fun b => if b = a then some (.frz { cls := .type "list", data := .seq vs.toArray } (.lst (ns.map V.int))) else none
    have at_a : H a = some (.frz { cls := .type "list", data := .seq vs.toArray } (.lst (ns.map V.int))) := if_pos rfl
    have off : ∀ {b}, b ≠ a → H b = none := fun z => if_neg z
    have hO : Only H := fun b => by
      by_cases z : b = a
      · subst z
        exact .inr ⟨_, _, at_a⟩
      · exact .inl (off z)
    refine law_core KX hns hb hbb hlim hg ha hr F hbind hCX H hO (fun b u z => ?_) (fun b z => ?_) (fun _ => hk) (hsp H hO (.inl (.inr ⟨_, at_a⟩)))
    · by_cases hba : b = a
      · subst hba
        rw [at_a] at z
        cases z
        exact ⟨ha, by rw [List.length_map]; exact hl, vs, _, rv, ha⟩
      · rw [off hba] at z
        cases z
    · by_cases hba : b = a
      · exact hba
      · exact absurd (off hba) z
end
/-- the end of a law: k_head's goal from the promise of the law's def -/
theorem walkG {l : PySem.W.OpenLaw} {n k : Nat} {q : Program} {loose : List Str} {XP : (Str → Option Value) → Heap → Prop} {YP : World → Heap → Prop} {d : DefRec} {K : Params → PySem.W.Frag} {sp : World → Sp} {x : Str}
    (hn : l.most = some n) (hn2 : n ≤ sizeLine) (hdf : d.params.defaults = []) (hr : Room k callerA) (hY : ∀ (w : World) (h : Heap), YP w h → (K w.params).In h)
    (F : ∀ (w : World) (mg : Str → Option Value) (fa : Addr) (h : Heap), (K w.params).In h → h.Ns mainGlobals mg → mg d.name = some (.ref fa) →
      ∃ fd : FuncData, (∀ (s : Shared) (u : Value), BindsTo s fd ⟨[u], []⟩ [(x, u)]) ∧
        ∀ base : Heap, (K w.params).In base → base.Ns mainGlobals mg → FnG l.prog w (K w.params) mg base CX0 k fa fd [x] (sp w))
    (hsp : ∀ (w : World) (H : Hp) (a : Addr) (ns : List Int), ns.length ≤ n → Only H → SqL (K w.params) H a (ns.map V.int) → sp w [.ref a] H (fun v _ => v = .bl true) fun _ _ _ => False) :
    PySem.W.WalkO q loose XP YP l.row.toRowW d [] (fun f vs => PySem.call f vs) := by
  refine Att.attach_call hn hdf fun w s₀ s₁ mg mb fa o pm cd doc a vs ns G Y ho hd hcd hmg hobj hints hlen hg => ?_
  have KX := hY w _ Y
  obtain ⟨fd, hb, hF⟩ := F w mg fa _ KX G.T.g hmg
  exact lawG_call KX G.T.g G.T.b G.T.builtins G.T.nolimit hg hobj hints (Nat.le_trans hlen hn2) hr hF hb (fun H hO hS => hsp w H a ns hlen hO hS) fun _ _ _ h => h
end Eld
end L2

set_option Elab.async false
set_option linter.all false
set_option maxRecDepth 100000
set_option maxHeartbeats 4000000
/-! ## sets of texts: made of a list, counted, sorted -/
namespace L2
namespace Eld
open PySem PySem.Spec PyProof.Rows PySem.EldX
/-- the key of an entry -/
def keyS (e : Int × Value) : Str := match e.2 with
  | .str x _ => x
  | _ => ""
def GoodS (w : World) (e : Int × Value) : Prop := ∃ (x : Str) (t : Tok), e.2 = Value.str x t ∧ e.1 = hashStr w x
theorem strK_is {P : Program} {w : World} (x : Str) (t : Tok) : (PySem.strKind P w).is x (.str x t) = true := by
  show Value.isStrOf x (.str x t) = true
  simp [Value.isStrOf]
/-- at a: a set of texts, S its members, n their number -/
def SetS (w : World) (h : Heap) (a : Addr) (S : Str → Bool) (n : Nat) : Prop :=
  ∃ o es ep t, h.get? a = some o ∧ o.ExactSet ∧ o.data = .set es ep t ∧ (∀ e ∈ es.toList, GoodS w e) ∧ (es.toList.map keyS).Nodup ∧
    (∀ k, S k = true ↔ k ∈ es.toList.map keyS) ∧ es.size < scanBound ∧ t.fits es.size = true ∧ es.size = n ∧ Ris t.place.toList ∧
    (w.params.followText "set-order" = true ∨ t.led = true)
section
variable {P : Program} {w : World} {h h' : Heap} {a : Addr} {S : Str → Bool} {n : Nat}
theorem SetS.at (R : SetS w h a S n) (k : ∀ o, h.get? a = some o → h'.get? a = some o) : SetS w h' a S n := by
  obtain ⟨o, es, ep, t, ho, rest⟩ := R
  exact ⟨o, es, ep, t, k o ho, rest⟩
theorem SetS.congr {S' : Str → Bool} (R : SetS w h a S n) (e : ∀ k, S' k = S k) : SetS w h a S' n := by
  obtain rfl : S' = S := funext e
  exact R
theorem goodS_elems {l : List (Int × Value)} (g : ∀ e ∈ l, GoodS w e) : ElemsOf (PySem.strKind P w) l := fun e he => by
  obtain ⟨x, t, h1, h2⟩ := g e he
  refine ⟨⟨x, by rw [h1]; exact strK_is x t, h2⟩, ?_⟩
  rw [h1] <;> rfl
theorem goodS_is {e : Int × Value} (g : GoodS w e) (k : Str) : (PySem.strKind P w).is k e.2 = true ↔ keyS e = k := by
  obtain ⟨x, t, h1, _⟩ := g
  unfold keyS
  rw [h1]
  show Value.isStrOf k (.str x t) = true ↔ x = k
  simp [Value.isStrOf]
theorem goodS_mem {l : List (Int × Value)} (g : ∀ e ∈ l, GoodS w e) (k : Str) : k ∈ l.map keyS ↔ ∃ e ∈ l, (PySem.strKind P w).is k e.2 = true := by
  rw [List.mem_map]
  refine ⟨?_, ?_⟩
  · rintro ⟨e, he, q⟩
    exact ⟨e, he, (goodS_is (P := P) (g e he) k).2 q⟩
  · rintro ⟨e, he, q⟩
    exact ⟨e, he, (goodS_is (P := P) (g e he) k).1 q⟩
theorem SetS.setOf (R : SetS w h a S n) : h.SetOf (PySem.strKind P w) a S n := by
  obtain ⟨o, es, ep, t, ho, hx, hd, g, nd, hm, hb, hf, hn, _⟩ := R
  refine ⟨o, es, ep, t, ho, hx, hd, goodS_elems g, fun k => ?_, hb, hf, hn⟩
  exact (hm k).trans (goodS_mem g k)
end
section
variable {P : Program} {w : World} {A : Around} {E : Value → Shared → Prop} {s : Shared} {a : Addr} {S : Str → Bool} {n : Nat}
/-- the store behind an added member -/
theorem setS_tail {g : Bool → Sem Unit} (hg : ∀ (b : Bool) (s₁ : Shared) (Q' : Unit → Shared → Prop), Q' () s₁ → wpAny (model P w) A (g b) Q' E s₁) {o : Obj} {es : Array (Int × Value)} {ep : Nat} {t : SetTable}
    (ho : s.heap.get? a = some o) (hex : o.ExactSet) (hd : o.data = .set es ep t) {fs : Array (Int × Value)} {u : SetTable} {S' : Str → Bool} (gS : ∀ e ∈ fs.toList, GoodS w e) (nd : (fs.toList.map keyS).Nodup)
    (mS : ∀ k, S' k = true ↔ k ∈ fs.toList.map keyS) (hb : fs.size < scanBound) (hf : u.fits fs.size = true) (hr : Ris u.place.toList) (hl : w.params.followText "set-order" = true ∨ u.led = true) {dm : Bool}
    {R : Option Bool → Shared → Prop} (hR : ∀ h', Heap.SameBut a s.heap h' → SetS w h' a S' fs.size → R (some true) { s with heap := h' }) :
    wpAny (model P w) A (do
      storeSet a fs u
      if (!dm && u.tooFull) = true then do
          g (relayAll u fs (SetTable.grown fs.size)).2.2
          storeSet a (relayAll u fs (SetTable.grown fs.size)).1 (relayAll u fs (SetTable.grown fs.size)).2.1
          pure (some true)
        else pure (some true)) R E s := by
  refine wpAny_bind (wpAny_storeSet_of ho hd ?_ (fits_of_scanBound hb))
  have h1 := store_at (es' := fs) (t' := u) ho hd
  have sb := Heap.SameBut.update s.heap a (Obj.putSet fs u)
  split
  · have pm := relayAll_perm u fs (SetTable.grown fs.size)
    have f2 := relayAll_fits u fs (SetTable.grown fs.size)
    have r2 := relayAll_ris u fs (SetTable.grown fs.size)
    have l2 := relayAll_led u fs (SetTable.grown fs.size)
    generalize relayAll u fs (SetTable.grown fs.size) = Z at pm f2 r2 l2 ⊢
    obtain ⟨gs, v, gave⟩ := Z
    dsimp only at pm f2 r2 l2 ⊢
    have sz : gs.size = fs.size := by rw [← Array.length_toList, pm.length_eq, Array.length_toList]
    have b2 : gs.size < scanBound := by rw [sz]; exact hb
    refine wpAny_bind (hg _ _ _ ?_)
    refine wpAny_bind (wpAny_storeSet_of h1 rfl ?_ (fits_of_scanBound b2))
    have h2 := store_at (es' := gs) (t' := v) h1 rfl
    refine wpAny_pure (hR _ (sb.trans (Heap.SameBut.update _ a _)) ?_)
    refine ⟨_, gs, _, v, h2, hex, rfl, fun e he => gS e (pm.mem_iff.mp he), (pm.map keyS).nodup_iff.mpr nd, fun k => ?_, b2, f2, sz, r2, ?_⟩
    · exact (mS k).trans (pm.map keyS).mem_iff.symm
    · exact hl.imp id fun z => by rw [l2]; exact z
  · refine wpAny_pure (hR _ sb ?_)
    exact ⟨_, fs, _, u, h1, hex, rfl, gS, nd, mS, hb, hf, rfl, hr, hl⟩
theorem setS_hashed {x : Str} {tk : Tok} {Q : Bool → Shared → Prop} (R : SetS w s.heap a S n) (room : n + 1 < scanBound)
    (hQ : ∀ h', Heap.SameBut a s.heap h' → SetS w h' a (fun j => S j || decide (j = x)) (if S x = true then n else n + 1) → Q (!S x) { s with heap := h' }) :
    wpAny (model P w) A (setAddHashed a (.str x tk) ((PySem.strKind P w).hash x)) Q E s := by
  obtain ⟨o, es, ep, t, ho, hex, hd, g, nd, hm, hb, hf, hn, hr, hl⟩ := R
  have key : (PySem.strKind P w).is x (.str x tk) = true := strK_is x tk
  have sc : (Value.str x tk).scannable = true := rfl
  have el : ElemsOf (PySem.strKind P w) es.toList := goodS_elems g
  unfold setAddHashed setAddHashedIn
  refine wpAny_holding (wpAny_bind (wpAny_setState_of ho hd hf ?_))
  dsimp only
  rw [byScan_of sc hb el]
  simp only [↓reduceIte]
  unfold setAddByScan
  refine wpAny_bind ?_
  refine wpAny_bind (wpAny_rule ?_)
  refine wpAny_bind (wpAny_setScan_of key ho hd hf el ?_)
  cases hfi : List.findIdx? (fun e => (PySem.strKind P w).is x e.2) es.toList with
  | some j =>
    dsimp only
    obtain ⟨hj, pj, _⟩ := List.findIdx?_eq_some_iff_getElem.mp hfi
    have Sx : S x = true := (hm x).2 ((goodS_mem (P := P) g x).2 ⟨es.toList[j], List.getElem_mem hj, pj⟩)
    refine wpAny_pure (wpAny_pure ?_)
    have q := hQ s.heap (Heap.SameBut.refl a s.heap) ⟨o, es, ep, t, ho, hex, hd, g, nd, fun i => by
      rw [Bool.or_eq_true, decide_eq_true_eq, ← hm i]
      exact ⟨fun z => z.elim id (fun e => e ▸ Sx), .inl⟩, hb, hf, by rw [if_pos Sx]; exact hn, hr, hl⟩
    rw [Sx] at q
    exact q
  | none =>
    dsimp only
    have nx : x ∉ es.toList.map keyS := fun z => by
      obtain ⟨e, he, q⟩ := (goodS_mem (P := P) g x).1 z
      have y := List.findIdx?_eq_none_iff.mp hfi e he
      rw [q] at y
      cases y
    have Sx : S x = false := by
      cases q : S x with
      | false => rfl
      | true => exact absurd ((hm x).1 q) nx
    have gw : ∀ (b : Bool) {s₁ : Shared} {Q' : Unit → Shared → Prop}, Q' () s₁ → wpAny (model P w) A (match b with | true => rule "set.scan.the-table-gave-way" | false => pure ()) Q' E s₁ := fun b s₁ Q' q => by
      cases b <;> first | exact wpAny_pure q | exact wpAny_rule q
    have pm := layNew_perm t es ((PySem.strKind P w).hash x) (.str x tk)
    have f1 := layNew_fits t es ((PySem.strKind P w).hash x) (.str x tk)
    have r1 := layNew_ris t es ((PySem.strKind P w).hash x) (.str x tk) hr
    have l1 := layNew_led t es ((PySem.strKind P w).hash x) (.str x tk)
    generalize layNew t es ((PySem.strKind P w).hash x) (.str x tk) = Z at pm f1 r1 l1 ⊢
    obtain ⟨fs, u, dm, gave⟩ := Z
    dsimp only at pm f1 r1 l1 ⊢
    rw [Array.toList_push] at pm
    have pc : fs.toList.Perm (((PySem.strKind P w).hash x, Value.str x tk) :: es.toList) := pm.trans (List.perm_append_singleton _ _)
    have pk : (fs.toList.map keyS).Perm (x :: es.toList.map keyS) := pc.map keyS
    have gS : ∀ e ∈ fs.toList, GoodS w e := fun e he => by
      rcases List.mem_cons.mp (pc.mem_iff.mp he) with z | z
      · rw [z]
        exact ⟨x, tk, rfl, rfl⟩
      · exact g e z
    have nd1 : (fs.toList.map keyS).Nodup := pk.nodup_iff.mpr (List.nodup_cons.mpr ⟨nx, nd⟩)
    have m1 : ∀ i, (S i || decide (i = x)) = true ↔ i ∈ fs.toList.map keyS := fun i => by
      rw [Bool.or_eq_true, decide_eq_true_eq, hm i, pk.mem_iff, List.mem_cons]
      exact Or.comm
    have sz : fs.size = n + 1 := by rw [← Array.length_toList, pc.length_eq, List.length_cons, Array.length_toList, hn]
    have hb1 : fs.size < scanBound := by rw [sz]; exact room
    have led : w.params.followText "set-order" = true ∨ u.led = true := hl.imp id fun z => by rw [l1]; exact z
    have fin : ∀ h', Heap.SameBut a s.heap h' → SetS w h' a (fun j => S j || decide (j = x)) fs.size → Q true { s with heap := h' } := fun h' sb r => by
      have q := hQ h' sb
      rw [Sx] at q
      rw [sz] at r
      exact q r
    refine wpAny_bind (gw _ ?_)
    split
    · refine wpAny_bind ?_
      rw [hashByValue_scannable 8 sc]
      refine wpAny_pure ?_
      refine setS_tail ?_ ho hex hd gS nd1 m1 hb1 ?_ ?_ ?_ ?_
      · intro b s₁ Q' q
        cases b <;> first | exact wpAny_pure q | exact wpAny_rule q
      · first | (split <;> first | exact f1 | exact SetTable.fits_plain_off f1) | exact f1
      · first | (split <;> exact r1) | exact r1
      · first | (split <;> exact led) | exact led
      · intro h' sb r
        dsimp only
        exact wpAny_pure (fin h' sb r)
    · refine wpAny_bind (wpAny_pure ?_)
      simp only [↓reduceIte]
      refine setS_tail ?_ ho hex hd gS nd1 m1 hb1 f1 r1 led ?_
      · intro b s₁ Q' q
        cases b <;> first | exact wpAny_pure q | exact wpAny_rule q
      · intro h' sb r
        dsimp only
        exact wpAny_pure (fin h' sb r)
/-- a.add(x) -/
theorem setS_add {x : Str} {tk : Tok} {Q : Value → Shared → Prop} (R : SetS w s.heap a S n) (room : n + 1 < scanBound)
    (hQ : ∀ h', Heap.SameBut a s.heap h' → SetS w h' a (fun j => S j || decide (j = x)) (if S x = true then n else n + 1) → Q .none { s with heap := h', toks := s.toks + 1 }) :
    wpAny (model P w) A (call (.builtin "set.add") [.ref a, .str x tk]) Q E s := by
  have hS : s.heap.SetOf (PySem.strKind P w) a S n := R.setOf
  refine wpAny_call_entry F.slot_set_add hS.typeIs F.entry_set_add ?_ (F.args_set_add_2 _ _)
  unfold Builtin.«set.add» Builtin.Frozenset.oneOther
  simp only [List.isEmpty_nil, bind_assoc]
  unfold Builtin.Frozenset.addrOf setAdd
  refine wpAny_bind (wpAny_pure ?_)
  try dsimp only
  refine wpAny_bind (wpAny_pure ?_)
  try dsimp only
  refine wpAny_bind (wpAny_holding ?_)
  refine wpAny_bind ((PySem.strKind P w).pyHash (strK_is x tk) ?_)
  refine setS_hashed (s := { s with toks := s.toks + 1 }) R room fun h' sb r => ?_
  show wpAny _ _ (ret Value.none) _ _ _
  exact wpAny_pure ⟨_, rfl, hQ h' sb r⟩
/-- a new set, nothing in it -/
theorem setS_new_at {h : Heap} (ho : h.get? a = some { cls := .type "set", dict := none, data := .set #[] 0 (.fresh 0 0 (!w.params.followText "set-order")) }) : SetS w h a (fun _ => false) 0 := by
  refine ⟨_, #[], 0, _, ho, ⟨rfl, rfl, rfl⟩, rfl, (fun e he => by simp at he), (by simp), (fun k => by simp), (by decide), (by rfl), rfl, List.Pairwise.nil, ?_⟩
  show _ ∨ (!w.params.followText "set-order") = true
  cases w.params.followText "set-order"
  · exact .inr rfl
  · exact .inl rfl
/-- how many of the first i are unlike -/
theorem setS_update {I : Addr} {fp wr : List Addr} {G : Array GenState → Array GenState → Prop} {n : Nat} {Pv : Nat → Value → Prop} {St : Nat → Shared → Prop} {R : Result → Shared → Prop}
    (W : WalksS P w A.in1 I fp wr G n Pv St) (a : Addr) (ha : a ∉ fp) (xs : List Str) (hn : n = xs.length) (hb : xs.length + 1 < scanBound) (hval : ∀ i v, Pv i v → ∃ x t, xs[i]? = some x ∧ v = .str x t) :
    ∀ (k i : Nat) (s : Shared), n - i = k → i ≤ n → St i s → (∃ m, m ≤ i ∧ SetS w s.heap a (fun j => decide (j ∈ xs.take i)) m) →
      (∀ s' m, Moved (a :: wr) G s s' → SetS w s'.heap a (fun j => decide (j ∈ xs)) m → R (.ok (.ret .none)) s') →
      codeAny (model P w) A (.builtin "set.update.loop" ⟨[.ref a, .ref I], []⟩) R s := by
  have haw : a ∉ wr := fun h => ha (W.sub _ h)
  have sub : ∀ b ∈ wr, b ∈ a :: wr := fun b hb => List.mem_cons_of_mem _ hb
  intro k
  induction k with
  | zero =>
    intro i s hk hi hst ⟨m, hm, hS⟩ hR
    obtain rfl : i = n := by omega
    refine codeAny_builtin F.entry_set_update_loop ?_
    rw [Around.under_plainId F.plain_set_update_loop _]
    show wpAny _ A.in1 (pyNext (.ref I) >>= _) _ _ s
    refine wpAny_bind (W.done s _ _ hst fun s' mv => ?_)
    show wpAny _ A.in1 (ret Value.none) _ _ s'
    have e : xs.take i = xs := List.take_of_length_le (by omega)
    rw [e] at hS
    exact wpAny_pure (hR s' m (mv.mono sub) (hS.at fun o e => mv.heap a o haw e))
  | succ k ih =>
    intro i s hk hi hst ⟨m, hm, hS⟩ hR
    have lt : i < n := by omega
    refine codeAny_builtin F.entry_set_update_loop ?_
    rw [Around.under_plainId F.plain_set_update_loop _]
    show wpAny _ A.in1 (pyNext (.ref I) >>= _) _ _ s
    refine wpAny_bind (W.item i s _ _ lt hst fun v s' hP hst' mv => ?_)
    obtain ⟨x, t, hx, rfl⟩ := hval i v hP
    have hS' : SetS w s'.heap a (fun j => decide (j ∈ xs.take i)) m := hS.at fun o e => mv.heap a o haw e
    show wpAny _ A.in1 (holding [Value.str x t] (setAdd a (.str x t)) >>= _) _ _ s'
    refine wpAny_bind (wpAny_holding ?_)
    unfold setAdd
    refine wpAny_holding ?_
    refine wpAny_bind ((PySem.strKind P w).pyHash (k := x) (strK_is x t) ?_)
    refine setS_hashed (s := { s' with toks := s'.toks + 1 }) hS' (by omega) fun h' sb hS2 => ?_
    have hS3 : SetS w h' a (fun j => decide (j ∈ xs.take (i + 1))) (if decide (x ∈ xs.take i) = true then m else m + 1) := hS2.congr fun j => by
      rw [List.take_add_one, hx]
      simp [List.mem_append]
    have hm3 : (if decide (x ∈ xs.take i) = true then m else m + 1) ≤ i + 1 := by
      split <;> omega
    refine wpAny_pure ⟨plainId_quiet F.plain_set_update_loop _, ih (i + 1) _ (by omega) lt (W.frame _ s' _ _ hst' (Nat.le_succ _) fun b hb o e => ?_) ⟨_, hm3, hS3⟩ fun s'' m2 mv2 hS'' => ?_⟩
    · rw [sb.2 b (fun h : b = a => ha (by rw [← h]; exact hb))]
      exact e
    · refine hR s'' m2 (Moved.trans W.gtrans ((mv.mono sub).then_heap (Nat.le_succ _) fun b o hb e => ?_) mv2) hS''
      rw [sb.2 b (fun h : b = a => hb (by rw [h]; exact List.mem_cons_self))]
      exact e
end
end Eld
end L2

set_option Elab.async false
set_option linter.all false
set_option maxRecDepth 100000
set_option maxHeartbeats 4000000
namespace L2
namespace Eld
open PySem PySem.Spec PyProof.Rows PySem.EldX
/-- an empty set, just laid -/
abbrev set0 (w : World) : Obj := { cls := .type "set", dict := none, data := .set #[] 0 (.fresh 0 0 (!w.params.followText "set-order")) }
section
variable {P : Program} {w : World} {A : Around} {E : Value → Shared → Prop} {s : Shared}
/-- set(l), l a list of texts -/
theorem setS_call {l : Addr} {items : Array Value} (xs : List Str) {Q : Value → Shared → Prop} (hh : A.handled = none) (hl : s.heap.IsList l items) (hit : items.size = xs.length)
    (hval : ∀ (i : Nat) (v : Value), items[i]? = some v → ∃ x t, xs[i]? = some x ∧ v = .str x t) (hb : xs.length + 1 < scanBound)
    (h : ∀ (h' : Heap) (tk m : Nat), SetS w h' s.heap.objs.size (fun j => decide (j ∈ xs)) m → (∀ b o, s.heap.get? b = some o → h'.get? b = some o) → Q (.ref s.heap.objs.size) { s with heap := h', toks := tk }) :
    wpAny (model P w) A (call (.type "set") [.ref l]) Q E s := by
  obtain ⟨c, tl, hmro⟩ := F.called_set.mro
  have hmade := F.called_set.made
  have hsub := F.called_set.sub
  refine wpAny_call (codeAny_of_tree ?_)
  show wpAny _ _ (callAny (.type "set") _) _ _ _
  refine wpAny_pure ⟨Code.quiet_builtin _ (by decide +kernel), codeAny_builtin F.entry_type_call ?_⟩
  rw [Around.under_plain (weight_type_call_type "set" [.ref l] []) rfl]
  have h1 := F.called_set.notType
  have h2 := F.called_set.canCreate
  have hct := F.typeCall_set_1 (.ref l)
  repeat (any_goals (first | assumption | wp_step))
  refine codeAny_mono (code_set_led1 (.ref l) (E := E) (Q₁ := fun obj s₁ => obj = .ref s.heap.objs.size ∧ s₁ = { s with heap := s.heap.push (set0 w) }) ⟨rfl, rfl⟩) fun r s₁ hr => ?_
  cases r with
  | error e => exact hr
  | ok fl =>
    cases fl with
    | ret obj =>
      obtain ⟨rfl, rfl⟩ := hr
      have hS : (s.heap.push (set0 w)).get? s.heap.objs.size = some (set0 w) := Heap.get?_push_size _ rfl
      have hT : Shared.TypeIs { s with heap := s.heap.push (set0 w) } (.ref s.heap.objs.size) "set" := ⟨_, hS, rfl⟩
      have hli := F.called_set.init.lookup
      have hbi := F.called_set.init.bind (.ref s.heap.objs.size)
      repeat (any_goals (first | assumption | wp_step))
      refine codeAny_mono (codeAny_call_builtin (R := wants (fun r s₂ => r = .none ∧ ∃ h' tk m, s₂ = { s with heap := h', toks := tk } ∧ SetS w h' s.heap.objs.size (fun j => decide (j ∈ xs)) m ∧
          (∀ b o, s.heap.get? b = some o → h'.get? b = some o)) E) F.called_set.init.plain F.entry_set_init (check_set_init_1 hT ?_)) fun r₂ s₂ hr₂ => ?_
      · obtain ⟨ol, hol, hcl, nl, hdl⟩ := hl
        obtain ⟨ocls, odict, odata, oslots⟩ := ol
        simp only at hcl hdl
        subst hcl
        subst hdl
        have hol' : (s.heap.push (set0 w)).get? l = some { cls := .type "list", dict := odict, data := .seq items nl, slots := oslots } := Heap.get?_push_of_some _ hol
        have hsls := F.sub_list_set
        have hslf := F.sub_list_frozenset
        have hne : (Value.type "list" == Value.type "dict") = false := by decide
        have hl1 : (s.heap.push (set0 w)).IsList l items := ⟨_, hol', rfl, nl, rfl⟩
        unfold Builtin.«set.__init__» noKeywords Builtin.Frozenset.updateFrom
        generalize hPI : pyIter = PI
        wp_walk
        subst hPI
        refine wpAny_pyIter_list hl1 ?_
        refine wpAny_bind (wpAny_runValue ?_)
        have lS : l < s.heap.objs.size := Heap.lt_size hol
        have hh3 : A.in1.in1.in1.handled = none := by simp [hh]
        have z1 : (s.heap.push (set0 w)).objs.size = s.heap.objs.size + 1 := Heap.size_push ..
        have lI : l ≠ (s.heap.push (set0 w)).objs.size := by
          rw [Heap.size_push]
          exact Nat.ne_of_lt (Nat.lt_succ_of_lt lS)
        have aI : s.heap.objs.size ∉ [(s.heap.push (set0 w)).objs.size, l] := by
          rw [Heap.size_push]
          simp only [List.mem_cons, List.mem_singleton, List.not_mem_nil, or_false, not_or]
          exact ⟨Nat.ne_of_lt (Nat.lt_succ_self _), Nat.ne_of_gt lS⟩
        refine setS_update ((Walks.list hh3 _ l lI items).toS) s.heap.objs.size aI xs hit hb hval (items.size - 0) 0 _ (by omega) (Nat.zero_le _)
          ⟨⟨_, Heap.get?_push_size _ rfl, rfl, rfl⟩, (hl1.push _)⟩ ?hS0 ?hR
        case hS0 =>
          have hget : ((s.heap.push (set0 w)).push { cls := .type "list_iterator", data := .fields #[.ref l, .int 0 0] }).get? s.heap.objs.size = some (set0 w) := Heap.get?_push_of_some _ hS
          exact ⟨0, Nat.le_refl 0, (setS_new_at hget).congr fun j => by simp⟩
        case hR =>
          intro s' m mv hS'
          obtain ⟨h', g2, d', tk', os'⟩ := s'
          obtain rfl : g2 = s.gens := mv.gens
          obtain rfl : d' = s.drawn := mv.drawn
          obtain rfl : os' = s.os := mv.os
          show wpAny _ _ _ _ _ _
          refine wpAny_pure ?_
          show wpAny _ _ (ret Value.none) _ _ _
          refine wpAny_pure ⟨rfl, h', tk', m, rfl, hS', fun b o e => ?_⟩
          have b0 : b < s.heap.objs.size := Heap.lt_size e
          have b1 : b ≠ s.heap.objs.size := Nat.ne_of_lt b0
          have b2 : b ≠ (s.heap.push (set0 w)).objs.size := by
            rw [Heap.size_push]
            exact Nat.ne_of_lt (Nat.lt_succ_of_lt b0)
          refine mv.heap b o ?_ (Heap.get?_push_of_some _ (Heap.get?_push_of_some _ e))
          simp only [List.mem_cons, List.mem_singleton, List.not_mem_nil, or_false, not_or]
          exact ⟨b1, b2⟩
      · cases r₂ with
        | error e => exact hr₂
        | ok fl₂ =>
          cases fl₂ with
          | ret r =>
            obtain ⟨rfl, h', tk, m, rfl, hS', hk'⟩ := hr₂
            repeat (any_goals (first | assumption | wp_step))
            exact h _ _ _ hS' hk'
          | _ => exact hr₂.elim
    | _ => exact hr.elim
theorem strs_key {es : Array (Int × Value)} (g : ∀ e ∈ es.toList, GoodS w e) : ∀ v ∈ es.toList.map (·.2), ∃ x t, v = Value.str x t := fun v hv => by
  obtain ⟨e, he, rfl⟩ := List.mem_map.mp hv
  obtain ⟨x, t, h, _⟩ := g e he
  exact ⟨x, t, h⟩
end
/-! ### how many -/
theorem fewer_of_twice : ∀ l : List Str, ¬ l.Nodup → ∃ m : List Str, m.length < l.length ∧ ∀ y ∈ l, y ∈ m
  | [], h => absurd List.nodup_nil h
  | x :: l, h => by
    by_cases hx : x ∈ l
    · exact ⟨l, Nat.lt_succ_self _, fun y hy => (List.mem_cons.mp hy).elim (fun e => e ▸ hx) id⟩
    · have hn : ¬ l.Nodup := fun z => h (List.nodup_cons.mpr ⟨hx, z⟩)
      obtain ⟨m, h1, h2⟩ := fewer_of_twice l hn
      refine ⟨x :: m, Nat.succ_lt_succ h1, fun y hy => ?_⟩
      rcases List.mem_cons.mp hy with rfl | hy
      · exact List.mem_cons_self ..
      · exact List.mem_cons_of_mem _ (h2 y hy)
theorem nodup_le : ∀ (l m : List Str), l.Nodup → (∀ y ∈ l, y ∈ m) → l.length ≤ m.length
  | [], _, _, _ => Nat.zero_le _
  | x :: l, m, hn, hm => by
    obtain ⟨a, b, rfl⟩ := List.append_of_mem (hm x (List.mem_cons_self ..))
    obtain ⟨h1, h2⟩ := List.nodup_cons.mp hn
    have z := nodup_le l (a ++ b) h2 fun y hy => by
      have q := hm y (List.mem_cons_of_mem _ hy)
      rcases List.mem_append.mp q with q | q
      · exact List.mem_append_left _ q
      · rcases List.mem_cons.mp q with rfl | q
        · exact absurd hy h1
        · exact List.mem_append_right _ q
    rw [List.length_append] at z ⊢
    rw [List.length_cons, List.length_cons]
    omega
theorem count_iff {ks xs : List Str} (hn : ks.Nodup) (hm : ∀ k, k ∈ ks ↔ k ∈ xs) : ks.length = xs.length ↔ xs.Nodup := by
  refine ⟨fun e => ?_, fun h => ?_⟩
  · by_cases h : xs.Nodup
    · exact h
    · obtain ⟨m, h1, h2⟩ := fewer_of_twice xs h
      have z := nodup_le ks m hn fun y hy => h2 y ((hm y).1 hy)
      omega
  · have a := nodup_le ks xs hn fun y hy => (hm y).1 hy
    have b := nodup_le xs ks h fun y hy => (hm y).2 hy
    omega
theorem SetS.count {w : World} {h : Heap} {a : Addr} {xs : List Str} {n : Nat} (R : SetS w h a (fun j => decide (j ∈ xs)) n) : n ≤ xs.length ∧ (n = xs.length ↔ xs.Nodup) := by
  obtain ⟨o, es, ep, t, ho, hx, hd, g, nd, hm, hb, hf, hn, _⟩ := R
  have hm' : ∀ k, k ∈ es.toList.map keyS ↔ k ∈ xs := fun k => by
    rw [← hm k, decide_eq_true_eq]
  have e : (es.toList.map keyS).length = n := by
    rw [List.length_map, Array.length_toList]
    exact hn
  have c := count_iff nd hm'
  rw [e] at c
  refine ⟨?_, c⟩
  rw [← e]
  exact nodup_le _ _ nd fun y hy => (hm' y).1 hy
/-! ### as tracked things -/
def SetSO (w : World) (a : Addr) (S : Str → Bool) (n : Nat) : HO := .ext fun h => SetS w h a S n
theorem setSO_new {w : World} {P : Program} {H : Hp} {h : Heap} {a : Addr} {S : Str → Bool} {n : Nat} (R : SetS w h a S n) : ObjOk P w H h a (SetSO w a S n) := by
  have ⟨o, _, _, _, ho, _⟩ := R
  exact ⟨R, ⟨o, ho⟩, fun h1 h2 p k => SetS.at p k⟩
section
variable {X : Cx}
theorem setSO_get {pins : List (Addr × Obj)} {σ : St} {H : Hp} {s : Shared} {a : Addr} {S : Str → Bool} {n : Nat} (I : Inv X pins σ H s) (ha : H a = some (SetSO X.w a S n)) : SetS X.w s.heap a S n := (I.hok a _ ha).1
theorem vals_strs_at {xs : List Str} {us : List Value} (r : Vals (xs.map V.str) us) (i : Nat) (v : Value) (e : us[i]? = some v) : ∃ x t, xs[i]? = some x ∧ v = .str x t := by
  have hl : i < us.length := (List.getElem?_eq_some_iff.mp e).1
  have hx : i < xs.length := by
    have z := r.length
    rw [List.length_map] at z
    omega
  have q : (xs.map V.str)[i]? = some (V.str xs[i]) := by
    rw [List.getElem?_map, List.getElem?_eq_getElem hx]
    rfl
  obtain ⟨u, h1, t, h2⟩ := Vals.get r q
  rw [e] at h1
  exact ⟨xs[i], t, List.getElem?_eq_getElem hx, by rw [Option.some.inj h1]; exact h2⟩
/-- set(l), l a list of texts -/
def rSetS (K : PySem.W.Frag) (w : World) : List V → Hp → VK → Prop := fun xs H Q => ∃ (l : Addr) (ys : List Str), xs = [.ref l] ∧ SqL K H l (ys.map V.str) ∧ ys.length ≤ 1000 ∧
  ∀ (p : Addr) (m : Nat), H p = none → m ≤ ys.length → (m = ys.length ↔ ys.Nodup) → Q (.ref p) (upd H p (SetSO w p (fun j => decide (j ∈ ys)) m))
theorem cr_setS (hc : X.calm = true) : CallR X (.type "set") (rSetS X.K X.w) := by
  intro pins s σ H xs us Q I r h
  obtain ⟨l, ys, rfl, hs, hz, q⟩ := h
  rw [Vals.ref1 r]
  obtain ⟨its, rv, pl, _⟩ := I.list hs
  have hsz : its.toArray.size = ys.length := by
    rw [List.size_toArray, ← rv.length, List.length_map]
  refine setS_call ys (I.ok.hd hc) pl.isList hsz (fun i v e => vals_strs_at rv i v (by simpa using e)) (Nat.lt_of_le_of_lt (Nat.succ_le_succ hz) (by decide)) fun h' tk m R k => ?_
  obtain ⟨c1, c2⟩ := R.count
  have hn := I.hok.fresh (Nat.le_refl s.heap.objs.size)
  exact ⟨.ref s.heap.objs.size, upd H s.heap.objs.size (SetSO X.w s.heap.objs.size (fun j => decide (j ∈ ys)) m), I.laid (t' := tk) k (Nat.le_refl _) (setSO_new R), rfl, q _ m hn c1 c2⟩
/-- len(s), s such a set -/
def rLenS (w : World) : List V → Hp → VK → Prop := fun xs H Q => ∃ (a : Addr) (S : Str → Bool) (n : Nat), xs = [.ref a] ∧ H a = some (SetSO w a S n) ∧ Q (.int n) H
theorem cr_lenS : CallR X (.builtin "len") (rLenS X.w) := by
  intro pins s σ H xs us Q I r h
  obtain ⟨a, S, n, rfl, ha, q⟩ := h
  rw [Vals.ref1 r]
  obtain ⟨o, es, ep, t, ho, hex, hd, _, _, _, hb, hf, hn, _⟩ := setSO_get I ha
  have hsmall : scanBound < 2 ^ 62 := by decide
  exact call_len_set ho hex hd hf (by omega) ⟨.int n, H, I.tok _, ⟨_, by rw [hn]⟩, q⟩
end
end Eld
end L2

set_option Elab.async false
set_option linter.all false
set_option maxRecDepth 100000
set_option maxHeartbeats 4000000
/-! ## sorted(s) of a set of texts; {elt for a in .. for b in ..} of texts -/
namespace L2
namespace Eld
open PySem PySem.Spec PyProof.Rows PySem.EldX
theorem strsAre_of_all : ∀ (vs : List Value), (∀ v ∈ vs, ∃ x t, v = Value.str x t) → ∃ ys : List Str, StrsAre vs ys
  | [], _ => ⟨[], .nil⟩
  | v :: vs, h => by
    obtain ⟨x, t, rfl⟩ := h v (List.mem_cons_self ..)
    obtain ⟨ys, hy⟩ := strsAre_of_all vs fun u hu => h u (List.mem_cons_of_mem _ hu)
    exact ⟨x :: ys, .cons x t hy⟩
theorem sort_tree_strs {P : Program} {w : World} {A : Around} {E : Value → Shared → Prop} {s : Shared} {a : Addr} {vs : List Value} {zs : List Str} {n : Nat} {Q : Fin → Shared → Prop} (ho : s.heap.get? a = some (seqObj "list" vs.toArray n)) (hS : StrsAre vs zs) (h64 : vs.length < 64)
    (h : ∀ (out : Array Value) (ys : List Str), StrsAre out.toList ys → ys.Perm zs → sortedS ys = true → Q (.done (.ret .none)) { s with heap := sortedHeap s.heap a vs out }) :
    wpAny (model P w) A (Builtin.«list.sort» ⟨[.ref a], []⟩) Q E s :=
  list_sort_treeK strKind_oneLt ho hS.keysOf (fun v₁ v₂ rest e => keyKind_strs (by rw [← e]; exact hS)) h64 fun st' hp hs => by
    obtain ⟨ys, g1, g2, g3⟩ := sorted_out_str hS hp hs
    exact h _ ys g1 g2 g3
theorem strsAre_keys : ∀ {vs : List Value} {ys : List Str}, StrsAre vs ys → vs.map (fun v => keyS (0, v)) = ys
  | _, _, .nil => rfl
  | _, _, .cons x t h => by
    rw [List.map_cons, strsAre_keys h]
    rfl
section
variable {P : Program} {w : World} {A : Around} {E : Value → Shared → Prop} {s : Shared} {a : Addr} {S : Str → Bool} {n : Nat}
theorem sorted_setS {Q : Value → Shared → Prop} (R : SetS w s.heap a S n) (hh : A.handled = none) (h64 : n < 64)
    (hQ : ∀ s' p (out : Array Value) (c : Nat) (ys : List Str), (∀ b o, s.heap.get? b = some o → s'.heap.get? b = some o) → s'.gens = s.gens → s'.os = s.os → s.heap.objs.size ≤ p →
      s'.heap.get? p = some (seqObj "list" out c) → StrsAre out.toList ys → sortedS ys = true → ys.Nodup → (∀ k, k ∈ ys ↔ S k = true) → ys.length = n → Q (.ref p) s') :
    wpAny (model P w) A (call (.builtin "sorted") [.ref a]) Q E s := by
  obtain ⟨o, es, ep, t, ho, hex, hd, g, nd, hm, hb, hf, hn, hr, hl⟩ := R
  refine Calls.call_function_entry kind_sorted plain_sorted entry_sorted (args_sorted1 _) ?_
  unfold Builtin.«sorted»
  refine wpAny_bind (m := checkCount "sorted" 1 1 _) (wpAny_pure ?_)
  refine wpAny_bind (collect_set (A := A.in1) hh ⟨o, ho, hex.1, hd⟩ hf hb hr hl fun s1 vs k1 hz g1 o1 pm => ?_)
  have vl : vs.length = n := by
    rw [pm.length_eq, List.length_map, Array.length_toList]
    exact hn
  obtain ⟨zs, hS⟩ := strsAre_of_all vs fun v hv => strs_key g v (pm.mem_iff.mp hv)
  have pk : zs.Perm (es.toList.map keyS) := by
    have q := pm.map fun v => keyS (0, v)
    rw [List.map_map, strsAre_keys hS] at q
    exact q
  refine wpAny_bind (wpAny_newList ?_ (by rw [vl, sizeLine_eq]; omega))
  have hoL : (s1.heap.push (seqObj "list" vs.toArray 0)).get? s1.heap.objs.size = some (seqObj "list" vs.toArray 0) := Heap.get?_push_size _ rfl
  refine wpAny_bind (wpAny_holding (wpAny_call_entry slot_list_sort ⟨_, hoL, rfl⟩ entry_list_sort (sort_tree_strs hoL hS (by rw [vl]; exact h64) fun out ys a1 a2 a3 => ⟨_, rfl, ?_⟩) (args_list_sort _)))
  obtain ⟨c, hc⟩ := sortedHeap_at (vs := vs) (out := out) hoL
  have pn : ys.Perm (es.toList.map keyS) := a2.trans pk
  refine wpAny_pure ⟨_, rfl, hQ _ s1.heap.objs.size out c ys (fun b u e => ?_) g1 o1 hz hc a1 a3 (pn.nodup_iff.mpr nd) (fun k => by rw [pn.mem_iff, ← hm k]) ?_⟩
  · have q := k1 b u e
    have lt := Heap.lt_size q
    show (sortedHeap (s1.heap.push (seqObj "list" vs.toArray 0)) s1.heap.objs.size vs out).get? b = some u
    rw [sortedHeap_old (Nat.ne_of_lt lt) (by rw [size_push']; exact Nat.lt_succ_of_lt lt)]
    exact Heap.get?_push_of_some _ q
  · rw [pn.length_eq, List.length_map, Array.length_toList]
    exact hn
end
/-- sorted(s), s a set of texts -/
def rSortedS' (w : World) : List V → Hp → VK → Prop := fun xs H Q => ∃ (a : Addr) (S : Str → Bool) (n : Nat), xs = [.ref a] ∧ H a = some (SetSO w a S n) ∧ n < 64 ∧
  ∀ (ys : List Str) (p : Addr), sortedS ys = true → ys.Nodup → (∀ k, k ∈ ys ↔ S k = true) → ys.length = n → H p = none → Q (.ref p) (upd H p (.lst (ys.map V.str)))
section
variable {X : Cx}
theorem cr_sortedSetS (hc : X.calm = true) : CallR X (.builtin "sorted") (rSortedS' X.w) := by
  intro pins s σ H xs us Q I r h
  obtain ⟨a, S, n, rfl, ha, h64, q⟩ := h
  rw [Vals.ref1 r]
  refine sorted_setS (setSO_get I ha) (I.ok.hd hc) h64 fun s' p out c ys k g1 o1 hp hout a1 a2 a3 a4 a5 => ?_
  have hlen : (ys.map V.str).length ≤ sizeLine := by
    rw [List.length_map, a5, sizeLine_eq]
    omega
  have hn : H p = none := I.hok.fresh hp
  have J : Inv X pins σ (upd H p (.lst (ys.map V.str))) { s with heap := s'.heap, gens := s'.gens, drawn := s'.drawn, toks := s'.toks } :=
    I.call (ch := []) (Un.laid k hp hn) (I.hok.laid k hp (show ObjOk X.prog X.w _ _ p (.lst (ys.map V.str)) from ⟨hlen, out.toList, c, vals_of_strs a1, by rw [Array.toArray_toList]; exact hout⟩)) (by rw [g1]; exact I.bare) (fun _ z => nomatch z)
  have e : s' = { s with heap := s'.heap, gens := s'.gens, drawn := s'.drawn, toks := s'.toks } := by
    cases s'
    cases s
    cases o1
    rfl
  rw [e]
  exact ⟨.ref p, _, J, rfl, q ys p a2 a3 a4 a5 hn⟩
end
end Eld
end L2

set_option Elab.async false
set_option linter.all false
set_option maxRecDepth 100000
set_option maxHeartbeats 4000000
/-! ## a comprehension's clauses without tests, one rule for each of them; sets of texts made of two clauses -/
namespace L2
namespace Eld
open PySem PySem.Spec PyProof.Rows PySem.EldX
/-- no error comes -/
abbrev noE : Value → Shared → Prop := fun _ _ => False
theorem wpAny_ofNo {α : Type} {M : Model} {A : Around} {t : Sem α} {Q : α → Shared → Prop} {E : Value → Shared → Prop} {s : Shared} (h : wpAny M A t Q noE s) : wpAny M A t Q E s := wpAny_mono h (fun _ _ q => q) fun _ _ z => z.elim
/-- what the first slots know the second know -/
structure Knows (σ σ' : St) : Prop where
  len : σ.length = σ'.length
  has : ∀ (j : Nat) v, σ[j]? = some (some v) → σ'[j]? = some (some v)
theorem Knows.rfl' {σ : St} : Knows σ σ := ⟨rfl, fun _ _ h => h⟩
theorem Knows.trans {σ1 σ2 σ3 : St} (a : Knows σ1 σ2) (b : Knows σ2 σ3) : Knows σ1 σ3 := ⟨a.len.trans b.len, fun j v h => b.has j v (a.has j v h)⟩
theorem Knows.wiped {σ : St} {vs : List Nat} : Knows (wipe σ vs) σ := ⟨wipe_length σ vs, fun _ _ h => (wipe_some h).1⟩
theorem Knows.back {σ σ2 : St} {vs : List Nat} (h : wipe σ2 vs = wipe σ vs) : Knows (wipe σ vs) σ2 := by
  rw [← h]
  exact .wiped
theorem Knows.sub {σ σ2 : St} {vs vs1 : List Nat} (h : wipe σ2 vs = wipe σ vs) (hv : ∀ i ∈ vs1, i ∈ vs) : Knows (wipe σ vs) (wipe σ2 vs1) := by
  refine ⟨by rw [← h, wipe_length, wipe_length], fun j v e => ?_⟩
  rw [← h] at e
  obtain ⟨e1, e2⟩ := wipe_some e
  rw [wipe_out fun z => e2 (hv j z)]
  exact e1
/-- one turn of a clause: each item is stored, then body runs -/
abbrev clTurn (node : Expr) (k : Nat) (tg ie : Expr) (it acc : Value) (env : Env) (body : Sem Unit) : Sem Fin := do
  standAt ie.pos
  match ← pyNext it with
  | none => pure (.done .next)
  | some v => do
    letOwnedTupleGo tg it v
    assign tg env v
    body
    again (.compLoop node k it acc env)
section
variable {prog : Program} {w : World} {A : Around} {R : Result → Shared → Prop} {s : Shared} {node tg ie : Expr} {k : Nat} {it acc : Value} {env : Env} {body : Sem Unit}
theorem cl_loop (hu : A.under (.compLoop node k it acc env) = A) (hd : (model prog w).den (.compLoop node k it acc env) = (compTurn node k it acc env).onRaise fun x => do noteFrame x env; theTreesLotGoes x) (hq : (Code.compLoop node k it acc env).quiet = true) (eq : compTurn node k it acc env = clTurn node k tg ie it acc env body) (J : Nat → Shared → Prop)
    (turn : ∀ n s, J n s → wpAny (model prog w) A (pyNext it) (fun r s1 => (r = none ∧ R (.ok .next) s1) ∨ ∃ v, r = some v ∧ wpAny (model prog w) A (letOwnedTupleGo tg it v) (fun _ s2 =>
      wpAny (model prog w) A (assign tg env v) (fun _ s3 => wpAny (model prog w) A body (fun _ s4 => ∃ m, m < n ∧ J m s4) noE s3) noE s2) noE s1) noE s)
    (n : Nat) (h : J n s) : codeAny (model prog w) A (.compLoop node k it acc env) R s := by
  refine codeAny_loop hq J (fun n s hJ => ?_) n h
  rw [hu, hd]
  refine wpAny_noted ?_
  rw [eq]
  refine wpAny_bind (wpAny_standAt (wpAny_bind (thnF (turn n s hJ) fun r s1 h1 => ?_)))
  rcases h1 with ⟨rfl, q⟩ | ⟨v, rfl, q⟩
  · exact wpAny_pure q
  · refine wpAny_bind (thnF q fun _ s2 h2 => wpAny_bind (thnF h2 fun _ s3 h3 => wpAny_bind (thnF h3 fun _ s4 h4 => ?_)))
    exact wpAny_pure ⟨rfl, h4⟩
end
/-- a clause's loop over what its iterator tells -/
theorem cl_run {X : Cx} {pins : List (Addr × Obj)} {node tg ie : Expr} {k : Nat} {it : Addr} {acc : Value} {body : Sem Unit} {R : Result → Shared → Prop} {fp : List Addr} {tn : Nat → Heap → Prop} {J : It} {g : TG} {σ : St} {H : Hp} {s : Shared} {m : Nat} {W : Nat → Nat → Hp → Prop} {Done : Hp → Prop}
    (hxe : ∀ e s, X.xe e s → False) (hu : X.A.under (.compLoop node k (.ref it) acc X.env) = X.A) (hd : (model X.prog X.w).den (.compLoop node k (.ref it) acc X.env) = (compTurn node k (.ref it) acc X.env).onRaise fun x => do noteFrame x X.env; theTreesLotGoes x)
    (hq : (Code.compLoop node k (.ref it) acc X.env).quiet = true) (eq : compTurn node k (.ref it) acc X.env = clTurn node k tg ie (.ref it) acc X.env body) (hc : X.calm = true) (T : Turn X.prog X.w X.K tg J fp it tn) (pg : PG X tg g)
    (fok : ∀ σ' H' s', Inv X pins σ' H' s' → (∀ b ∈ fp, H' b = none) → ∀ b ∈ fp, FpOk X pins H' b)
    (step : ∀ i m H, W i m H → (J.stop i H ∧ Done H) ∨ (J.go i H ∧ ∃ Nx : Hp → Prop, (∀ H', Nx H' → ∃ m', m' < m ∧ W (i + 1) m' H') ∧ ∀ x H', J.yld i H x H' → ∃ Mid : St → Hp → Prop, g x σ H' Mid ∧ ∀ σ2 H2, Mid σ2 H2 →
      ∀ more s2, Inv X (pins ++ more) σ2 H2 s2 → wpAny (model X.prog X.w) X.A body (fun _ s3 => ∃ σ3 H3, Inv X (pins ++ more) σ3 H3 s3 ∧ Knows σ σ3 ∧ Nx H3) noE s2))
    (done : ∀ H' s', Inv X pins σ H' s' → Done H' → R (.ok .next) s') (I : Inv X pins σ H s) (t0 : tn 0 s.heap) (n0 : ∀ b ∈ fp, H b = none) (w0 : W 0 m H) :
    codeAny (model X.prog X.w) X.A (.compLoop node k (.ref it) acc X.env) R s := by
  refine cl_loop hu hd hq eq (fun n s' => ∃ i H', Inv X pins σ H' s' ∧ tn i s'.heap ∧ (∀ b ∈ fp, H' b = none) ∧ W i n H') (fun n s5 hJ => ?_) m ⟨0, H, I, t0, n0, w0⟩
  obtain ⟨i, G, IG, tG, nG, wG⟩ := hJ
  have okG := fok _ _ _ IG nG
  rcases step i n G wG with ⟨stop, d⟩ | ⟨go, Nx, hNx, st⟩
  · exact thnF (T.done X rfl rfl rfl hc i pins s5 σ G noE IG okG tG stop) fun r s6 ⟨hr, I6⟩ => .inl ⟨hr, done _ _ I6 d⟩
  · refine thnF (T.item X rfl rfl rfl hc i pins s5 σ G noE IG okG tG go) fun r s6 ⟨u, hr, h6⟩ => .inr ⟨u, hr, thnF h6 fun _ s7 ⟨x, G7, I7, rx, y7, t7, n7⟩ => ?_⟩
    have P7 := I7.pinned (fok _ _ _ I7 n7) (T.obj _ _ t7)
    obtain ⟨Mid, gm, bd⟩ := st x G7 y7
    refine wpAny_mono (pg.run (pins ++ pinsAt fp s7.heap) s7 σ G7 x u _ P7 rx gm) (fun _ s8 ⟨σ8, G8, I8, q8⟩ => ?_) fun e s8 z => ?_
    · refine thnF (bd σ8 G8 q8 _ s8 I8) fun _ s9 ⟨σ9, G9, I9, kn, nx⟩ => ?_
      obtain ⟨m', hm, w'⟩ := hNx G9 nx
      have held : ∀ b ∈ fp, ∀ o, s7.heap.get? b = some o → s9.heap.get? b = some o ∧ G9 b = none := fun b hb o e =>
        have z := I9.pin (b, o) (List.mem_append_right _ (List.mem_append_right _ (mem_pinsAt hb e)))
        ⟨z.1, z.2.1⟩
      refine ⟨m', hm, i + 1, G9, (I9.unpinned (pins := pins)).weak kn.len kn.has, T.keep _ _ _ t7 fun b hb o e => (held b hb o e).1, fun b hb => ?_, w'⟩
      obtain ⟨o, e, _⟩ := T.obj _ _ t7 b hb
      exact (held b hb o e).2
    · exact (hxe e s8 z).elim
/-! ### {elt for tg in iter for tg1 in iter1} -/
section
variable {prog : Program} {w : World} {A : Around} {R : Result → Shared → Prop} {s : Shared} {elt t0 i0 t1 i1 : Expr} {scope : Scope} {pos : Pos} {it acc : Value} {env : Env}
abbrev sc2 (elt t0 i0 t1 i1 : Expr) (scope : Scope) (pos : Pos) : Expr := .SetComp elt [⟨t0, i0, [], 0⟩, ⟨t1, i1, [], 0⟩] scope pos
abbrev bodyOut (elt t0 i0 t1 i1 : Expr) (scope : Scope) (pos : Pos) (acc : Value) (env : Env) : Sem Unit := do
  let x ← eval i1 env
  standAt i1.pos
  let x ← foldedSetIterable i1 env x
  let _ ← runOwn (.compStart (sc2 elt t0 i0 t1 i1 scope pos) 1 (← holding [x] (pyIter x)) acc env) env
abbrev bodyIn (elt : Expr) (acc : Value) (env : Env) : Sem Unit := do
  let v ← eval elt env
  standAt elt.pos
  let _ ← call (.builtin "set.add") [acc, v]
theorem turn_out : compTurn (sc2 elt t0 i0 t1 i1 scope pos) 0 it acc env = clTurn (sc2 elt t0 i0 t1 i1 scope pos) 0 t0 i0 it acc env (bodyOut elt t0 i0 t1 i1 scope pos acc env) := by
  first
    | rfl
    | (unfold compTurn clTurn bodyOut
       simp
       refine congrArg _ (funext fun _ => congrArg _ (funext fun r => ?_))
       cases r <;> simp)
theorem turn_in : compTurn (sc2 elt t0 i0 t1 i1 scope pos) 1 it acc env = clTurn (sc2 elt t0 i0 t1 i1 scope pos) 1 t1 i1 it acc env (bodyIn elt acc env) := by
  first
    | rfl
    | (unfold compTurn clTurn bodyIn
       simp
       refine congrArg _ (funext fun _ => congrArg _ (funext fun r => ?_))
       cases r <;> simp)
end
end Eld
end L2

set_option Elab.async false
set_option linter.all false
set_option maxRecDepth 100000
set_option maxHeartbeats 4000000
namespace L2
namespace Eld
open PySem PySem.Spec PyProof.Rows PySem.EldX
/-- s.add of a text, s tracked -/
theorem addS_ok {X : Cx} {pins : List (Addr × Obj)} {σ : St} {H : Hp} {s : Shared} {E : Value → Shared → Prop} {D : Addr} {S : Str → Bool} {n : Nat} {x : Str} {t : Tok} {Q : Value → Shared → Prop} (I : Inv X pins σ H s) (hD : H D = some (SetSO X.w D S n)) (room : n + 1 < scanBound)
    (h : ∀ s', Inv X pins σ (upd H D (SetSO X.w D (fun j => S j || decide (j = x)) (if S x = true then n else n + 1))) s' → Q .none s') : wpAny (model X.prog X.w) X.A (call (.builtin "set.add") [.ref D, .str x t]) Q E s := by
  refine setS_add (setSO_get I hD) room fun h' sb fresh => ?_
  obtain ⟨o, hfresh⟩ : ∃ u, h'.get? D = some u := by
    obtain ⟨o, es, ep, tb, ho, _⟩ := fresh
    exact ⟨o, ho⟩
  exact h _ (I.write (e := D) (t' := s.toks + 1) (by rw [hD]; trivial) (.inl rfl) (fun b u hb hu => (sb.2 b hb).trans hu) ⟨o, hfresh⟩ (setSO_new fresh))
section
variable {prog : Program} {w : World} {A : Around} {R : Result → Shared → Prop} {s : Shared} {elt t0 i0 t1 i1 : Expr} {scope : Scope} {pos : Pos} {it acc : Value} {env : Env}
/-- the second clause begins -/
theorem sc2_start (h1 : codeAny (model prog w) A (.compLoop (sc2 elt t0 i0 t1 i1 scope pos) 1 it acc env) R s)
    (h2 : wpAny (model prog w) A (pyIter it) (fun it' s' => codeAny (model prog w) A (.compLoop (sc2 elt t0 i0 t1 i1 scope pos) 1 it' acc env) R s') noE s) :
    codeAny (model prog w) A (.compStart (sc2 elt t0 i0 t1 i1 scope pos) 1 it acc env) R s := by
  refine codeAny_of_tree ?_
  show wpAny _ _ ((compStart (sc2 elt t0 i0 t1 i1 scope pos) 1 it acc env).onRaise (fun x => do noteFrame x env; standAt theWindowsPlace)) _ _ s
  refine wpAny_notedAt ?_
  unfold compStart
  show wpAny _ _ (ask >>= _) _ _ s
  refine wpAny_bind (wpAny_askSetting (wpAny_ite ?_))
  split
  · first
      | exact wpAny_pure (And.intro rfl h1)
      | exact wpAny_bind (wpAny_pure (wpAny_pure (And.intro rfl h1)))
  · refine wpAny_bind (wpAny_rule ?_)
    show wpAny _ _ (standAt i1.pos >>= _) _ _ s
    exact wpAny_bind (wpAny_standAt (wpAny_bind (thnF h2 fun it' s' h' => wpAny_pure (And.intro rfl h'))))
end
/-- {elt for tg in iter for tg1 in iter1}: elt a text; vs the block's names, vs1 those of the second target -/
def tSc2 (w : World) (wi : TI) (g : TG) (wi1 : TI) (g1 : TG) (te : TE) (vs vs1 : List Nat) : TE := fun σ H Q => wi σ H fun J H1 => ∀ D, H1 D = none →
  ∃ W : Nat → Nat → Hp → Prop, (∃ m, W 0 m (upd H1 D (SetSO w D (fun _ => false) 0))) ∧ ∀ i m G, W i m G → (J.stop i G ∧ Q (.ref D) G) ∨ (J.go i G ∧
    ∃ Nx : Hp → Prop, (∀ G', Nx G' → ∃ m', m' < m ∧ W (i + 1) m' G') ∧ ∀ x G', J.yld i G x G' → g x (wipe σ vs) G' fun σ2 H2 => wipe σ2 vs = wipe σ vs ∧ wi1 σ2 H2 fun J1 H4 =>
      ∃ W1 : Nat → Nat → Hp → Prop, (∃ m, W1 0 m H4) ∧ ∀ j k G, W1 j k G → (J1.stop j G ∧ Nx G) ∨ (J1.go j G ∧
        ∃ Nx1 : Hp → Prop, (∀ G', Nx1 G' → ∃ k', k' < k ∧ W1 (j + 1) k' G') ∧ ∀ x G', J1.yld j G x G' → g1 x (wipe σ2 vs1) G' fun σ3 H5 => wipe σ3 vs1 = wipe σ2 vs1 ∧ te σ3 H5 fun y H6 =>
          ∃ (c : Str) (S : Str → Bool) (n : Nat), y = .str c ∧ H6 D = some (SetSO w D S n) ∧ n + 1 < scanBound ∧ Nx1 (upd H6 D (SetSO w D (fun j => S j || decide (j = c)) (if S c = true then n else n + 1)))))
section
variable {X : Cx}
theorem pe_sc2 {elt tg iter tg1 iter1 : Expr} {scope : Scope} {own : List (Str × Nat)} {vs1 : List Nat} {pos : Pos} {wi wi1 : TI} {g g1 : TG} {te : TE} (hc : X.calm = true) (hN : X.N.Nodup) (hi : PI X tg iter wi) (ok : BlkOk X.N X.env.scope scope own) (hv : ∀ i ∈ vs1, i ∈ own.map (·.2))
    (hg : ∀ (s : Shared) (H : Hp) (C : Addr) (cl : List (Str × Addr)) (fp : List Addr), PG (X.blk s H scope (compEnvC scope cl C X.env) fp) tg g)
    (hi1 : ∀ (s : Shared) (H : Hp) (C : Addr) (cl : List (Str × Addr)) (fp : List Addr), PI (X.blk s H scope (compEnvC scope cl C X.env) fp) tg1 iter1 wi1)
    (hg1 : ∀ (s : Shared) (H : Hp) (C : Addr) (cl : List (Str × Addr)) (fp : List Addr), PG (X.blk s H scope (compEnvC scope cl C X.env) fp) tg1 g1)
    (he : ∀ (s : Shared) (H : Hp) (C : Addr) (cl : List (Str × Addr)) (fp : List Addr), PE (X.blk s H scope (compEnvC scope cl C X.env) fp) elt te)
    (hs : ∀ x, foldedSetIterable iter X.env x = pure x := by intro _; rfl) (hs1 : ∀ env x, foldedSetIterable iter1 env x = pure x := by intro _ _; rfl) :
    PE X (sc2 elt tg iter tg1 iter1 scope pos) (tSc2 X.w wi g wi1 g1 te (own.map (·.2)) vs1) := by
  refine ⟨fun pins s σ H Q I h => ?_⟩
  rw [PpSet.eval_SetComp]
  have hfree : ∀ y ∈ scope.names, y.2 = .free → ∃ c, X.env.cells.lookup y.1 = some c := fun y hy e => (ok.free y hy e).elim (fun k => I.ok.has _ (.inl k)) fun k => I.ok.has _ (.inr k)
  refine wpAny_comprehension_free rfl hs (closure_ok hfree) ok.kind (fun y hy e => by rw [ok.uniq y hy, e]) (thn (hi.run pins s σ H _ I h) fun xv s1 hx => thn hx fun itv s2 h2 => ?_)
  obtain ⟨it, fp, tn, J, H2, rfl, I2, T, t2, f2, q⟩ := h2
  refine PpSet.newSet_ok (newEnv_comp ?_)
  obtain ⟨W, ⟨m0, w0⟩, step⟩ := q s2.heap.objs.size (I2.hok.fresh (Nat.le_refl _))
  -- the new set
  have old3 : ∀ b o, s2.heap.get? b = some o → (s2.heap.push { cls := .type "set", dict := none, data := .set #[] 0 (.fresh 0 0 (!X.w.params.followText "set-order")) }).get? b = some o := fun b o e => Heap.get?_push_of_some _ e
  have I3 : Inv X pins σ (upd H2 s2.heap.objs.size (SetSO X.w s2.heap.objs.size (fun _ => false) 0)) { s2 with heap := s2.heap.push { cls := .type "set", dict := none, data := .set #[] 0 (.fresh 0 0 (!X.w.params.followText "set-order")) } } :=
    I2.laid (t' := s2.toks) old3 (Nat.le_refl _) (setSO_new (setS_new_at (Heap.get?_push_size _ rfl)))
  have small : ∀ b ∈ fp, b < s2.heap.objs.size := fun b hb => let ⟨o, e, _⟩ := T.obj _ _ t2 b hb; Heap.lt_size e
  have fp3 : ∀ b ∈ fp, FpOk X pins (upd H2 s2.heap.objs.size (SetSO X.w s2.heap.objs.size (fun _ => false) 0)) b ∧ b < (s2.heap.push { cls := .type "set", dict := none, data := .set #[] 0 (.fresh 0 0 (!X.w.params.followText "set-order")) }).objs.size := fun b hb => by
    refine ⟨⟨?_, (f2 b hb).2⟩, by rw [Heap.size_push]; exact Nat.lt_succ_of_lt (small b hb)⟩
    rw [upd_ne (Nat.ne_of_lt (small b hb))]
    exact (f2 b hb).1
  generalize hD : s2.heap.objs.size = D at w0 step I3 fp3 ⊢
  generalize hs3 : ({ s2 with heap := s2.heap.push { cls := .type "set", dict := none, data := .set #[] 0 (.fresh 0 0 (!X.w.params.followText "set-order")) } } : Shared) = s3 at I3 ⊢
  have e3 : s3.heap = s2.heap.push { cls := .type "set", dict := none, data := .set #[] 0 (.fresh 0 0 (!X.w.params.followText "set-order")) } := by rw [← hs3]
  rw [← e3] at fp3
  have t3 : tn 0 s3.heap := T.keep _ _ _ t2 fun b _ o e => by rw [e3]; exact old3 b o e
  generalize hH3 : upd H2 D (SetSO X.w D (fun _ => false) 0) = H3 at w0 I3 fp3
  have I4 := block_start I3 ok hN fp3
  have pg := hg s3 H3 s3.heap.objs.size (cellsFrom (s3.heap.objs.size + 1) scope.names (cloFrom X.env.cells scope.names [])) fp
  have pe := he s3 H3 s3.heap.objs.size (cellsFrom (s3.heap.objs.size + 1) scope.names (cloFrom X.env.cells scope.names [])) fp
  have pi1 := hi1 s3 H3 s3.heap.objs.size (cellsFrom (s3.heap.objs.size + 1) scope.names (cloFrom X.env.cells scope.names [])) fp
  have pg1 := hg1 s3 H3 s3.heap.objs.size (cellsFrom (s3.heap.objs.size + 1) scope.names (cloFrom X.env.cells scope.names [])) fp
  show codeAny _ _ (.compStart (sc2 elt tg iter tg1 iter1 scope pos) 0 (.ref it) (.ref D) (compEnvC scope (cellsFrom (s3.heap.objs.size + 1) scope.names (cloFrom X.env.cells scope.names [])) s3.heap.objs.size X.env)) (compPost (model X.prog X.w) X.A X.xe none _ (.ref D) s3.heap.objs.size) { s3 with heap := pushCells (s3.heap.push { cls := .type "dict", data := .dict #[] }) scope.names }
  generalize hce : compEnvC scope (cellsFrom (s3.heap.objs.size + 1) scope.names (cloFrom X.env.cells scope.names [])) s3.heap.objs.size X.env = ce at I4 pg pe pi1 pg1 ⊢
  have cL : ce.locals = s3.heap.objs.size := by rw [← hce]; rfl
  generalize hs4 : ({ s3 with heap := pushCells (s3.heap.push { cls := .type "dict", data := .dict #[] }) scope.names } : Shared) = s4 at I4 ⊢
  have t4 : tn 0 s4.heap := T.keep _ _ _ t3 fun b _ o e => by rw [← hs4]; exact pushCells_keeps _ _ _ _ (Heap.get?_push_of_some _ e)
  have inblk : ∀ (σ' : St) (G : Hp) (s' : Shared), Inv (X.blk s3 H3 scope ce fp) [] σ' G s' → (∀ b ∈ fp, G b = none) → ∀ b ∈ fp, FpOk (X.blk s3 H3 scope ce fp) [] G b := fun σ' G s' IG hn b hb =>
    ⟨hn b hb, (IG.ok.exf b hb).1, IG.ok.exfs b hb, .inl hb, fun x c e => (IG.ok.exf b hb).2 x c e, fun p hp => absurd (show p ∈ ([] : List (Addr × Obj)) ++ [] from hp) (by simp)⟩
  have loop : codeAny (model X.prog X.w) X.A (.compLoop (sc2 elt tg iter tg1 iter1 scope pos) 0 (.ref it) (.ref D) ce) (compPost (model X.prog X.w) X.A X.xe none (EP X pins σ Q) (.ref D) s3.heap.objs.size) s4 := by
    refine cl_run (X := X.blk s3 H3 scope ce fp) (W := W) (σ := wipe σ (own.map (·.2))) (Done := fun G => Q (.ref D) G) (fun _ _ z => z) rfl rfl rfl turn_out hc T pg inblk (fun i m G wG => ?_) (fun G s' IG d => ?_) I4 t4 (fun b hb => (fp3 b hb).1.1) w0
    · rcases step i m G wG with ⟨stop, d⟩ | ⟨go, Nx, hNx, st⟩
      · exact .inl ⟨stop, d⟩
      · refine .inr ⟨go, Nx, hNx, fun x G' y => ?_⟩
        refine ⟨_, st x G' y, fun σ2 H5 ⟨hw, hw1⟩ => ?_⟩
        intro more s5 I5
        refine wpAny_bind (thnF (pi1.run _ s5 σ2 H5 _ I5 hw1) fun xv s6 h6 => ?_)
        refine wpAny_bind (wpAny_standAt (wpAny_bind (wpAny_of_eq (hs1 ce xv) (wpAny_bind (wpAny_holding (thnF h6 fun itv s7 h7 => ?_))))))
        obtain ⟨it1, fp1, tn1, J1, H7, rfl, I7, T1, t7, f7, W1, ⟨m1, w1⟩, step1⟩ := h7
        have kn : Knows (wipe σ (own.map (·.2))) (wipe σ2 vs1) := Knows.sub hw hv
        have inner : codeAny (model X.prog X.w) X.A (.compLoop (sc2 elt tg iter tg1 iter1 scope pos) 1 (.ref it1) (.ref D) ce) (fun r s' => ∃ f, r = .ok f ∧ ∃ σ3 G3, Inv (X.blk s3 H3 scope ce fp) ([] ++ more) σ3 G3 s' ∧ Knows (wipe σ (own.map (·.2))) σ3 ∧ Nx G3) s7 := by
          refine cl_run (X := X.blk s3 H3 scope ce fp) (W := W1) (σ := wipe σ2 vs1) (Done := Nx) (fun _ _ z => z) rfl rfl rfl turn_in hc T1 pg1 (fun σ' G s' IG hn b hb => ⟨hn b hb, (f7 b hb).2⟩) (fun j k G wG => ?_) (fun G s' IG d => ⟨_, rfl, _, G, IG, kn, d⟩) (I7.weak (wipe_length _ _) fun j v e => (wipe_some e).1) t7 (fun b hb => (f7 b hb).1) w1
          rcases step1 j k G wG with ⟨stop, d⟩ | ⟨go, Nx1, hNx1, st1⟩
          · exact .inl ⟨stop, d⟩
          · refine .inr ⟨go, Nx1, hNx1, fun x G' y => ?_⟩
            refine ⟨_, st1 x G' y, fun σ3 H8 ⟨hw3, q3⟩ => ?_⟩
            intro more1 s8 I8
            refine wpAny_bind (thnF (pe.run _ s8 σ3 H8 _ I8 q3) fun v s9 ⟨yv, H9, I9, ry, c, S, n, ey, hS, room, nx⟩ => ?_)
            subst ey
            obtain ⟨tk, rfl⟩ := ry
            refine wpAny_bind (wpAny_standAt (wpAny_bind (addS_ok (X := X.blk s3 H3 scope ce fp) I9 hS room fun s10 I10 => ?_)))
            exact wpAny_pure ⟨σ3, _, I10, Knows.back hw3, nx⟩
        refine wpAny_bind (wpAny_runOwn ?_)
        rw [Around.mark_none]
        refine codeAny_mono (sc2_start inner (T1.self X.A 0 _ _ _ t7 inner)) fun r s' hr => ?_
        obtain ⟨f, rfl, fin⟩ := hr
        first
          | exact wpAny_pure fin
          | exact wpAny_pure (wpAny_pure fin)
          | exact wpAny_bind (wpAny_pure (wpAny_pure fin))
    · -- the block ends: back to the def
      have back : Inv X pins σ G s' := I3.call' (ch := fp) IG.os IG.base IG.hok IG.bare fun b hb => ⟨(fp3 b hb).1.2.2.2.1, (fp3 b hb).1.2.1, (fp3 b hb).1.2.2.2.2.1, (fp3 b hb).1.2.2.2.2.2⟩
      have gone : G s3.heap.objs.size = none := by
        have z : G ce.locals = none := IG.free
        rwa [cL] at z
      obtain ⟨mm, ns, _⟩ := IG.loc
      have ns : s'.heap.Ns ce.locals mm := ns
      rw [cL] at ns
      obtain ⟨f0, f1, f2', f3, f4, f5⟩ := I3.fpOk (Nat.le_refl _) gone
      exact ⟨mm, ns, fun h'' sb => ⟨.ref D, G, back.turned (t' := s'.toks) (fun b o hb e => (sb.2 b hb).trans e) f0 f1 f3 f4 f5, rfl, d⟩⟩
  exact PpSet.codeAny_compStart_set loop (T.self X.A 0 _ _ _ t4 loop)
end
end Eld
end L2

set_option Elab.async false
set_option linter.all false
set_option maxRecDepth 100000
set_option maxHeartbeats 4000000
/-! ## == and != by a text's own __eq__, both answers; tuples of such things -/
namespace L2
namespace Eld
open PySem PySem.Spec PyProof.Rows PySem.EldX
/-- == of x and y tells b -/
abbrev Eqd := V → V → Hp → Bool → Prop
def EqB (X : Cx) (n : Nat) (D : Eqd) : Prop :=
  ∀ (A : Around) (pins : List (Addr × Obj)) (s : Shared) (σ : St) (H : Hp) (x y : V) (u v : Value) (b : Bool), Sub X n A → Inv X pins σ H s → RelV x u → RelV y v → D x y H b →
    wpAny (model X.prog X.w) A (eqBool u v) (fun r s' => r = b ∧ Inv X pins σ H s') X.xe s
def RcB (X : Cx) (n : Nat) (op : CmpOp) (D : Eqd) : Prop :=
  ∀ (A : Around) (pins : List (Addr × Obj)) (s : Shared) (σ : St) (H : Hp) (x y : V) (u v : Value) (b : Bool), Sub X n A → Inv X pins σ H s → RelV x u → RelV y v → D x y H b →
    wpAny (model X.prog X.w) A (richCompare op u v) (fun r s' => r = .bool b ∧ Inv X pins σ H s') X.xe s
/-- the own __eq__ of the class at C, at f; no own __ne__ -/
structure OwnE (K : PySem.W.Frag) (C f : Addr) : Prop where
  eq : PySem.W.findIn K (.ref C) "__eq__" = some (some (.ref f))
  fn : PySem.W.isFn K (.ref f) = true
  ne : PySem.W.findIn K (.ref C) "__ne__" = some (some (.builtin "object.__ne__"))
  ob : PySem.W.subIn K (.ref C) (.type "object") = some true
/-- what the own __eq__ promises: R tells the answer -/
def spEqB (R : Addr → V → Hp → Bool → Prop) : Sp := fun vs H Q _ => ∃ (a : Addr) (y : V) (b : Bool), vs = [.ref a, y] ∧ R a y H b ∧ Q (.bl b) H
/-- x an instance of the class at C, y anything whose type is no kind of it -/
def DIn (K : PySem.W.Frag) (C : Addr) (R : Addr → V → Hp → Bool → Prop) : Eqd := fun x y H b => ∃ (a dx : Addr) (fs : List (Str × V)) (t : Value), x = .ref a ∧ H a = some (.ins C dx fs) ∧ TyX K H y t ∧ PySem.W.notFirst K C t = true ∧ R a y H b
/-- a slot of the library's, found at an own class, called by its name -/
theorem bound_slot {M : Model} {A : Around} {E : Value → Shared → Prop} {s : Shared} {K : PySem.W.Frag} {C x : Addr} {ox : Obj} {od : Option Obj} {name : Str} {id : String} {args : List Value} {Q : Option Value → Shared → Prop} (kin : K.In s.heap) (inst : PySem.W.InstAt s.heap x ox C od)
    (found : PySem.W.findIn K (.ref C) name = some (some (.builtin id))) (bnd : ∀ self, bindSpecial (.builtin id) self = pure (.builtin id, [self])) (h : wpAny M A (call (.builtin id) (.ref x :: args)) (fun v => Q (some v)) E s) :
    wpAny M A (callSpecialIfBound? (.ref x) name args) Q E s := by
  have last : wpAny M A (call (.builtin id) ([.ref x] ++ args) >>= fun v => pure (some v)) Q E s := wpAny_bind (wpAny_mono h (fun _ _ q => wpAny_pure q) fun _ _ e => e)
  simp only [callSpecialIfBound?, bindSpecialIfBound?]
  refine wpAny_holding (wpAny_bind (wpAny_bind (wpAny_bind (inst.type.here ((PySem.W.looks_findIn kin found).here ?_)))))
  simp only [bnd]
  refine wpAny_bind (wpAny_askSetting (wpAny_ite ?_))
  split
  · exact wpAny_bind (wpAny_pure (wpAny_pure last))
  · exact wpAny_tryCatch (wpAny_bind (wpAny_pure (wpAny_pure last)))
/-- a comparison that its left side answers, the right one's type being no kind of the left one's -/
theorem rc_try {M : Model} {A : Around} {E : Value → Shared → Prop} {s : Shared} {K : PySem.W.Frag} {C x : Addr} {ox : Obj} {od : Option Obj} {op : CmpOp} {b t : Value} {Q : Value → Shared → Prop} (hu : A.units < cLine) (kin : K.In s.heap) (inst : PySem.W.InstAt s.heap x ox C od)
    (ty : PySem.W.Looks M s.heap (typeOf b) t) (nf : PySem.W.notFirst K C t = true) (one : wpAny M A (tryCompare (.ref x) (cmpInfo op).2.1 b) (fun r s' => ∃ v, r = some v ∧ Q v s') E s) : wpAny M A (richCompare op (.ref x) b) Q E s := by
  unfold richCompare
  simp only [oneThing_ref]
  refine wpAny_holding (wpAny_bind (wpAny_cRoomFor hu (wpAny_bind (inst.type.here (wpAny_bind (ty.here ?_))))))
  by_cases same : t = .ref C
  · subst same
    rw [if_neg (by simp)]
    refine wpAny_bind (wpAny_pure ?_)
    rw [if_neg Bool.false_ne_true]
    refine wpAny_bind (wpAny_mono one (fun r s' z => ?_) fun _ _ e => e)
    obtain ⟨v, rfl, q⟩ := z
    exact wpAny_pure q
  · have no : PySem.W.subIn K t (.ref C) = some false := by
      rcases Bool.or_eq_true_iff.mp nf with e | e
      · exact absurd (beq_iff_eq.mp e) same
      · exact beq_iff_eq.mp e
    rw [if_pos (by simpa using fun e => same e.symm)]
    refine wpAny_bind ((PySem.W.looks_subIn kin no).here ?_)
    rw [if_neg Bool.false_ne_true]
    refine wpAny_bind (wpAny_mono one (fun r s' z => ?_) fun _ _ e => e)
    obtain ⟨v, rfl, q⟩ := z
    exact wpAny_pure q
section
variable {X : Cx} {n : Nat} {CX : CXT} {C f : Addr} {fd : FuncData} {ps : List Str} {R : Addr → V → Hp → Bool → Prop} {E : XK}
/-- the call of the own __eq__ -/
theorem own_call (F : FnOk X.prog X.w X.K X.mg X.base CX n f fd ps (spEqB R)) (hb : Binds X.K fd ps []) (hx : Passes CX X E) {A : Around} {pins : List (Addr × Obj)} {s : Shared} {σ : St} {H : Hp} {a : Addr} {y : V} {v : Value} {b : Bool} (sb : Sub X n A) (I : Inv X pins σ H s) (ry : RelV y v) (r : R a y H b) :
    wpAny (model X.prog X.w) A (call (.ref f) [.ref a, v]) (fun z s' => z = .bool b ∧ Inv X pins σ H s') X.xe s := by
  have sp : spEqB R [.ref a, y] H (fun z H' => z = .bl b ∧ H' = H) E := ⟨a, y, b, rfl, r, rfl, rfl⟩
  have e0 : Env0 X.prog X.w X.K X.mg X.base A X.stack s H := by
    have e := I.env0
    exact ⟨by rw [sb.fr]; exact e.frames, e.mod, e.bs, e.bsz, e.funs, e.frf, e.hok, e.bare⟩
  have hl := F.len _ _ _ _ sp
  have bd : BindsTo s fd ⟨[.ref a, v], []⟩ (ps.zip ([.ref a, v] ++ [])) := hb s [.ref a, v] I.kIn (by simpa using hl)
  rw [List.append_nil] at bd
  refine wpAny_call (codeAny_mono (F.run A X.stack s H ⟨[.ref a, v], []⟩ [.ref a, v] [.ref a, y] _ E sb.room e0 bd (.cons rfl (.cons ry .nil)) sp) fun r s' hq => ?_)
  rcases r with e | fl
  · exact hx pins σ H s e s' I hq
  · cases fl with
    | ret w =>
      obtain ⟨z, H', I', rz, ez, eH⟩ := I.after hq
      subst ez eH
      exact ⟨rz, I'⟩
    | next => exact hq.elim
    | brk => exact hq.elim
    | cont => exact hq.elim
theorem rcB_own (F : FnOk X.prog X.w X.K X.mg X.base CX n f fd ps (spEqB R)) (O : OwnE X.K C f) (hb : Binds X.K fd ps []) (hx : Passes CX X E) : RcB X n .Eq (DIn X.K C R) := by
  intro A pins s σ H x y u v b sb I rx ry d
  obtain ⟨a, dx, fs, t, rfl, ha, ty, nf, r⟩ := d
  cases rx
  obtain ⟨mA, J, _⟩ := ins_get I.hok ha
  obtain ⟨od, J, _⟩ := J.look
  obtain ⟨m, hF⟩ := I.fr
  obtain ⟨P, Z, p, _⟩ := kit_of I ry ty
  refine PySem.W.cmp_K (op := .Eq) (tb := t) sb.room.units0 hF I.ok.mod.kin J (Z.ty _ _ I.kIn p) nf O.eq O.fn ?_
  refine wpAny_mono (own_call F hb hx sb I ry r) (fun z s' hz => ?_) fun _ _ z => z
  obtain ⟨rfl, I'⟩ := hz
  exact ⟨rfl, I'⟩
/-- != asks the own __eq__ and turns its answer about -/
theorem rcB_ownNe (F : FnOk X.prog X.w X.K X.mg X.base CX n f fd ps (spEqB R)) (O : OwnE X.K C f) (hb : Binds X.K fd ps []) (hx : Passes CX X E) : RcB X (n + 1) .NotEq (fun x y H b => DIn X.K C R x y H (!b)) := by
  intro A pins s σ H x y u v b sb I rx ry d
  obtain ⟨a, dx, fs, t, rfl, ha, ty, nf, r⟩ := d
  cases rx
  obtain ⟨mA, J, _⟩ := ins_get I.hok ha
  obtain ⟨od, J, _⟩ := J.look
  obtain ⟨P, Z, p, _⟩ := kit_of I ry ty
  have kin := I.kIn
  have sub : PySem.W.Looks (model X.prog X.w) s.heap (isInstance (.ref a) (.type "object")) true := J.type.andThen (PySem.W.looks_subIn kin O.ob)
  refine rc_try (C := C) (t := t) sb.room.units0 kin J (Z.ty _ _ kin p) nf ?_
  unfold tryCompare
  refine wpAny_bind (bound_slot (id := "object.__ne__") kin J O.ne PySem.F.cmp_object.ne.bind (wpAny_call (codeAny_call_builtin PySem.F.cmp_object.ne.plain PySem.F.cmpEntry_ne (PySem.W.check_slot PySem.F.cmpKind_ne PySem.F.cmpSplit_ne sub (PySem.F.cmpArgs_ne _ _) ?_))))
  unfold Builtin.«object.__ne__»
  have ask := own_call (A := A.in1) F hb hx ⟨sb.room.in1, sb.fr⟩ I ry r
  refine wpAny_bind (wpAny_of_eq (a := ((Value.ref a : Value), [v])) (by first | rfl | (simp only [Builtin.slotArgs]; rfl)) ?_)
  refine wpAny_bind (wpAny_cRoomFor sb.room.in1.units0 (wpAny_bind (PySem.W.ifBound_K kin J O.eq O.fn (wpAny_mono ask (fun z s' hz => ?_) fun _ _ e => e))))
  obtain ⟨rfl, I'⟩ := hz
  refine wpAny_bind (wpAny_truthy_bool (wpAny_pure ?_))
  rw [Bool.not_not]
  exact wpAny_pure ⟨_, rfl, rfl, I'⟩
end
/-! ### as expressions, and inside a tuple -/
section
variable {X : Cx} {n : Nat} {D : Eqd} {op : CmpOp}
def rEqB (D : Eqd) : R2 := fun x y H Q => ∃ b, D x y H b ∧ Q (.bl b) H
theorem op_rcB (h : RcB X n op D) (hr : Room n X.A) (he : ∀ u v, compareOp op u v = richCompare op u v := by intro _ _; rfl) : OpR X (compareOp op) (rEqB D) := by
  intro pins s σ H x y u v Q I rx ry hq
  obtain ⟨b, d, q⟩ := hq
  rw [he]
  refine wpAny_mono (h X.A pins s σ H x y u v b ⟨hr, rfl⟩ I rx ry d) (fun r s' z => ?_) fun _ _ e => e
  obtain ⟨rfl, I'⟩ := z
  exact ⟨.bl b, H, I', rfl, q⟩
/-- inside a list or tuple: the very same object, or what D says -/
def DId (D : Eqd) : Eqd := fun x y H b => (∃ a c : Addr, x = .ref a ∧ y = .ref c ∧ ((a = c ∧ b = true) ∨ (a ≠ c ∧ D x y H b)))
theorem eqB_of (h : RcB X n .Eq D) : EqB X n (DId D) := by
  intro A pins s σ H x y u v b sb I rx ry d
  obtain ⟨a, c, rfl, rfl, d⟩ := d
  cases rx
  cases ry
  rcases d with ⟨rfl, rfl⟩ | ⟨ne, d⟩
  · exact SeqAt.EqAt.same (A := A) (s := s) (.ref a) X.prog X.w X.xe _ ⟨rfl, I⟩
  · refine GQ.eqBool_refG ne (wpAny_mono (h A pins s σ H (.ref a) (.ref c) _ _ b sb I rfl rfl d) (fun r s' z => ?_) fun _ _ e => e)
    exact ⟨b, z.1, rfl, z.2⟩
theorem eqB_flat : EqB X 0 (fun x y _ b => flatV x = true ∧ flatV y = true ∧ eqV x y = b) := by
  intro A pins s σ H x y u v b sb I rx ry d
  obtain ⟨fx, fy, e⟩ := d
  have q := eqAt_V (A := A) (s := s) rx ry fx fy
  rw [e] at q
  exact q X.prog X.w X.xe _ ⟨rfl, I⟩
/-- item by item, as far as it goes; then the lengths -/
inductive EqL (D : Eqd) (H : Hp) : List V → List V → Bool → Prop
  | nil : EqL D H [] [] true
  | left {y : V} {ys : List V} : EqL D H [] (y :: ys) false
  | right {x : V} {xs : List V} : EqL D H (x :: xs) [] false
  | go {x y : V} {xs ys : List V} {b : Bool} : D x y H true → EqL D H xs ys b → EqL D H (x :: xs) (y :: ys) b
  | stop {x y : V} {xs ys : List V} : D x y H false → EqL D H (x :: xs) (y :: ys) false
end
end Eld
end L2

set_option Elab.async false
set_option linter.all false
set_option maxRecDepth 100000
set_option maxHeartbeats 4000000
/-! ## == of two tuples whose items are equal, or not, by EqL -/
namespace L2
namespace Eld
open PySem PySem.Spec PyProof.Rows PySem.EldX PySem.SeqAt
open AutoSeq1 (wpAny_loadPart')
open MeetsSeq MeetsSeq2 MeetsSeq3 SeqRoads2
section
variable {X : Cx} {n : Nat} {D : Eqd}
theorem tup_walk (h : EqB X n D) {A : Around} (sb : Sub X (n + 1) A) {pins : List (Addr × Obj)} {σ : St} {H : Hp} {xs ys : List V} {b : Bool} {R : Result → Shared → Prop} {l m : Addr} {its its2 : List Value} {k k2 : Nat} {dd dd2 : Option Addr} {sl sl2 : Array (Option Value)} {s : Shared}
    (eq : EqL D H xs ys b) (rx : Vals xs its) (ry : Vals ys its2) (I : Inv X pins σ H s) (hl : s.heap.get? l = some { cls := .type "tuple", dict := dd, data := .seq its.toArray k, slots := sl }) (hm : s.heap.get? m = some { cls := .type "tuple", dict := dd2, data := .seq its2.toArray k2, slots := sl2 })
    (hE : ∀ e s', X.xe e s' → R (.error e) s') (fin : ∀ s', Inv X pins σ H s' → R (.ok (.ret (.bool b))) s') :
    wpAny (model X.prog X.w) A.in1 (Builtin.«tuple.__eq__» ⟨[.ref l, .ref m], []⟩) (GQ.FinOf X.prog X.w A R) (fun e s' => R (.error e) s') s := by
  have f2 := AutoSeq1.sub_tuple_tuple
  have I0 := I
  obtain ⟨hp, g, d, tk, os⟩ := s
  wp_walk using wpAny_loadPart' hl, wpAny_loadPart' hm, wpAny_forIn_list _ (fun rest a s' => a.1 = none ∧ ∃ (xs' ys' : List V) (us vs : List Value), rest = us.zip vs ∧ Vals xs' us ∧ Vals ys' vs ∧ EqL D H xs' ys' b ∧ its.length + vs.length = its2.length + us.length ∧ Inv X pins σ H s') _
  case turn =>
    rintro ⟨u, v⟩ rest a s' ⟨ha, xs', ys', us, vs, hz, r1, r2, e, len, J⟩
    cases r1 with
    | nil => cases hz
    | @cons x xs2 u1 us1 q1 t1 =>
      cases r2 with
      | nil => cases hz
      | @cons y ys2 v1 vs1 q2 t2 =>
        rw [List.zip_cons_cons] at hz
        injection hz with hz1 hz2
        injection hz1 with e1 e2
        subst e1 e2
        cases e with
        | go d1 d2 =>
          refine wpAny_bind (wpAny_mono (h A.in1 pins s' σ H x y u v true sb.in1 J q1 q2 d1) (fun r s2 z => ?_) fun e s2 z => hE e s2 z)
          obtain ⟨rfl, J2⟩ := z
          wp_walk
          exact ⟨rfl, _, _, us1, vs1, hz2, t1, t2, d2, by simp only [List.length_cons] at len; omega, J2⟩
        | stop d1 =>
          refine wpAny_bind (wpAny_mono (h A.in1 pins s' σ H x y u v false sb.in1 J q1 q2 d1) (fun r s2 z => ?_) fun e s2 z => hE e s2 z)
          obtain ⟨rfl, J2⟩ := z
          have q := fin s2 J2
          wp_walk
          exact q
  case fin =>
    rintro ⟨a1, a2⟩ s' ⟨ha, xs', ys', us, vs, hz, r1, r2, e, len, J⟩
    simp only at ha
    subst ha
    have q := fin s' J
    have hb : (its.toArray.size == its2.toArray.size) = b := by
      rw [List.size_toArray, List.size_toArray]
      cases r1 with
      | nil =>
        cases r2 with
        | nil =>
          cases e
          simp only [List.length_nil, Nat.add_zero] at len
          simp [len]
        | cons _ _ =>
          cases e
          simp only [List.length_nil, List.length_cons] at len
          simp only [beq_eq_false_iff_ne]
          omega
      | cons _ _ =>
        cases r2 with
        | nil =>
          cases e
          simp only [List.length_nil, List.length_cons] at len
          simp only [beq_eq_false_iff_ne]
          omega
        | cons _ _ => cases hz
    wp_walk
    show R (.ok (.ret (.bool (its.toArray.size == its2.toArray.size)))) s'
    rw [hb]
    exact q
  case h =>
    exact ⟨rfl, xs, ys, its, its2, by simp, rx, ry, eq, by omega, I0⟩
/-- == of tuples -/
def DTu (K : PySem.W.Frag) (D : Eqd) : Eqd := fun x y H b => ∃ (a c : Addr) (xs ys : List V), x = .ref a ∧ y = .ref c ∧ SqT K H a xs ∧ SqT K H c ys ∧ EqL D H xs ys b
theorem rcB_tup (h : EqB X n D) : RcB X (n + 1) .Eq (DTu X.K D) := by
  intro A pins s σ H x y u v b sb I rx ry d
  obtain ⟨a, c, xs, ys, rfl, rfl, ha, hc, eq⟩ := d
  cases rx
  cases ry
  obtain ⟨its, r1, ⟨⟨cls, dd, data, sl⟩, ho, k1, n1, k2⟩, z⟩ := I.tuple ha
  obtain ⟨its2, r2, ⟨⟨cls2, dd2, data2, sl2⟩, ho2, k3, n2, k4⟩, z2⟩ := I.tuple hc
  simp only at k1 k2 k3 k4
  subst k1 k2 k3 k4
  refine wpAny_richCompare_same_room (op := .Eq) ⟨_, ho, rfl⟩ ⟨_, ho2, rfl⟩ PySem.F.slot_tuple_eq (GQ.call_here PySem.F.slot_tuple_eq ⟨_, ho, rfl⟩ PySem.F.entry_tuple_eq (PySem.F.args_tuple_eq_2 _ _) ?_) sb.room.units0
  exact tup_walk h sb eq r1 r2 I ho ho2 (fun _ _ z => z) fun s' J => ⟨(fun z => nomatch z), rfl, J⟩
end
end Eld
end L2

set_option Elab.async false
set_option linter.all false
set_option maxRecDepth 100000
set_option maxHeartbeats 4000000
/-! ## len by an own __len__; a statement that is never reached -/
namespace L2
namespace Eld
open PySem PySem.Spec PyProof.Rows PySem.EldX
section
variable {X : Cx} {n : Nat} {CX : CXT} {C f : Addr} {fd : FuncData} {ps : List Str} {sp : Sp} {E : XK}
def rLenOwn (C : Addr) (sp : Sp) (E : XK) : List V → Hp → VK → Prop := fun xs H Q => ∃ (a dx : Addr) (fs : List (Str × V)), xs = [.ref a] ∧ H a = some (.ins C dx fs) ∧
  sp [.ref a] H (fun v H' => ∃ i : Int, v = .int i ∧ (0 ≤ i ∧ i < 2 ^ 63) ∧ Q (.int i) H') E
theorem call_lenOwn (hs : PySem.W.findIn X.K (.ref C) "__len__" = some (some (.ref f))) (hf : PySem.W.isFn X.K (.ref f) = true) (F : FnOk X.prog X.w X.K X.mg X.base CX n f fd ps sp) (hr : Room (n + 1) X.A) (hb : Binds X.K fd ps []) (hx : Passes CX X.nox E) :
    CallR X (.builtin "len") (rLenOwn C sp E) := by
  intro pins s σ H xs us Q I r h
  obtain ⟨a, dx, fs, rfl, ha, q⟩ := h
  rw [Vals.ref1 r]
  obtain ⟨mA, J, _⟩ := ins_get I.hok ha
  obtain ⟨od, J, _⟩ := J.look
  obtain ⟨m, hF⟩ := I.fr
  have hl := F.len _ _ _ _ q
  have bd := hb s [Value.ref a] I.kIn (by simpa using hl)
  rw [List.append_nil] at bd
  refine PySem.W.len_K hF I.ok.mod.kin J hs hf (wpAny_call (codeAny_mono (F.run X.A.in1 X.stack s H ⟨[.ref a], []⟩ [.ref a] [.ref a] _ E hr.in1 I.env0.in1 bd (.cons rfl .nil) q) fun r s' hq => ?_))
  rcases r with e | fl
  · exact (hx pins σ H s e s' (I.wish _) hq).elim
  · cases fl with
    | ret u =>
      obtain ⟨v, H', I', rv, i, rfl, hi, q'⟩ := I.after hq
      obtain ⟨t, rfl⟩ := rv
      exact ⟨hi, .int i, H', I'.tok _, ⟨_, rfl⟩, q'⟩
    | next => exact hq.elim
    | brk => exact hq.elim
    | cont => exact hq.elim
/-- a statement that no reading reaches -/
theorem ps_dead (st : Stmt) : PS X st (fun _ _ _ => False) := ⟨fun _ _ _ _ _ _ h => h.elim⟩
theorem pss_dead (sts : List Stmt) : PSs X sts (fun _ _ _ => False) := ⟨fun _ _ _ _ _ _ h => h.elim⟩
theorem pe_dead (e : Expr) : PE X e (fun _ _ _ => False) := ⟨fun _ _ _ _ _ _ h => h.elim⟩
end
end Eld
end L2

set_option Elab.async false
set_option linter.all false
set_option maxRecDepth 100000
set_option maxHeartbeats 4000000
/-! ## ascending lists of texts -/
namespace L2
namespace Eld
open PySem PySem.Spec PyProof.Rows PySem.EldX
theorem str_ext {a b : Str} (h : a.cps.toList = b.cps.toList) : a = b := by
  obtain ⟨⟨x⟩⟩ := a
  obtain ⟨⟨y⟩⟩ := b
  cases (show x = y from h)
  rfl
theorem list_lt_asymm' : ∀ {x y : List Nat}, x < y → ¬ y < x := fun h h' => absurd (List.lt_trans h h') (List.lt_irrefl _)
theorem list_eq_of_not_lt : ∀ (x y : List Nat), ¬ x < y → ¬ y < x → x = y
  | [], [], _, _ => rfl
  | [], b :: y, h, _ => absurd (List.nil_lt_cons b y) h
  | a :: x, [], _, h => absurd (List.nil_lt_cons a x) h
  | a :: x, b :: y, h1, h2 => by
    rcases Nat.lt_trichotomy a b with l | rfl | l
    · exact absurd (List.cons_lt_cons_iff.mpr (.inl l)) h1
    · rw [list_eq_of_not_lt x y (fun z => h1 (List.cons_lt_cons_iff.mpr (.inr ⟨rfl, z⟩))) fun z => h2 (List.cons_lt_cons_iff.mpr (.inr ⟨rfl, z⟩))]
    · exact absurd (List.cons_lt_cons_iff.mpr (.inl l)) h2
/-- not above -/
def LeS (a b : Str) : Prop := ltCps b.cps.toList a.cps.toList = false
theorem LeS.anti {a b : Str} (h : LeS a b) (h' : LeS b a) : a = b := by
  unfold LeS at h h'
  rw [ltCps_eq] at h h'
  exact str_ext (list_eq_of_not_lt _ _ (of_decide_eq_false h') (of_decide_eq_false h))
theorem LeS.trans {a b c : Str} (h : LeS a b) (h' : LeS b c) : LeS a c := by
  unfold LeS at h h' ⊢
  rw [ltCps_eq] at h h' ⊢
  have h := of_decide_eq_false h
  have h' := of_decide_eq_false h'
  refine decide_eq_false fun z => ?_
  have l1 : a.cps.toList ≤ b.cps.toList := h
  have l2 : b.cps.toList ≤ c.cps.toList := h'
  exact (List.le_trans l1 l2) z
theorem pairwise_of_sortedS : ∀ (l : List Str), sortedS l = true → l.Pairwise LeS
  | [], _ => .nil
  | x :: l, h => by
    have key : ∀ (x : Str) (l : List Str), risingS x l = true → (x :: l).Pairwise LeS := by
      intro x l
      induction l generalizing x with
      | nil => intro _; exact List.pairwise_singleton _ _
      | cons y l ih =>
        intro h
        have h : (!ltCps y.cps.toList x.cps.toList && risingS y l) = true := h
        rw [Bool.and_eq_true, Bool.not_eq_true'] at h
        have p := ih y h.2
        refine List.Pairwise.cons (fun z hz => ?_) p
        rcases List.mem_cons.mp hz with rfl | hz
        · exact h.1
        · exact LeS.trans h.1 ((List.pairwise_cons.mp p).1 z hz)
    exact key x l h
/-- an ascending list is told by its members -/
theorem sorted_eq : ∀ {xs ys : List Str}, xs.Perm ys → sortedS xs = true → sortedS ys = true → xs = ys := by
  intro xs ys p h h'
  exact p.eq_of_pairwise (le := LeS) (fun a b _ _ q q' => LeS.anti q q') (pairwise_of_sortedS xs h) (pairwise_of_sortedS ys h')
theorem sorted_mem_eq {xs ys : List Str} (n : xs.Nodup) (n' : ys.Nodup) (m : ∀ x, x ∈ xs ↔ x ∈ ys) (h : sortedS xs = true) (h' : sortedS ys = true) : xs = ys :=
  sorted_eq ((List.perm_ext_iff_of_nodup n n').mpr m) h h'
end Eld
end L2

set_option Elab.async false
set_option linter.all false
set_option maxRecDepth 100000
set_option maxHeartbeats 4000000
/-! ## the texts -/
namespace L2
namespace Eld
open PySem PySem.Spec PyProof.Rows PySem.EldX
def topS (i : Nat) : Stmt := PySem.Challenge.pw_elderlink_k04_lines_changed.main.body.getD i (.Pass ⟨0, 0, 0, 0⟩)
abbrev sWhole : Stmt := topS 1
abbrev NWhole : List Str := ["value"]
theorem scWhole : FnScope NWhole ["value"] (defScope sWhole) := ⟨rfl, rfl, rfl, by decide +kernel, rfl, by decide +kernel, by decide +kernel⟩
abbrev sCount : Stmt := topS 2
abbrev NCount : List Str := ["value"]
theorem scCount : FnScope NCount ["value"] (defScope sCount) := ⟨rfl, rfl, rfl, by decide +kernel, rfl, by decide +kernel, by decide +kernel⟩
abbrev sIsName : Stmt := topS 3
abbrev NIsName : List Str := ["value", "sign"]
theorem scIsName : FnScope NIsName ["value"] (defScope sIsName) := ⟨rfl, rfl, rfl, by decide +kernel, rfl, by decide +kernel, by decide +kernel⟩
abbrev sUnlike : Stmt := topS 4
abbrev NUnlike : List Str := ["names"]
theorem scUnlike : FnScope NUnlike ["names"] (defScope sUnlike) := ⟨rfl, rfl, rfl, by decide +kernel, rfl, by decide +kernel, by decide +kernel⟩
abbrev sAreNames : Stmt := topS 5
abbrev NAreNames : List Str := ["value", "name"]
theorem scAreNames : FnScope NAreNames ["value"] (defScope sAreNames) := ⟨rfl, rfl, rfl, by decide +kernel, rfl, by decide +kernel, by decide +kernel⟩
abbrev sAInit : Stmt := inClass (topS 15) 0
abbrev NAInit : List Str := ["self", "name", "fits", "most"]
theorem scAInit : FnScope NAInit ["self", "name", "fits", "most"] (defScope sAInit) := ⟨rfl, rfl, rfl, by decide +kernel, rfl, by decide +kernel, by decide +kernel⟩
abbrev sAName : Stmt := inClass (topS 15) 1
abbrev NAName : List Str := ["self"]
theorem scAName : FnScope NAName ["self"] (defScope sAName) := ⟨rfl, rfl, rfl, by decide +kernel, rfl, by decide +kernel, by decide +kernel⟩
abbrev sAFits : Stmt := inClass (topS 15) 2
abbrev NAFits : List Str := ["self"]
theorem scAFits : FnScope NAFits ["self"] (defScope sAFits) := ⟨rfl, rfl, rfl, by decide +kernel, rfl, by decide +kernel, by decide +kernel⟩
abbrev sAMost : Stmt := inClass (topS 15) 3
abbrev NAMost : List Str := ["self"]
theorem scAMost : FnScope NAMost ["self"] (defScope sAMost) := ⟨rfl, rfl, rfl, by decide +kernel, rfl, by decide +kernel, by decide +kernel⟩
abbrev sAEq : Stmt := inClass (topS 15) 4
abbrev NAEq : List Str := ["self", "other"]
theorem scAEq : FnScope NAEq ["self", "other"] (defScope sAEq) := ⟨rfl, rfl, rfl, by decide +kernel, rfl, by decide +kernel, by decide +kernel⟩
abbrev sLInit : Stmt := inClass (topS 16) 0
abbrev NLInit : List Str := ["self", "askers"]
theorem scLInit : FnScope NLInit ["self", "askers"] (defScope sLInit) := ⟨rfl, rfl, rfl, by decide +kernel, rfl, by decide +kernel, by decide +kernel⟩
abbrev sLAskers : Stmt := inClass (topS 16) 1
abbrev NLAskers : List Str := ["self"]
theorem scLAskers : FnScope NLAskers ["self"] (defScope sLAskers) := ⟨rfl, rfl, rfl, by decide +kernel, rfl, by decide +kernel, by decide +kernel⟩
abbrev sLNames : Stmt := inClass (topS 16) 2
abbrev NLNames : List Str := ["self", "asker"]
theorem scLNames : FnScope NLNames ["self"] (defScope sLNames) := ⟨rfl, rfl, rfl, by decide +kernel, rfl, by decide +kernel, by decide +kernel⟩
abbrev sLLen : Stmt := inClass (topS 16) 3
abbrev NLLen : List Str := ["self"]
theorem scLLen : FnScope NLLen ["self"] (defScope sLLen) := ⟨rfl, rfl, rfl, by decide +kernel, rfl, by decide +kernel, by decide +kernel⟩
abbrev sLEq : Stmt := inClass (topS 16) 4
abbrev NLEq : List Str := ["self", "other"]
theorem scLEq : FnScope NLEq ["self", "other"] (defScope sLEq) := ⟨rfl, rfl, rfl, by decide +kernel, rfl, by decide +kernel, by decide +kernel⟩
abbrev sLKinds : Stmt := inClass (topS 16) 5
abbrev NLKinds : List Str := ["self", "asker", "kind"]
theorem scLKinds : FnScope NLKinds ["self"] (defScope sLKinds) := ⟨rfl, rfl, rfl, by decide +kernel, rfl, by decide +kernel, by decide +kernel⟩
abbrev sLAsk : Stmt := inClass (topS 16) 6
abbrev NLAsk : List Str := ["self", "name"]
theorem scLAsk : FnScope NLAsk ["self", "name"] (defScope sLAsk) := ⟨rfl, rfl, rfl, by decide +kernel, rfl, by decide +kernel, by decide +kernel⟩
abbrev sLPlace : Stmt := inClass (topS 16) 7
abbrev NLPlace : List Str := ["self", "name", "names"]
theorem scLPlace : FnScope NLPlace ["self", "name"] (defScope sLPlace) := ⟨rfl, rfl, rfl, by decide +kernel, rfl, by decide +kernel, by decide +kernel⟩
abbrev sLWithout : Stmt := inClass (topS 16) 8
abbrev NLWithout : List Str := ["self", "name", "at"]
theorem scLWithout : FnScope NLWithout ["self", "name"] (defScope sLWithout) := ⟨rfl, rfl, rfl, by decide +kernel, rfl, by decide +kernel, by decide +kernel⟩
abbrev sLPutIn : Stmt := inClass (topS 16) 9
abbrev NLPutIn : List Str := ["self", "asker", "place"]
theorem scLPutIn : FnScope NLPutIn ["self", "asker", "place"] (defScope sLPutIn) := ⟨rfl, rfl, rfl, by decide +kernel, rfl, by decide +kernel, by decide +kernel⟩
abbrev sLMoved : Stmt := inClass (topS 16) 10
abbrev NLMoved : List Str := ["self", "name", "place"]
theorem scLMoved : FnScope NLMoved ["self", "name", "place"] (defScope sLMoved) := ⟨rfl, rfl, rfl, by decide +kernel, rfl, by decide +kernel, by decide +kernel⟩
abbrev sLChanged : Stmt := inClass (topS 16) 11
abbrev NLChanged : List Str := ["self", "asker", "at"]
theorem scLChanged : FnScope NLChanged ["self", "asker"] (defScope sLChanged) := ⟨rfl, rfl, rfl, by decide +kernel, rfl, by decide +kernel, by decide +kernel⟩
abbrev sLOrdered : Stmt := inClass (topS 16) 12
abbrev NLOrdered : List Str := ["self", "names", "name"]
theorem scLOrdered : FnScope NLOrdered ["self", "names"] (defScope sLOrdered) := ⟨rfl, rfl, rfl, by decide +kernel, rfl, by decide +kernel, by decide +kernel⟩
abbrev sNeedAsker : Stmt := topS 17
abbrev NNeedAsker : List Str := ["value"]
theorem scNeedAsker : FnScope NNeedAsker ["value"] (defScope sNeedAsker) := ⟨rfl, rfl, rfl, by decide +kernel, rfl, by decide +kernel, by decide +kernel⟩
abbrev sAreAskers : Stmt := topS 18
abbrev NAreAskers : List Str := ["value", "asker"]
theorem scAreAskers : FnScope NAreAskers ["value"] (defScope sAreAskers) := ⟨rfl, rfl, rfl, by decide +kernel, rfl, by decide +kernel, by decide +kernel⟩
abbrev sPurse : Stmt := topS 20
abbrev NPurse : List Str := ["_law_script", "_law_at", "_law_seed"]
theorem scPurse : FnScope NPurse ["_law_script", "_law_at"] (defScope sPurse) := ⟨rfl, rfl, rfl, by decide +kernel, rfl, by decide +kernel, by decide +kernel⟩
abbrev sMixed : Stmt := topS 21
abbrev NMixed : List Str := ["_law_seed", "_law_turn", "_law_at", "_law_mixed_here"]
theorem scMixed : FnScope NMixed ["_law_seed", "_law_turn", "_law_at"] (defScope sMixed) := ⟨rfl, rfl, rfl, by decide +kernel, rfl, by decide +kernel, by decide +kernel⟩
abbrev sDraw : Stmt := topS 22
abbrev NDraw : List Str := ["_law_purse_here", "_law_many", "_law_drawn", "_law_found", "_law_piece"]
theorem scDraw : FnScope NDraw ["_law_purse_here", "_law_many"] (defScope sDraw) := ⟨rfl, rfl, rfl, by decide +kernel, rfl, by decide +kernel, by decide +kernel⟩
abbrev sPurses : Stmt := topS 23
abbrev NPurses : List Str := ["_law_script", "_law_few", "_law_at"]
theorem scPurses : FnScope NPurses ["_law_script", "_law_few"] (defScope sPurses) := ⟨rfl, rfl, rfl, by decide +kernel, rfl, by decide +kernel, by decide +kernel⟩
abbrev sOneOf : Stmt := topS 24
abbrev NOneOf : List Str := ["_law_purse_here", "_law_some"]
theorem scOneOf : FnScope NOneOf ["_law_purse_here", "_law_some"] (defScope sOneOf) := ⟨rfl, rfl, rfl, by decide +kernel, rfl, by decide +kernel, by decide +kernel⟩
abbrev sShuffled : Stmt := topS 25
abbrev NShuffled : List Str := ["_law_purse_here", "_law_some", "_law_found", "_law_item"]
theorem scShuffled : FnScope NShuffled ["_law_purse_here", "_law_some"] (defScope sShuffled) := ⟨rfl, rfl, rfl, by decide +kernel, rfl, by decide +kernel, by decide +kernel⟩
abbrev sWord : Stmt := topS 26
abbrev NWord : List Str := ["_law_purse_here", "_law_found", "_law_turn"]
theorem scWord : FnScope NWord ["_law_purse_here"] (defScope sWord) := ⟨rfl, rfl, rfl, by decide +kernel, rfl, by decide +kernel, by decide +kernel⟩
abbrev sNames : Stmt := topS 27
abbrev NNames : List Str := ["_law_purse_here", "_law_many", "_law_some", "_law_fresh", "_law_word_here"]
theorem scNames : FnScope NNames ["_law_purse_here", "_law_many"] (defScope sNames) := ⟨rfl, rfl, rfl, by decide +kernel, rfl, by decide +kernel, by decide +kernel⟩
abbrev sKinds : Stmt := topS 28
abbrev NKinds : List Str := ["_law_purse_here", "_law_many", "_law_some", "_law_fresh", "_law_word_here"]
theorem scKinds : FnScope NKinds ["_law_purse_here", "_law_many"] (defScope sKinds) := ⟨rfl, rfl, rfl, by decide +kernel, rfl, by decide +kernel, by decide +kernel⟩
abbrev sMost : Stmt := topS 29
abbrev NMost : List Str := ["_law_purse_here", "_law_small"]
theorem scMost : FnScope NMost ["_law_purse_here"] (defScope sMost) := ⟨rfl, rfl, rfl, by decide +kernel, rfl, by decide +kernel, by decide +kernel⟩
abbrev sLAsker : Stmt := topS 30
abbrev NLAsker : List Str := ["_law_purse_here", "_law_name", "_law_kinds_here", "_law_some"]
theorem scLAsker : FnScope NLAsker ["_law_purse_here", "_law_name", "_law_kinds_here"] (defScope sLAsker) := ⟨rfl, rfl, rfl, by decide +kernel, rfl, by decide +kernel, by decide +kernel⟩
abbrev sLLine : Stmt := topS 31
abbrev NLLine : List Str := ["_law_purse_here", "_law_kinds_here", "_law_most_here", "_law_names_here", "_law_name"]
theorem scLLine : FnScope NLLine ["_law_purse_here", "_law_kinds_here", "_law_most_here"] (defScope sLLine) := ⟨rfl, rfl, rfl, by decide +kernel, rfl, by decide +kernel, by decide +kernel⟩
abbrev sKindsOf : Stmt := topS 32
abbrev NKindsOf : List Str := ["_law_askers", "_law_found", "_law_asker_here", "_law_kind"]
theorem scKindsOf : FnScope NKindsOf ["_law_askers"] (defScope sKindsOf) := ⟨rfl, rfl, rfl, by decide +kernel, rfl, by decide +kernel, by decide +kernel⟩
abbrev sFree : Stmt := topS 33
abbrev NFree : List Str := ["_law_known", "_law_some", "_law_word_here"]
theorem scFree : FnScope NFree ["_law_known"] (defScope sFree) := ⟨rfl, rfl, rfl, by decide +kernel, rfl, by decide +kernel, by decide +kernel⟩
abbrev sMoved : Stmt := topS 34
abbrev NMoved : List Str := ["_law_askers", "_law_name", "_law_place", "_law_rest", "_law_mine", "_law_asker_here"]
theorem scMoved : FnScope NMoved ["_law_askers", "_law_name", "_law_place"] (defScope sMoved) := ⟨rfl, rfl, rfl, by decide +kernel, rfl, by decide +kernel, by decide +kernel⟩
abbrev sIsLine : Stmt := topS 35
abbrev NIsLine : List Str := ["_law_told", "_law_askers", "_law_asker_here"]
theorem scIsLine : FnScope NIsLine ["_law_told", "_law_askers"] (defScope sIsLine) := ⟨rfl, rfl, rfl, by decide +kernel, rfl, by decide +kernel, by decide +kernel⟩
abbrev sOneRight : Stmt := topS 36
abbrev NOneRight : List Str := ["_law_purse_here", "_law_line_here", "_law_askers", "_law_spare", "_law_at", "_law_name", "_law_place", "_law_told", "_law_spot", "_law_more", "_law_other", "_law_fits"]
theorem scOneRight : FnScope NOneRight ["_law_purse_here", "_law_line_here", "_law_askers", "_law_spare"] (defScope sOneRight) := ⟨rfl, rfl, rfl, by decide +kernel, rfl, by decide +kernel, by decide +kernel⟩
abbrev sLaw : Stmt := topS 37
abbrev NLaw : List Str := ["_law_script", "_law_purse_here", "_law_kinds_here", "_law_line_here", "_law_askers", "_law_spare", "_law_turn", "_law_order", "_law_names_here", "_law_given", "_law_asker_here"]
theorem scLaw : FnScope NLaw ["_law_script"] (defScope sLaw) := ⟨rfl, rfl, rfl, by decide +kernel, rfl, by decide +kernel, by decide +kernel⟩
end Eld
end L2

set_option Elab.async false
set_option linter.all false
set_option maxRecDepth 100000
set_option maxHeartbeats 4000000
/-! ## what stays tracked; comprehensions told item by item -/
namespace L2
namespace Eld
open PySem PySem.Spec PyProof.Rows PySem.EldX
/-- what is tracked stays as it is, but for what S says -/
def Kept (S : Addr → Prop) (H H' : Hp) : Prop := ∀ b o, ¬ S b → H b = some o → H' b = some o
abbrev noA : Addr → Prop := fun _ => False
theorem Kept.refl {S : Addr → Prop} {H : Hp} : Kept S H H := fun _ _ _ h => h
theorem Kept.trans {S : Addr → Prop} {H1 H2 H3 : Hp} (a : Kept S H1 H2) (b : Kept S H2 H3) : Kept S H1 H3 := fun c o n h => b c o n (a c o n h)
theorem Kept.of_same {S : Addr → Prop} {H H' : Hp} (h : Same H H') : Kept S H H' := fun b o _ e => h b o e
theorem Kept.same {H H' : Hp} (h : Kept noA H H') : Same H H' := fun b o e => h b o id e
theorem Kept.of_but {p : Addr} {H H' : Hp} (h : ∀ b, b ≠ p → H' b = H b) : Kept (· = p) H H' := fun b o n e => (h b n).trans e
theorem Kept.put {S : Addr → Prop} {H0 H : Hp} {D : Addr} {o : HO} (h : Kept S H0 H) (n : H0 D = none) : Kept S H0 (upd H D o) := fun b u hb e => by
  rw [upd_ne (ne_of_none e n)]
  exact h b u hb e
theorem _root_.L2.Same.put {H0 H : Hp} {D : Addr} {o : HO} (h : Same H0 H) (n : H0 D = none) : Same H0 (upd H D o) := fun b u e => by
  rw [upd_ne (ne_of_none e n)]
  exact h b u e
theorem _root_.L2.Same.fresh {H : Hp} {p : Addr} {o : HO} (n : H p = none) : Same H (upd H p o) := Same.put (Same.refl H) n
section
variable {J : It} {n : Nat} {G : Hp → Prop} {Y : Nat → Hp → V → Hp → Prop}
/-- [e for x in ..] without tests: P i is true ahead of turn i, out i of what turn i appends -/
theorem lc_gen (w : Walk J n G Y) {g : TG} {te : TE} {vs : List Nat} {σ : St} {H1 : Hp} {D : Addr} {Qd : Hp → Prop} (S : Addr → Prop) (P : Nat → Hp → Prop) (out : Nat → V → Hp → Prop) (hz : n < sizeLine) (hD : H1 D = none)
    (hSD : ¬ S D) (hG : ∀ i H, Kept S H1 H → P i H → G H) (h0 : ∀ H, (∀ b, b ≠ D → H b = H1 b) → P 0 H) (hP : ∀ i H H', (∀ b, b ≠ D → H' b = H b) → P i H → P i H') (hY : ∀ i H x H', Y i H x H' → H' = H)
    (ho : ∀ i y H H' acc, H D = some (.lst acc) → (Kept S H H' ∨ ∀ b o, b ≠ D → H b = some o → H' b = some o) → out i y H → out i y H')
    (hs : ∀ i x H, i < n → Kept S H1 H → P i H → Y i H x H → ∀ Q : VK, (∀ y H4, Kept S H H4 → P (i + 1) H4 → out i y H4 → Q y H4) → g x (wipe σ vs) H fun σ2 H2 => wipe σ2 vs = wipe σ vs ∧ te σ2 H2 Q)
    (hd : ∀ H acc, Kept S H1 H → P n H → H D = some (.lst acc) → acc.length = n → (∀ i y, acc[i]? = some y → out i y H) → Qd H) :
    ∃ W : Nat → Nat → Hp → Prop, (∃ m, W 0 m (upd H1 D (.lst []))) ∧ ∀ i m H, W i m H →
      (J.stop i H ∧ Qd H) ∨ (J.go i H ∧ ∃ Nx : Hp → Prop, (∀ H', Nx H' → ∃ m', m' < m ∧ W (i + 1) m' H') ∧ ∀ x H', J.yld i H x H' → g x (wipe σ vs) H' fun σ2 H2 => wipe σ2 vs = wipe σ vs ∧ tYes σ2 H2 fun b H3 =>
        if b = true then te σ2 H3 fun y H4 => ∃ acc, H4 D = some (.lst acc) ∧ acc.length < sizeLine ∧ Nx (upd H4 D (.lst (acc ++ [y]))) else Nx H3) := by
  refine lc_it w (fun i H => Kept S H1 H ∧ P i H ∧ ∃ acc, H D = some (.lst acc) ∧ acc.length = i ∧ ∀ j y, acc[j]? = some y → out j y H) ⟨Kept.refl.put hD, h0 _ fun b hb => upd_ne hb, [], upd_same, rfl, fun j y e => by simp at e⟩
    (fun i H _ p => hG i H p.1 p.2.1) ?_ fun H ⟨k, p, acc, e, l, q⟩ => hd H acc k p e l q
  rintro i x H H' hi ⟨k, p, acc, e, l, q⟩ y
  obtain rfl := hY _ _ _ _ y
  refine hs i x H' hi k p y _ fun z H4 k4 p4 o4 => ?_
  have e4 : H4 D = some (.lst acc) := k4 D _ hSD e
  refine ⟨acc, e4, by omega, (k.trans k4).put hD, hP _ _ _ (fun b hb => upd_ne hb) p4, acc ++ [z], upd_same, by rw [List.length_append, l]; rfl, fun j u hj => ?_⟩
  have stay : ∀ b o, b ≠ D → H4 b = some o → upd H4 D (.lst (acc ++ [z])) b = some o := fun b o hb eb => by
    rw [upd_ne hb]
    exact eb
  by_cases hl : j < acc.length
  · rw [List.getElem?_append_left hl] at hj
    exact ho j u H4 _ acc e4 (.inr stay) (ho j u H' H4 acc e (.inl k4) (q j u hj))
  · rw [List.getElem?_append_right (Nat.le_of_not_lt hl)] at hj
    cases c : j - acc.length with
    | succ c => simp [c] at hj
    | zero =>
      rw [c] at hj
      obtain rfl : z = u := by simpa using hj
      have : j = i := by omega
      subst this
      exact ho j z H4 _ acc e4 (.inr stay) o4
/-- the same, where nothing but the list itself changes -/
theorem lc_out (w : Walk J n G Y) {g : TG} {te : TE} {vs : List Nat} {σ : St} {H1 : Hp} {D : Addr} {Qd : Hp → Prop} (out : Nat → V → Hp → Prop) (hz : n < sizeLine) (hD : H1 D = none) (hG : ∀ H, Same H1 H → G H) (hY : ∀ i H x H', Y i H x H' → H' = H)
    (ho : ∀ i y H H' acc, H D = some (.lst acc) → (∀ b o, b ≠ D → H b = some o → H' b = some o) → out i y H → out i y H')
    (hs : ∀ i x H, i < n → Same H1 H → Y i H x H → ∀ Q : VK, (∀ y H4, Same H H4 → out i y H4 → Q y H4) → g x (wipe σ vs) H fun σ2 H2 => wipe σ2 vs = wipe σ vs ∧ te σ2 H2 Q)
    (hd : ∀ H acc, Same H1 H → H D = some (.lst acc) → acc.length = n → (∀ i y, acc[i]? = some y → out i y H) → Qd H) :
    ∃ W : Nat → Nat → Hp → Prop, (∃ m, W 0 m (upd H1 D (.lst []))) ∧ ∀ i m H, W i m H →
      (J.stop i H ∧ Qd H) ∨ (J.go i H ∧ ∃ Nx : Hp → Prop, (∀ H', Nx H' → ∃ m', m' < m ∧ W (i + 1) m' H') ∧ ∀ x H', J.yld i H x H' → g x (wipe σ vs) H' fun σ2 H2 => wipe σ2 vs = wipe σ vs ∧ tYes σ2 H2 fun b H3 =>
        if b = true then te σ2 H3 fun y H4 => ∃ acc, H4 D = some (.lst acc) ∧ acc.length < sizeLine ∧ Nx (upd H4 D (.lst (acc ++ [y]))) else Nx H3) :=
  lc_gen w noA (fun _ _ => True) out hz hD id (fun _ H k _ => hG H k.same) (fun _ _ => trivial) (fun _ _ _ _ _ => trivial) hY (fun i y H H' acc e k q => ho i y H H' acc e (k.elim (fun k b o _ eb => k b o id eb) id) q)
    (fun i x H hi k _ y Q hQ => hs i x H hi k.same y Q fun z H4 s o4 => hQ z H4 (.of_same s) trivial o4) fun H acc k _ e l q => hd H acc k.same e l q
end
/-- a list of values told one by one -/
theorem eq_map_of {α β : Type} {xs : List α} {acc : List β} {f : α → β} (l : acc.length = xs.length) (h : ∀ (i : Nat) (y : β), acc[i]? = some y → ∃ x, xs[i]? = some x ∧ y = f x) : acc = xs.map f := by
  refine List.ext_getElem? fun i => ?_
  cases e : acc[i]? with
  | none =>
    have : xs.length ≤ i := by
      rw [← l]
      exact List.getElem?_eq_none_iff.mp e
    rw [List.getElem?_map, List.getElem?_eq_none this] <;> rfl
  | some y =>
    obtain ⟨x, hx, rfl⟩ := h i y e
    rw [List.getElem?_map, hx] <;> rfl
end Eld
end L2

set_option Elab.async false
set_option linter.all false
set_option maxRecDepth 100000
set_option maxHeartbeats 4000000
/-! ## drawing numbers out of a purse -/
namespace L2
namespace Eld
open PySem PySem.Spec PyProof.Rows PySem.EldX
/-! ### numbers -/
theorem ediv_lt_self' {a b B : Int} (h0 : 0 ≤ a) (h1 : a < B) (hb : 1 ≤ b) : 0 ≤ a / b ∧ a / b < B := by
  refine ⟨Int.ediv_nonneg h0 (by omega), Int.lt_of_le_of_lt (Int.ediv_le_self b h0) h1⟩
theorem fmod_in {a b : Int} (hb : 0 < b) : 0 ≤ a.fmod b ∧ a.fmod b < b := by
  rw [Int.fmod_eq_emod_of_nonneg a (Int.le_of_lt hb)]
  exact ⟨Int.emod_nonneg a (by omega), Int.emod_lt_of_pos a hb⟩
theorem cutV_map {α : Type} (f : α → V) (xs : List α) (lo hi : Option Int) : cutV (xs.map f) lo hi = ((xs.drop (HT.sIx xs.length 0 lo)).take (HT.sIx xs.length xs.length hi - HT.sIx xs.length 0 lo)).map f := by
  unfold cutV
  rw [List.length_map, List.map_take, List.map_drop]
/-- i ** j of whole numbers, the left one below 2 ^ 400 -/
theorem intBits_le (x : Int) : Builtin.Int.intBits x ≤ x.natAbs.log2 + 1 := by
  unfold Builtin.Int.intBits
  split <;> omega
theorem op_powB {X : Cx} : OpR X (binaryOp .Pow) (rI (fun i j => 0 ≤ j ∧ j ≤ 1000 ∧ i.natAbs < 2 ^ 400) fun i j => .int (i ^ j.toNat)) := opI fun i j _ _ _ _ _ hc q => by
  refine pow_int hc.1 ?_ q
  have h1 := intBits_le i
  have h2 : i.natAbs.log2 < 400 := PySem.Flt.log2_lt_of (by decide) hc.2.2
  have h3 : (Builtin.Int.intBits i : Int) ≤ 400 := by omega
  have h4 : (Builtin.Int.intBits i : Int) * j ≤ 400 * 1000 := Int.mul_le_mul h3 hc.2.1 hc.1 (by decide)
  exact Int.le_trans h4 (by decide)
/-- the most that a purse's first number may be -/
def big : Int := (10 ^ 60) ^ 8
theorem big_pos : 0 < big := by decide +kernel
theorem big_lt : big.natAbs < 2 ^ 1600 := by decide +kernel
/-- a purse at p from which no more than n draws have been made -/
def PurseAt (H : Hp) (p : Addr) (n : Nat) : Prop :=
  ∃ a b c d : Int, H p = some (.lst [.int a, .int b, .int c, .int d]) ∧ (0 ≤ a ∧ a < big) ∧ (0 ≤ b ∧ b < 2147483629) ∧ (0 ≤ c ∧ c ≤ n) ∧ (0 ≤ d ∧ d ≤ 63)
theorem PurseAt.mono {H : Hp} {p : Addr} {n m : Nat} (h : PurseAt H p n) (l : n ≤ m) : PurseAt H p m := by
  obtain ⟨a, b, c, d, e, ha, hb, hc, hd⟩ := h
  exact ⟨a, b, c, d, e, ha, hb, ⟨hc.1, by omega⟩, hd⟩
/-- but for the object at p nothing that was tracked has changed, and what is tracked besides is new -/
def But (p : Addr) (H H' : Hp) : Prop := ∀ b, b ≠ p → H' b = H b
theorem But.refl {p : Addr} {H : Hp} : But p H H := fun _ _ => rfl
theorem But.trans {p : Addr} {H1 H2 H3 : Hp} (a : But p H1 H2) (b : But p H2 H3) : But p H1 H3 := fun c h => (b c h).trans (a c h)
theorem But.upd {p : Addr} {H H' : Hp} {o : HO} (a : But p H H') : But p H (upd H' p o) := fun c h => by
  rw [upd_ne h]
  exact a c h
theorem But.sql {K : PySem.W.Frag} {p a : Addr} {H H' : Hp} {xs : List V} (h : But p H H') (hp : a ≠ p) (s : SqL K H a xs) : SqL K H' a xs := by
  rcases s with (s | ⟨o, s⟩) | s
  · exact .inl (.inl ((h a hp).trans s))
  · exact .inl (.inr ⟨o, (h a hp).trans s⟩)
  · exact .inr s
section
variable {P : Program} {w : World} {K : PySem.W.Frag} {mg : Str → Option Value} {base : Heap}
/-! ### _law_purse -/
def spPurse (K : PySem.W.Frag) : Sp := fun vs H Q _ => ∃ (a : Addr) (ns : List Int) (i : Int), vs = [.ref a, .int i] ∧ SqL K H a (ns.map V.int) ∧ (0 ≤ i ∧ i ≤ 63) ∧
  ∀ H' p, Same H H' → H p = none → PurseAt H' p 0 → Q (.ref p) H'
theorem same_new {H : Hp} {p : Addr} {o : HO} (h : H p = none) : Same H (upd H p o) := fun b x e => by
  rw [upd_ne (ne_of_none e h)]
  exact e
theorem ok_purse {f : Addr} {fd : FuncData} {k : Nat} (F : Fun K "_law_purse" "_law_purse" sPurse f fd) (ms : mg "sum" = none) (mm : mg "max" = none) : FnOk P w K mg base CX0 (k + 1) f fd ["_law_script", "_law_at"] (spPurse K) := by
  refine F.ok scPurse (fun vs H Q E h => ?_) (fun cdv A outer s H vs Q E hr h => ?_)
  · obtain ⟨a, ns, i, rfl, _⟩ := h
    rfl
  · obtain ⟨a, ns, i, rfl, hS, hi, q⟩ := h
    refine ⟨_, pss_cons (ps_set (i := 2) scPurse.nd rfl (.inl rfl) (pe_callB (cr_sum rfl) (by rfl) ms (by decide +kernel)
        (pa_cons (pe_slice sl_list (pv 0) (po_some (pv 1)) (po_some (pe_op op_add (pv 1) pe_int))) pa_nil)))
      (pss_one (ps_ret (pe_lst (pa_cons (pe_op op_modN (pe_callB (call_max2 rfl) (by rfl) mm (by decide +kernel) (pa_cons (pe_op op_sub (pv 2) (pe_op op_pow pe_int pe_int)) (pa_cons pe_int pa_nil)))
          (pe_op op_powB (pe_op op_pow pe_int pe_int) pe_int))
        (pa_cons (pe_op op_modN (pv 2) pe_int) (pa_cons pe_int (pa_cons (pv 1) pa_nil))))))), ?_⟩
    refine ⟨.ref a, rfl, .int i, rfl, i, rfl, .int i, rfl, i, 1, rfl, rfl, i + 1, rfl, a, ns.map V.int, rfl, hS, fun c nc => ?_⟩
    rw [cutV_map]
    refine ⟨c, _, rfl, .inl (.inl upd_same), ?_⟩
    -- the list of four
    refine ⟨_, rfl, 10, 18, rfl, rfl, ⟨by decide, by decide, by decide⟩, _, _, rfl, rfl, _, _, rfl, 10, 60, rfl, rfl, ⟨by decide, by decide, by decide⟩, _, 8, rfl, rfl, ⟨by decide, by decide, by decide +kernel⟩, _, _, rfl, rfl, ?_, ?_⟩
    · show ((10 : Int) ^ (60 : Int).toNat) ^ (8 : Int).toNat ≠ 0
      decide +kernel
    · refine ⟨_, rfl, _, _, rfl, rfl, (by show (2147483629 : Int) ≠ 0; decide), _, rfl, (by show 4 ≤ sizeLine; decide), fun p np => ?_⟩
      have h1 : H p = none := by
        cases e : H p with
        | none => rfl
        | some o =>
          rw [upd_ne (ne_of_none e nc)] at np
          rw [e] at np
          cases np
      refine q _ p ((same_new nc).trans (same_new np)) h1 ⟨_, _, _, _, upd_same, ?_, ?_, ?_, hi⟩
      · exact fmod_in big_pos
      · exact fmod_in (by decide)
      · exact ⟨by decide, by decide⟩
/-! ### _law_mixed -/
def spMixed : Sp := fun vs H Q _ => ∃ a t d : Int, vs = [.int a, .int t, .int d] ∧ (0 ≤ a ∧ a < 2147483629) ∧ (0 ≤ t ∧ t < 1000000000000) ∧ (0 ≤ d ∧ d ≤ 63) ∧ ∀ r : Int, 0 ≤ r → r < 2147483587 → Q (.int r) H
theorem ok_mixed {f : Addr} {fd : FuncData} {k : Nat} (F : Fun K "_law_mixed" "_law_mixed" sMixed f fd) : FnOk P w K mg base CX0 (k + 1) f fd ["_law_seed", "_law_turn", "_law_at"] spMixed := by
  refine F.ok scMixed (fun vs H Q E h => ?_) (fun cdv A outer s H vs Q E hr h => ?_)
  · obtain ⟨a, t, d, rfl, _⟩ := h
    rfl
  · obtain ⟨a, t, d, rfl, ha, ht, hd, q⟩ := h
    refine ⟨_, pss_cons (ps_set (i := 3) scMixed.nd rfl (.inl rfl) (pe_op op_add (pe_op op_mul (pv 0) pe_int) (pe_op op_mul (pe_op op_mul pe_int (pv 1)) (pv 1))))
      (pss_cons (ps_set (i := 3) scMixed.nd rfl (.inl rfl) (pe_op op_modN (pe_op op_add (pe_op op_add (pv 3) (pe_op op_mul pe_int (pv 2))) (pv 1)) pe_int))
      (pss_cons (ps_set (i := 3) scMixed.nd rfl (.inl rfl) (pe_op op_modN (pe_op op_add (pe_op op_mul (pv 3) (pv 3)) pe_int) pe_int))
      (pss_one (ps_ret (pe_op op_modN (pe_op op_mul (pv 3) pe_int) pe_int))))), ?_⟩
    refine ⟨_, rfl, _, _, rfl, rfl, .inr ⟨by decide, by decide⟩, _, rfl, _, _, rfl, rfl, .inl ⟨by decide, by decide⟩, _, rfl, _, _, rfl, rfl, .inl ⟨by omega, by omega⟩, _, _, rfl, rfl, ?_⟩
    refine ⟨_, rfl, _, rfl, _, _, rfl, rfl, .inl ⟨by decide, by decide⟩, _, _, rfl, rfl, _, rfl, _, _, rfl, rfl, _, _, rfl, rfl, (by show (2147483647 : Int) ≠ 0; decide), ?_⟩
    have b1 := fmod_in (a := a * 69069 + 104729 * t * t + 7919 * d + t) (b := 2147483647) (by decide)
    refine ⟨_, rfl, _, rfl, _, _, rfl, rfl, .inl ⟨by omega, by omega⟩, _, _, rfl, rfl, _, _, rfl, rfl, (by show (2147483629 : Int) ≠ 0; decide), ?_⟩
    refine ⟨_, rfl, _, _, rfl, rfl, .inr ⟨by decide, by decide⟩, _, _, rfl, rfl, (by show (2147483587 : Int) ≠ 0; decide), ?_⟩
    exact q _ (fmod_in (by decide)).1 (fmod_in (by decide)).2
end
end Eld
end L2

set_option Elab.async false
set_option linter.all false
set_option maxRecDepth 100000
set_option maxHeartbeats 4000000
namespace L2
namespace Eld
open PySem PySem.Spec PyProof.Rows PySem.EldX
section
variable {P : Program} {w : World} {K : PySem.W.Frag} {mg : Str → Option Value} {base : Heap}
/-! ### _law_draw -/
def spDraw : Sp := fun vs H Q _ => ∃ (p : Addr) (m : Int) (n : Nat), vs = [.ref p, .int m] ∧ PurseAt H p n ∧ n ≤ 100000000000 ∧ 1 ≤ m ∧ m.natAbs < 2 ^ 1000 ∧
  ∀ (H' : Hp) (r : Int), But p H H' → PurseAt H' p (n + 40) → 0 ≤ r → r < m → Q (.int r) H'
theorem turns_le {m : Int} (hm : m.natAbs < 2 ^ 1000) : 0 ≤ (1 : Int) + ((Builtin.Int.intBits m : Nat) : Int).fdiv 28 ∧ (1 : Int) + ((Builtin.Int.intBits m : Nat) : Int).fdiv 28 ≤ 40 := by
  have h1 := intBits_le m
  have h2 : m.natAbs.log2 < 1000 := PySem.Flt.log2_lt_of (by decide) hm
  rw [Int.fdiv_eq_ediv_of_nonneg _ (by decide)]
  omega
theorem ok_draw {f fM : Addr} {fd fdM : FuncData} (F : Fun K "_law_draw" "_law_draw" sDraw f fd) (FM : Fun K "_law_mixed" "_law_mixed" sMixed fM fdM) (gM : mg "_law_mixed" = some (.ref fM)) (mr : mg "range" = none) :
    FnOk P w K mg base CX0 2 f fd ["_law_purse_here", "_law_many"] spDraw := by
  have GM : FnOk P w K mg base CX0 1 fM fdM ["_law_seed", "_law_turn", "_law_at"] spMixed := ok_mixed FM
  have bM : Binds K fdM ["_law_seed", "_law_turn", "_law_at"] [] := FM.binds fun _ _ _ _ _ _ us hl => match us, hl with | [_, _, _], _ => rfl
  refine F.ok scDraw (fun vs H Q E h => ?_) (fun cdv A outer s H vs Q E hr h => ?_)
  · obtain ⟨p, m, n, rfl, _⟩ := h
    rfl
  · obtain ⟨p, m, n, rfl, ⟨a, b, c, d, hp, ha, hb, hc, hd⟩, hn, hm1, hm2, q⟩ := h
    refine ⟨_, pss_cons (ps_if (pt_cmpR op_gt (pe_ix ix_list (pv 0) pe_int (fun _ _ => rfl)) pe_int (nomark _))
        (pss_cons (ps_set (i := 2) scDraw.nd rfl (.inl rfl) (pe_op op_modN (pe_ix ix_list (pv 0) pe_int (fun _ _ => rfl)) (pv 1)))
        (pss_cons (ps_asg (pe_op op_fdivW (pe_ix ix_list (pv 0) pe_int (fun _ _ => rfl)) (pv 1)) (pg_sub (pv 0) pe_int set_list))
        (pss_one (ps_ret (pv 2))))) pss_nil)
      (pss_cons (ps_set (i := 3) scDraw.nd rfl (.inl rfl) pe_int)
      (pss_cons (ps_for PassesOwn.never rfl (pi_range1 rfl mr (pa_cons (pe_op op_add pe_int (pe_op op_fdivN (pe_bits (pv 1)) pe_int)) pa_nil)) (pg_name (i := 4) scDraw.nd rfl (.inl rfl))
        (pss_cons (ps_asg (pe_op op_add (pe_ix ix_list (pv 0) pe_int (fun _ _ => rfl)) pe_int) (pg_sub (pv 0) pe_int set_list))
        (pss_one (ps_set (i := 3) scDraw.nd rfl (.inl rfl) (pe_op op_add (pe_op op_mul (pv 3) pe_int)
          (pe_call GM hr (by rfl) gM FM.kp bM .nil pass0 (pa_cons (pe_ix ix_list (pv 0) pe_int (fun _ _ => rfl)) (pa_cons (pe_ix ix_list (pv 0) pe_int (fun _ _ => rfl)) (pa_cons (pe_ix ix_list (pv 0) pe_int (fun _ _ => rfl)) pa_nil))))))))) 
      (pss_one (ps_ret (pe_op op_modN (pv 3) (pv 1)))))), ?_⟩
    have hS : SqL K H p [.int a, .int b, .int c, .int d] := .inl (.inl hp)
    refine ⟨.ref p, rfl, p, _, 0, .int a, rfl, rfl, hS, rfl, _, _, rfl, rfl, _, rfl, ite2 (fun e => ?_) (fun e => ?_)⟩
    · have ea : 0 < a := of_decide_eq_true e
      refine ⟨.ref p, rfl, p, _, 0, .int a, rfl, rfl, hS, rfl, _, rfl, _, _, rfl, rfl, (by show m ≠ 0; omega), ?_⟩
      refine ⟨.ref p, rfl, p, _, 0, .int a, rfl, rfl, hS, rfl, _, rfl, _, _, rfl, rfl, wide_div (by omega) hm2 (by decide) (by decide), ?_⟩
      refine ⟨.ref p, rfl, p, _, 0, 0, rfl, rfl, hp, rfl, _, rfl, ?_⟩
      have z := ediv_lt_self' ha.1 ha.2 hm1
      have y := fmod_in (a := a) (b := m) (by omega)
      exact q _ _ (But.refl.upd) ⟨a / m, b, c, d, upd_same, z, hb, ⟨hc.1, by omega⟩, hd⟩ y.1 y.2
    · have tl := turns_le hm2
      refine ⟨_, rfl, _, rfl, _, 28, rfl, rfl, ⟨by decide, by decide⟩, 1, _, rfl, rfl, _, rfl, by omega, by omega, ?_⟩
      refine for_range (lo := 0) (n := ((1 : Int) + ((Builtin.Int.intBits m : Nat) : Int).fdiv 28).toNat)
        (fun i σ H' => ∃ (v2 : Option V) (z : Int) (v4 : Option V), σ = [some (.ref p), some (.int m), v2, some (.int z), v4] ∧ But p H H' ∧ PurseAt H' p (n + i)) ⟨_, _, _, rfl, But.refl, ⟨a, b, c, d, hp, ha, hb, hc, hd⟩⟩ ?_ ?_
      · rintro i σ H' hi ⟨v2, z, v4, rfl, hB, a', b', c', d', hp', ha', hb', hc', hd'⟩
        have hS' : SqL K H' p [.int a', .int b', .int c', .int d'] := .inl (.inl hp')
        refine ⟨.ref p, rfl, p, _, 2, .int c', rfl, rfl, hS', rfl, _, _, rfl, rfl, .ref p, rfl, p, _, 2, 2, rfl, rfl, hp', rfl, ?_⟩
        have hS2 : SqL K (upd H' p (.lst [.int a', .int b', .int (c' + 1), .int d'])) p [.int a', .int b', .int (c' + 1), .int d'] := .inl (.inl upd_same)
        refine ⟨_, rfl, _, _, rfl, rfl, .inr ⟨by decide, by decide⟩, ?_⟩
        refine ⟨.ref p, rfl, p, _, 1, .int b', rfl, rfl, hS2, rfl, .ref p, rfl, p, _, 2, .int (c' + 1), rfl, rfl, hS2, rfl, .ref p, rfl, p, _, 3, .int d', rfl, rfl, hS2, rfl, ?_⟩
        refine ⟨b', c' + 1, d', rfl, hb', ⟨by omega, by omega⟩, hd', fun r hr0 hr1 => ?_⟩
        exact ⟨_, _, rfl, rfl, v2, _, _, rfl, hB.upd, a', b', c' + 1, d', upd_same, ha', hb', ⟨by omega, by omega⟩, hd'⟩
      · rintro σ H' ⟨v2, z, v4, rfl, hB, hP⟩
        have y := fmod_in (a := z) (b := m) (by omega)
        exact ⟨_, rfl, _, rfl, _, _, rfl, rfl, (by show m ≠ 0; omega), q _ _ hB (hP.mono (by omega)) y.1 y.2⟩
end
end Eld
end L2

set_option Elab.async false
set_option linter.all false
set_option maxRecDepth 100000
set_option maxHeartbeats 4000000
namespace L2
namespace Eld
open PySem PySem.Spec PyProof.Rows PySem.EldX
theorem none_of_same {H H' : Hp} {p : Addr} (s : Same H H') (n : H' p = none) : H p = none := by
  cases e : H p with
  | none => rfl
  | some o =>
    rw [s _ _ e] at n
    cases n
theorem PurseAt.some {H : Hp} {p : Addr} {n : Nat} (h : PurseAt H p n) : ∃ o, H p = some o := by
  obtain ⟨a, b, c, d, e, _⟩ := h
  exact ⟨_, e⟩
theorem PurseAt.of_eq {H H' : Hp} {p : Addr} {n : Nat} (h : PurseAt H p n) (e : H' p = H p) : PurseAt H' p n := by
  obtain ⟨a, b, c, d, q, r⟩ := h
  exact ⟨a, b, c, d, e.trans q, r⟩
theorem PurseAt.same {H H' : Hp} {p : Addr} {n : Nat} (h : PurseAt H p n) (s : Same H H') : PurseAt H' p n := by
  obtain ⟨a, b, c, d, q, r⟩ := h
  exact ⟨a, b, c, d, s _ _ q, r⟩
section
variable {P : Program} {w : World} {K : PySem.W.Frag} {mg : Str → Option Value} {base : Heap}
/-! ### _law_purses -/
def spPurses (K : PySem.W.Frag) : Sp := fun vs H Q _ => ∃ (a : Addr) (ns : List Int) (few : Int), vs = [.ref a, .int few] ∧ SqL K H a (ns.map V.int) ∧ ns.length ≤ 63 ∧ (1 ≤ few ∧ few ≤ 63) ∧
  ∀ (H' : Hp) (p : Addr) (ps : List Addr), Same H H' → H p = none → H' p = some (.lst (ps.map V.ref)) → (∀ x ∈ ps, H x = none ∧ x ≠ p ∧ PurseAt H' x 0) → ps.Nodup → ps.length ≤ 63 → Q (.ref p) H'
theorem ok_purses {f fP : Addr} {fd fdP : FuncData} (F : Fun K "_law_purses" "_law_purses" sPurses f fd) (FP : Fun K "_law_purse" "_law_purse" sPurse fP fdP) (gP : mg "_law_purse" = some (.ref fP))
    (mr : mg "range" = none) (mm : mg "max" = none) (mi : mg "min" = none) (ml : mg "len" = none) (ms : mg "sum" = none) : FnOk P w K mg base CX0 2 f fd ["_law_script", "_law_few"] (spPurses K) := by
  have GP : FnOk P w K mg base CX0 1 fP fdP ["_law_script", "_law_at"] (spPurse K) := ok_purse FP ms mm
  have bP : Binds K fdP ["_law_script", "_law_at"] [] := FP.binds fun _ _ _ _ _ _ us hl => match us, hl with | [_, _], _ => rfl
  refine F.ok scPurses (fun vs H Q E h => ?_) (fun cdv A outer s H vs Q E hr h => ?_)
  · obtain ⟨a, ns, few, rfl, _⟩ := h
    rfl
  · obtain ⟨a, ns, few, rfl, hS, hn, hf, q⟩ := h
    refine ⟨_, pss_one (ps_ret (pe_lc (own := [("_law_at", 2)]) (g := gName 2) (tt := tYes) rfl scPurses.nd
      (pi_range1 rfl mr (pa_cons (pe_callB (call_max2 rfl) (by rfl) mm (by decide +kernel) (pa_cons pe_int (pa_cons (pe_callB (call_min2 rfl) (by rfl) mi (by decide +kernel)
        (pa_cons (pv 1) (pa_cons (pe_callB call_len_seq (by rfl) ml PySem.boot_len (pa_cons (pv 0) pa_nil)) pa_nil))) pa_nil))) pa_nil))
      (blkOk_by (own := [("_law_at", 2)]) (N := ["_law_script", "_law_few", "_law_at"]) (sc := defScope sPurses) (by decide +kernel)) (fun _ _ _ _ _ => pg_name (i := 2) scPurses.nd rfl (.inl rfl)) (fun _ _ _ _ _ => pts_nil)
      (fun _ _ _ _ _ => pe_call GP hr (by rfl) gP FP.kp bP .nil pass0 (pa_cons (pv 0) (pa_cons (pv 2) pa_nil))))), ?_⟩
    refine ⟨_, rfl, .ref a, rfl, a, _, rfl, .inl hS, _, _, rfl, _, _, rfl, _, rfl, ?_⟩
    have len : ((ns.map V.int).length : Int) ≤ 63 := by
      rw [List.length_map]
      omega
    have m0 : 0 ≤ ((ns.map V.int).length : Int) := by omega
    generalize ((ns.map V.int).length : Int) = L at len m0
    have r1 : (1 : Int) ≤ (if (if L < few then L else few) > 1 then (if L < few then L else few) else 1) := by
      split <;> split <;> omega
    have r2 : (if (if L < few then L else few) > 1 then (if L < few then L else few) else 1) ≤ 63 := by
      split <;> split <;> omega
    generalize (if (if L < few then L else few) > 1 then (if L < few then L else few) else 1) = m at r1 r2
    refine ⟨by omega, by omega, fun D hD => ?_⟩
    refine lc_range (lo := 0) (n := m.toNat) (fun i H' => ∃ ps : List Addr, ps.length = i ∧ Same H H' ∧ H' D = some (.lst (ps.map V.ref)) ∧ (∀ x ∈ ps, H x = none ∧ x ≠ D ∧ PurseAt H' x 0) ∧ ps.Nodup)
      ⟨[], rfl, same_new hD, upd_same, (fun _ z => nomatch z), List.nodup_nil⟩ ?_ ?_
    · rintro i H' hi ⟨ps, hl, sm, hd, hp, nd⟩
      refine ⟨rfl, .ref a, rfl, _, rfl, a, ns, _, rfl, sm.seq hS, ⟨by omega, by omega⟩, fun H2 p s2 np h2 => ?_⟩
      refine ⟨ps.map V.ref, s2 _ _ hd, by rw [List.length_map]; exact small1000 (by omega), ps ++ [p], by rw [List.length_append, hl]; rfl, fun b z e => ?_, by rw [upd_same, List.map_append]; rfl, fun x hx => ?_, ?_⟩
      · rw [upd_ne (ne_of_none e hD)]
        exact s2 _ _ (sm _ _ e)
      · have pD : p ≠ D := fun z => by
          rw [z, hd] at np
          cases np
        rcases List.mem_append.mp hx with hx | hx
        · obtain ⟨e1, e2, e3⟩ := hp x hx
          exact ⟨e1, e2, (e3.same s2).of_eq (upd_ne e2)⟩
        · obtain rfl := List.mem_singleton.mp hx
          exact ⟨none_of_same sm np, pD, h2.of_eq (upd_ne pD)⟩
      · rw [List.nodup_append]
        refine ⟨nd, by simp, fun x hx y hy e => ?_⟩
        obtain rfl := List.mem_singleton.mp hy
        subst e
        obtain ⟨_, _, e3⟩ := hp x hx
        obtain ⟨o, e4⟩ := e3.some
        rw [np] at e4
        cases e4
    · rintro H' ⟨ps, hl, sm, hd, hp, nd⟩
      exact q H' D ps sm hD hd hp nd (by omega)
/-! ### _law_one_of -/
def spOneOf (K : PySem.W.Frag) : Sp := fun vs H Q _ => ∃ (p l : Addr) (xs : List V) (n : Nat), vs = [.ref p, .ref l] ∧ PurseAt H p n ∧ n ≤ 100000000000 ∧ SqL K H l xs ∧ l ≠ p ∧ 1 ≤ xs.length ∧ xs.length ≤ 1000 ∧
  ∀ (H' : Hp) (i : Nat) (x : V), But p H H' → PurseAt H' p (n + 40) → xs[i]? = some x → Q x H'
theorem small_bits {n : Nat} (h : n ≤ 1000) : ((n : Nat) : Int).natAbs < 2 ^ 1000 := by
  rw [Int.natAbs_natCast]
  exact Nat.lt_of_le_of_lt h (by decide +kernel)
theorem ok_oneOf {f fD fM : Addr} {fd fdD fdM : FuncData} (F : Fun K "_law_one_of" "_law_one_of" sOneOf f fd) (FD : Fun K "_law_draw" "_law_draw" sDraw fD fdD) (FM : Fun K "_law_mixed" "_law_mixed" sMixed fM fdM)
    (gD : mg "_law_draw" = some (.ref fD)) (gM : mg "_law_mixed" = some (.ref fM)) (mr : mg "range" = none) (ml : mg "len" = none) : FnOk P w K mg base CX0 3 f fd ["_law_purse_here", "_law_some"] (spOneOf K) := by
  have GD : FnOk P w K mg base CX0 2 fD fdD ["_law_purse_here", "_law_many"] spDraw := ok_draw FD FM gM mr
  have bD : Binds K fdD ["_law_purse_here", "_law_many"] [] := FD.binds fun _ _ _ _ _ _ us hl => match us, hl with | [_, _], _ => rfl
  refine F.ok scOneOf (fun vs H Q E h => ?_) (fun cdv A outer s H vs Q E hr h => ?_)
  · obtain ⟨p, l, xs, n, rfl, _⟩ := h
    rfl
  · obtain ⟨p, l, xs, n, rfl, hp, hn, hS, ne, l1, l2, q⟩ := h
    refine ⟨_, pss_one (ps_ret (pe_ix ix_list (pv 1) (pe_call GD hr (by rfl) gD FD.kp bD .nil pass0 (pa_cons (pv 0) (pa_cons (pe_callB call_len_seq (by rfl) ml PySem.boot_len (pa_cons (pv 1) pa_nil)) pa_nil))) (fun _ _ => rfl))), ?_⟩
    refine ⟨.ref l, rfl, .ref p, rfl, .ref l, rfl, l, xs, rfl, .inl hS, p, _, n, rfl, hp, hn, by omega, small_bits l2, fun H' r hB hP r0 r1 => ?_⟩
    obtain ⟨j, rfl⟩ : ∃ j : Nat, r = (j : Int) := ⟨r.toNat, by omega⟩
    have hj : j < xs.length := by omega
    exact ⟨l, xs, _, xs[j], rfl, rfl, hB.sql ne hS, atI_nat (List.getElem?_eq_getElem hj), q H' j _ hB hP (List.getElem?_eq_getElem hj)⟩
/-! ### _law_word -/
/-- a word: one to ten signs a to z -/
def IsWord (x : Str) : Prop := 1 ≤ x.length ∧ x.length ≤ 10 ∧ ∀ c ∈ x.cps.toList, 97 ≤ c ∧ c ≤ 122
def spWord : Sp := fun vs H Q _ => ∃ (p : Addr) (n : Nat), vs = [.ref p] ∧ PurseAt H p n ∧ n ≤ 90000000000 ∧ ∀ (H' : Hp) (x : Str), But p H H' → PurseAt H' p (n + 440) → IsWord x → Q (.str x) H'
theorem letter : ∀ j : Fin 26, atI (("abcdefghijklmnopqrstuvwxyz" : Str)).cps.toList ((j.val : Nat) : Int) = some (97 + j.val) := by decide +kernel
theorem ok_word {f fD fM : Addr} {fd fdD fdM : FuncData} (F : Fun K "_law_word" "_law_word" sWord f fd) (FD : Fun K "_law_draw" "_law_draw" sDraw fD fdD) (FM : Fun K "_law_mixed" "_law_mixed" sMixed fM fdM)
    (gD : mg "_law_draw" = some (.ref fD)) (gM : mg "_law_mixed" = some (.ref fM)) (mr : mg "range" = none) : FnOk P w K mg base CX0 3 f fd ["_law_purse_here"] spWord := by
  have GD : FnOk P w K mg base CX0 2 fD fdD ["_law_purse_here", "_law_many"] spDraw := ok_draw FD FM gM mr
  have bD : Binds K fdD ["_law_purse_here", "_law_many"] [] := FD.binds fun _ _ _ _ _ _ us hl => match us, hl with | [_, _], _ => rfl
  refine F.ok scWord (fun vs H Q E h => ?_) (fun cdv A outer s H vs Q E hr h => ?_)
  · obtain ⟨p, n, rfl, _⟩ := h
    rfl
  · obtain ⟨p, n, rfl, hp, hn, q⟩ := h
    refine ⟨_, pss_cons (ps_set (i := 1) scWord.nd rfl (.inl rfl) pe_str)
      (pss_cons (ps_for PassesOwn.never rfl (pi_range1 rfl mr (pa_cons (pe_op op_add pe_int (pe_call GD hr (by rfl) gD FD.kp bD .nil pass0 (pa_cons (pv 0) (pa_cons pe_int pa_nil)))) pa_nil)) (pg_name (i := 2) scWord.nd rfl (.inl rfl))
        (pss_one (ps_set (i := 1) scWord.nd rfl (.inl rfl) (pe_op op_add_str (pv 1) (pe_ix ix_str pe_str (pe_call GD hr (by rfl) gD FD.kp bD .nil pass0 (pa_cons (pv 0) (pa_cons pe_int pa_nil))) (fun _ _ => rfl))))))
      (pss_one (ps_ret (pv 1)))), ?_⟩
    refine ⟨.ref p, rfl, p, 10, n, rfl, hp, by omega, by decide, by decide +kernel, fun H1 r hB hP r0 r1 => ?_⟩
    refine ⟨_, _, rfl, rfl, _, rfl, by omega, by omega, ?_⟩
    refine for_range (lo := 0) (n := (1 + r).toNat)
      (fun i σ H' => ∃ (x : Str) (v2 : Option V), σ = [some (.ref p), some (.str x), v2] ∧ But p H H' ∧ PurseAt H' p (n + 40 + 40 * i) ∧ x.length = i ∧ ∀ c ∈ x.cps.toList, 97 ≤ c ∧ c ≤ 122) ⟨_, _, rfl, hB, hP, rfl, fun c z => by cases z⟩ ?_ ?_
    · rintro i σ H' hi ⟨x, v2, rfl, hB', hP', hl, hc⟩
      refine ⟨_, rfl, .ref p, rfl, p, 26, _, rfl, hP', by omega, by decide, by decide +kernel, fun H2 r2 hB2 hP2 z0 z1 => ?_⟩
      have hj : r2.toNat < 26 := by omega
      have er : r2 = ((r2.toNat : Nat) : Int) := by omega
      have le := letter ⟨r2.toNat, hj⟩
      rw [← er] at le
      refine ⟨_, r2, _, rfl, rfl, by decide +kernel, le, _, _, rfl, rfl, ?_, ?_⟩
      · rw [hl, sizeLine_eq]
        show i + 1 ≤ 16777216
        omega
      · refine ⟨_, _, rfl, hB'.trans hB2, hP2.mono (by omega), ?_, fun c z => ?_⟩
        · rw [strLen_append, hl]
          rfl
        · rw [Str.cps_append, Array.toList_append] at z
          rcases List.mem_append.mp z with z | z
          · exact hc c z
          · have z' : c ∈ [97 + r2.toNat] := z
            obtain rfl := List.mem_singleton.mp z'
            omega
    · rintro σ H' ⟨x, v2, rfl, hB', hP', hl, hc⟩
      exact ⟨_, rfl, q H' x hB' (hP'.mono (by omega)) ⟨by omega, by omega, hc⟩⟩
end
end Eld
end L2

set_option Elab.async false
set_option linter.all false
set_option maxRecDepth 100000
set_option maxHeartbeats 4000000
/-! ## the checks of the program -/
namespace L2
namespace Eld
open PySem PySem.Spec PyProof.Rows PySem.EldX
/-- names of the library's that the module leaves as they are -/
structure Blt (mg : Str → Option Value) : Prop where
  len : mg "len" = none
  isinstance : mg "isinstance" = none
  int : mg "int" = none
  bool : mg "bool" = none
  str : mg "str" = none
  list : mg "list" = none
  set : mg "set" = none
  all : mg "all" = none
  sorted : mg "sorted" = none
  tuple : mg "tuple" = none
  range : mg "range" = none
  min : mg "min" = none
  max : mg "max" = none
  sum : mg "sum" = none
  repr : mg "repr" = none
/-- a list's type -/
theorem tyx_list {K : PySem.W.Frag} {H : Hp} {l : Addr} {xs : List V} (h : SqL K H l xs) : TyX K H (.ref l) (.type "list") := by
  rcases h with (h | ⟨o, h⟩) | ⟨o, vs, n, h, c, _⟩
  · exact .base (.lst h)
  · exact .base (.frz h)
  · exact .kList h c
theorem length_word {x : Str} (h : IsWord x) : x.length ≤ sizeLine := Nat.le_trans h.2.1 (by decide)
section
variable {P : Program} {w : World} {K : PySem.W.Frag} {mg : Str → Option Value} {base : Heap}
/-! ### is_whole -/
def spWhole : Sp := fun vs H Q _ => ∃ i : Int, vs = [.int i] ∧ Q (.bl true) H
theorem ok_whole {f : Addr} {fd : FuncData} {k : Nat} (F : Fun K "is_whole" "is_whole" sWhole f fd) (B : Blt mg) : FnOk P w K mg base CX0 (k + 1) f fd ["value"] spWhole := by
  refine F.ok scWhole (fun vs H Q E h => ?_) (fun cdv A outer s H vs Q E hr h => ?_)
  · obtain ⟨i, rfl, _⟩ := h
    rfl
  · obtain ⟨i, rfl, q⟩ := h
    refine ⟨_, (pss_one (ps_ret (pe_and (pe_callB call_isi (by rfl) B.isinstance (by decide +kernel) (pa_cons (pv 0) (pa_cons (pe_bltn (v := .ty "int") rfl B.int (by decide +kernel) rfl) pa_nil))) (pe_one (pe_not (pe_callB call_isi (by rfl) B.isinstance (by decide +kernel) (pa_cons (pv 0) (pa_cons (pe_bltn (v := .ty "bool") rfl B.bool (by decide +kernel) rfl) pa_nil)))))))), ?_⟩
    refine ⟨.int i, rfl, .int i, .ty "int", _, _, true, rfl, .ty _, .base (.int i), kit_ty (by decide +kernel), true, rfl, iteT ?_⟩
    exact ⟨.int i, rfl, .int i, .ty "bool", _, _, false, rfl, .ty _, .base (.int i), kit_ty (by decide +kernel), false, rfl, q⟩
/-! ### is_name -/
def spIsName : Sp := fun vs H Q _ => ∃ x : Str, vs = [.str x] ∧ IsWord x ∧ ∀ H', Same H H' → Q (.bl true) H'
theorem word_sign {x : Str} {c : Nat} {i : Nat} (h : IsWord x) (e : x.cps[i]? = some c) : 97 ≤ c ∧ c ≤ 122 := h.2.2 c (Array.mem_toList_iff.mpr (Array.mem_of_getElem? e))
theorem sign_in {c : Nat} (h : 97 ≤ c ∧ c ≤ 122) : (!decide ((⟨#[c]⟩ : Str).cps.toList < ("a" : Str).cps.toList)) = true ∧ (!decide (("z" : Str).cps.toList < (⟨#[c]⟩ : Str).cps.toList)) = true := by
  have ea : ("a" : Str).cps.toList = [97] := by decide +kernel
  have ez : ("z" : Str).cps.toList = [122] := by decide +kernel
  rw [ea, ez]
  refine ⟨?_, ?_⟩
  · rw [Bool.not_eq_true', decide_eq_false_iff_not]
    intro z
    rcases List.cons_lt_cons_iff.mp z with z | ⟨_, z⟩
    · omega
    · cases z
  · rw [Bool.not_eq_true', decide_eq_false_iff_not]
    intro z
    rcases List.cons_lt_cons_iff.mp z with z | ⟨_, z⟩
    · omega
    · cases z
theorem all_true {bs : List Bool} (h : ∀ (i : Nat) b, bs[i]? = some b → b = true) : bs.all id = true := List.all_eq_true.mpr fun b hb => by
  obtain ⟨i, hi⟩ := List.mem_iff_getElem?.mp hb
  exact h i b hi
theorem bls_of {acc : List V} (h : ∀ (i : Nat) y, acc[i]? = some y → y = V.bl true) : acc = (List.replicate acc.length true).map V.bl := by
  refine List.ext_getElem? fun i => ?_
  cases e : acc[i]? with
  | none => simp [List.getElem?_eq_none_iff.mp e]
  | some y =>
    have hi : i < acc.length := (List.getElem?_eq_some_iff.mp e).1
    rw [h i y e]
    simp [hi]
theorem ok_isName {f : Addr} {fd : FuncData} {k : Nat} (F : Fun K "is_name" "is_name" sIsName f fd) (B : Blt mg) : FnOk P w K mg base CX0 (k + 1) f fd ["value"] spIsName := by
  refine F.ok scIsName (fun vs H Q E h => ?_) (fun cdv A outer s H vs Q E hr h => ?_)
  · obtain ⟨x, rfl, _⟩ := h
    rfl
  · obtain ⟨x, rfl, hx, q⟩ := h
    refine ⟨_, (pss_cons (ps_if (PW.pt (pw_or (pt_not (pt_val (pe_callB call_isi (by rfl) B.isinstance (by decide +kernel) (pa_cons (pv 0) (pa_cons (pe_bltn (v := .ty "str") rfl B.str (by decide +kernel) rfl) pa_nil))))) (pw_or1 (pt_not (pt_chain op_le op_le pe_int (pe_callB call_len_str (by rfl) B.len PySem.boot_len (pa_cons (pv 0) pa_nil)) pe_int))))) (pss_one (ps_ret pe_bl)) pss_nil)
      (pss_one (ps_ret (pe_callB (cr_all rfl) (by rfl) B.all (by decide +kernel) (pa_cons (pe_lc (own := [("sign", 1)]) (g := gName 1) (tt := tYes) rfl scIsName.nd (pi_str (pv 0)) (blkOk_by (own := [("sign", 1)]) (N := NIsName) (sc := defScope sIsName) (by decide +kernel)) (fun _ _ _ _ _ => pg_name (i := 1) scIsName.nd rfl (.inl rfl)) (fun _ _ _ _ _ => pts_nil) (fun _ _ _ _ _ => (pe_chain op_le_str op_le_str pe_str (pv 1) pe_str))) pa_nil))))), ?_⟩
    refine ⟨.str x, rfl, .str x, .ty "str", _, _, true, rfl, .ty _, .base (.str x), kit_ty (by decide +kernel), true, rfl, iteF ?_⟩
    refine ⟨.str x, rfl, x, rfl, length_word hx, 1, _, rfl, rfl, true, congrArg V.bl (decide_eq_true (by have := hx.1; omega)), iteT ?_⟩
    refine ⟨_, 10, rfl, rfl, true, congrArg V.bl (decide_eq_true (by have := hx.2.1; omega)), iteF ?_⟩
    refine ⟨.str x, rfl, x, rfl, fun D hD => ?_⟩
    refine lc_out walk_str (fun _ y _ => y = .bl true) (Nat.lt_of_le_of_lt (show x.cps.size ≤ 10 from hx.2.1) (by decide)) hD (fun _ _ => trivial) (fun _ _ _ _ y => y.1) (fun _ _ _ _ _ _ _ o => o) ?_ ?_
    · rintro i v G hi sG ⟨_, c, hc, rfl⟩ R hR
      obtain ⟨z1, z2⟩ := sign_in (word_sign hx hc)
      exact ⟨rfl, .str _, rfl, _, _, rfl, rfl, true, congrArg V.bl z1, iteT ⟨_, _, rfl, rfl, hR _ _ (Same.refl _) (congrArg V.bl z2)⟩⟩
    · intro G acc sG hG hl ho
      have e := bls_of ho
      rw [e] at hG
      refine ⟨D, List.replicate acc.length true, rfl, SqL.of hG, ?_⟩
      rw [all_true fun i b hb => by
        have := List.getElem?_eq_some_iff.mp hb
        obtain ⟨h1, h2⟩ := this
        rw [← h2, List.getElem_replicate]]
      exact q G sG
/-! ### are_unlike -/
def spUnlike (K : PySem.W.Frag) : Sp := fun vs H Q _ => ∃ (l : Addr) (ys : List Str), vs = [.ref l] ∧ SqL K H l (ys.map V.str) ∧ ys.length ≤ 1000 ∧ ∀ H', Same H H' → Q (.bl (decide ys.Nodup)) H'
theorem ok_unlike {f : Addr} {fd : FuncData} {k : Nat} (F : Fun K "are_unlike" "are_unlike" sUnlike f fd) (B : Blt mg) : FnOk P w K mg base CX0 (k + 1) f fd ["names"] (spUnlike K) := by
  refine F.ok scUnlike (fun vs H Q E h => ?_) (fun cdv A outer s H vs Q E hr h => ?_)
  · obtain ⟨l, ys, rfl, _⟩ := h
    rfl
  · obtain ⟨l, ys, rfl, hS, hz, q⟩ := h
    refine ⟨_, (pss_one (ps_ret (pe_cmpR op_eq (pe_callB cr_lenS (by rfl) B.len PySem.boot_len (pa_cons (pe_callTy (cr_setS rfl) (by rfl) B.set (by decide +kernel) (pa_cons (pv 0) pa_nil)) pa_nil)) (pe_callB call_len_seq (by rfl) B.len PySem.boot_len (pa_cons (pv 0) pa_nil)) (nomark _)))), ?_⟩
    refine ⟨.ref l, rfl, l, ys, rfl, hS, hz, fun p m np hm hn => ?_⟩
    have s1 : Same H (upd H p (SetSO w p (fun j => decide (j ∈ ys)) m)) := Same.fresh np
    refine ⟨p, _, m, rfl, upd_same, .ref l, rfl, l, ys.map V.str, rfl, .inl (s1.seq hS), rfl, ?_⟩
    have e : decide (V.int (m : Int) = V.int ((ys.map V.str).length : Nat)) = decide ys.Nodup := by
      rw [List.length_map]
      refine decide_eq_decide.mpr ?_
      rw [V.int.injEq, ← hn]
      omega
    show Q (V.bl (decide (V.int (m : Int) = V.int ((ys.map V.str).length : Nat)))) _
    rw [e]
    exact q _ s1
/-! ### are_names -/
def spAreNames (K : PySem.W.Frag) : Sp := fun vs H Q _ => ∃ (l : Addr) (ys : List Str), vs = [.ref l] ∧ SqL K H l (ys.map V.str) ∧ ys.length ≤ 1000 ∧ (∀ y ∈ ys, IsWord y) ∧ ∀ H', Same H H' → Q (.bl (decide ys.Nodup)) H'
/-- the checks, where they stand -/
structure Chk (K : PySem.W.Frag) (mg : Str → Option Value) (fIsName fUnlike : Addr) (dIsName dUnlike : FuncData) : Prop where
  IsName : Fun K "is_name" "is_name" sIsName fIsName dIsName
  Unlike : Fun K "are_unlike" "are_unlike" sUnlike fUnlike dUnlike
  gIsName : mg "is_name" = some (.ref fIsName)
  gUnlike : mg "are_unlike" = some (.ref fUnlike)
theorem Chk.bIsName {f1 f2 : Addr} {d1 d2 : FuncData} (L : Chk K mg f1 f2 d1 d2) : Binds K d1 ["value"] [] := L.IsName.binds fun _ _ _ _ _ _ us hl => match us, hl with | [_], _ => rfl
theorem Chk.bUnlike {f1 f2 : Addr} {d1 d2 : FuncData} (L : Chk K mg f1 f2 d1 d2) : Binds K d2 ["names"] [] := L.Unlike.binds fun _ _ _ _ _ _ us hl => match us, hl with | [_], _ => rfl
theorem ok_areNames {f f1 f2 : Addr} {fd d1 d2 : FuncData} (F : Fun K "are_names" "are_names" sAreNames f fd) (L : Chk K mg f1 f2 d1 d2) (B : Blt mg) : FnOk P w K mg base CX0 2 f fd ["value"] (spAreNames K) := by
  have GIsName : FnOk P w K mg base CX0 1 f1 d1 ["value"] spIsName := ok_isName L.IsName B
  have GUnlike : FnOk P w K mg base CX0 1 f2 d2 ["names"] (spUnlike K) := ok_unlike L.Unlike B
  refine F.ok scAreNames (fun vs H Q E h => ?_) (fun cdv A outer s H vs Q E hr h => ?_)
  · obtain ⟨l, ys, rfl, _⟩ := h
    rfl
  · obtain ⟨l, ys, rfl, hS, hz, hw, q⟩ := h
    refine ⟨_, (pss_cons (ps_if (PW.pt (pw_or (pt_not (pt_val (pe_callB call_isi (by rfl) B.isinstance (by decide +kernel) (pa_cons (pv 0) (pa_cons (pe_bltn (v := .ty "list") rfl B.list (by decide +kernel) rfl) pa_nil))))) (pw_or1 (pt_not (pt_val (pe_callB (cr_all rfl) (by rfl) B.all (by decide +kernel) (pa_cons (pe_lc (own := [("name", 1)]) (g := gName 1) (tt := tYes) rfl scAreNames.nd (pi_list (pv 0)) (blkOk_by (own := [("name", 1)]) (N := NAreNames) (sc := defScope sAreNames) (by decide +kernel)) (fun _ _ _ _ _ => pg_name (i := 1) scAreNames.nd rfl (.inl rfl)) (fun _ _ _ _ _ => pts_nil) (fun _ _ _ _ _ => (pe_call GIsName (hr.mono (by decide)) (by rfl) L.gIsName L.IsName.kp L.bIsName .nil pass0 (pa_cons (pv 1) pa_nil)))) pa_nil))))))) (pss_one (ps_ret pe_bl)) pss_nil)
      (pss_one (ps_ret (pe_call GUnlike (hr.mono (by decide)) (by rfl) L.gUnlike L.Unlike.kp L.bUnlike .nil pass0 (pa_cons (pv 0) pa_nil))))), ?_⟩
    refine ⟨.ref l, rfl, .ref l, .ty "list", _, _, true, rfl, .ty _, tyx_list hS, kit_ty (by decide +kernel), true, rfl, iteF ?_⟩
    refine ⟨.ref l, rfl, l, rfl, ⟨_, hS⟩, fun D hD => ?_⟩
    refine lc_out walk_list (fun _ y _ => y = .bl true) (by rw [List.length_map, sizeLine_eq]; omega) hD (fun G s => s.seq hS) (fun _ _ _ _ y => y.1) (fun _ _ _ _ _ _ _ o => o) ?_ ?_
    · rintro i v G hi sG ⟨_, hv⟩ R hR
      obtain ⟨y, hy, rfl⟩ : ∃ y, ys[i]? = some y ∧ v = V.str y := by
        rw [List.getElem?_map] at hv
        cases e : ys[i]? with
        | none => rw [e] at hv; cases hv
        | some y => rw [e] at hv; exact ⟨y, rfl, (Option.some.inj hv).symm⟩
      exact ⟨rfl, .str y, rfl, y, rfl, hw y (List.mem_of_getElem? hy), fun G' s' => hR _ G' s' rfl⟩
    · intro G acc sG hG hl ho
      have e := bls_of ho
      rw [e] at hG
      refine ⟨D, List.replicate acc.length true, rfl, SqL.of hG, true, congrArg V.bl (all_true fun i b hb => ?_), iteF ?_⟩
      · obtain ⟨h1, h2⟩ := List.getElem?_eq_some_iff.mp hb
        rw [← h2, List.getElem_replicate]
      · exact ⟨.ref l, rfl, l, ys, rfl, sG.seq hS, hz, fun G' s' => q G' (sG.trans s')⟩
end
end Eld
end L2

set_option Elab.async false
set_option linter.all false
set_option maxRecDepth 100000
set_option maxHeartbeats 4000000
/-! ## askers -/
namespace L2
namespace Eld
open PySem PySem.Spec PyProof.Rows PySem.EldX
/-- what an asker is made of -/
structure Ask where
  nm : Str
  ks : List Str
  m : Int
theorem Ask.ext' {a b : Ask} (h1 : a.nm = b.nm) (h2 : a.ks = b.ks) (h3 : a.m = b.m) : a = b := by
  cases a
  cases b
  cases h1
  cases h2
  cases h3
  rfl
instance : DecidableEq Ask := fun a b =>
  if h1 : a.nm = b.nm then if h2 : a.ks = b.ks then if h3 : a.m = b.m then .isTrue (Ask.ext' h1 h2 h3) else .isFalse fun e => h3 (e ▸ rfl) else .isFalse fun e => h2 (e ▸ rfl) else .isFalse fun e => h1 (e ▸ rfl)
abbrev afs (nm : Str) (t : Addr) (m : Int) : List (Str × V) := [(("_name" : Str), .str nm), (("_fits" : Str), .ref t), (("_most" : Str), .int m)]
/-- the asker k at a -/
def AskAt (C : Addr) (H : Hp) (a : Addr) (k : Ask) : Prop := ∃ dx t : Addr, H a = some (.ins C dx (afs k.nm t k.m)) ∧ H t = some (.tup (k.ks.map V.str))
theorem AskAt.same {C : Addr} {H H' : Hp} {a : Addr} {k : Ask} (h : AskAt C H a k) (s : Same H H') : AskAt C H' a k := by
  obtain ⟨dx, t, h1, h2⟩ := h
  exact ⟨dx, t, s _ _ h1, s _ _ h2⟩
/-- .. where nothing but a list changes -/
theorem AskAt.off {C D : Addr} {H H' : Hp} {a : Addr} {k : Ask} {xs : List V} (h : AskAt C H a k) (hD : H D = some (.lst xs)) (s : ∀ b o, b ≠ D → H b = some o → H' b = some o) : AskAt C H' a k := by
  obtain ⟨dx, t, h1, h2⟩ := h
  refine ⟨dx, t, s _ _ (fun e => ?_) h1, s _ _ (fun e => ?_) h2⟩
  · rw [e, hD] at h1
    cases h1
  · rw [e, hD] at h2
    cases h2
theorem AskAt.ins {C : Addr} {H : Hp} {a : Addr} {k : Ask} (h : AskAt C H a k) : ∃ (dx : Addr) (fs : List (Str × V)), H a = some (.ins C dx fs) := by
  obtain ⟨dx, t, h1, _⟩ := h
  exact ⟨dx, _, h1⟩
theorem strs_inj {xs ys : List Str} (h : xs.map V.str = ys.map V.str) : xs = ys := List.map_inj_right (fun a b e => by cases e; rfl) |>.mp h
/-- there is one asker at an address -/
theorem AskAt.unique {C : Addr} {H : Hp} {a : Addr} {k k' : Ask} (h : AskAt C H a k) (h' : AskAt C H a k') : k = k' := by
  obtain ⟨dx, t, h1, h2⟩ := h
  obtain ⟨dx', t', h1', h2'⟩ := h'
  rw [h1] at h1'
  have e1 := Option.some.inj h1'
  injection e1 with _ _ e2
  simp only [List.cons.injEq, Prod.mk.injEq, V.str.injEq, V.ref.injEq, V.int.injEq, true_and, and_true] at e2
  obtain ⟨e3, e4, e5⟩ := e2
  subst e4
  rw [h2] at h2'
  have e6 := Option.some.inj h2'
  injection e6 with e7
  exact Ask.ext' e3 (strs_inj e7) e5
/-- what a valid asker is -/
structure AskOk (k : Ask) : Prop where
  nm : IsWord k.nm
  ks : ∀ y ∈ k.ks, IsWord y
  nd : k.ks.Nodup
  ne : k.ks ≠ []
  lt : k.ks.length < 64
  so : sortedS k.ks = true
  m : 1 ≤ k.m
/-- a plain class of one's own, asked by isinstance -/
structure InsC (K : PySem.W.Frag) (C : Addr) : Prop where
  cl : Cls K C
  ha : PySem.W.findIn K (.ref C) "__class__" = some (some (.builtin "object.__class__"))
  hn : PySem.W.specialIn K (.builtin "object.__class__") "__get__" = some (some (.builtin "getset_descriptor.__get__"))
  ht : PySem.W.takesIn K (.builtin "object.__class__") = some true
  hm : PySem.W.mroIn K C (.type "object") = some true
  me : PySem.W.kitOne K (.ref C) (.ref C) = some true
structure ACls (K : PySem.W.Frag) (C fI pN gN pF gF pM gM fE : Addr) : Prop where
  ins : InsC K C
  noN : NoAttr K C "_name"
  noF : NoAttr K C "_fits"
  noM : NoAttr K C "_most"
  make : Mk K C fI
  pN : PropOf K C "name" pN gN
  pF : PropOf K C "fits" pF gF
  pM : PropOf K C "most" pM gM
  own : OwnE K C fE
theorem tyx_ask {K : PySem.W.Frag} {C a : Addr} {H : Hp} {dx : Addr} {fs : List (Str × V)} (T : InsC K C) (h : H a = some (.ins C dx fs)) : TyX K H (.ref a) (.ref C) := .base (TyOf.ins h T.cl T.ha T.hn T.ht T.hm)
/-- a list that is tracked or written, away from an instance -/
theorem sql_off {K : PySem.W.Frag} {C a dx l : Addr} {H H' : Hp} {fs : List (Str × V)} {xs : List V} (h : SqL K H l xs) (ha : H a = some (.ins C dx fs)) (s : ∀ b o, b ≠ a → H b = some o → H' b = some o) : SqL K H' l xs := by
  rcases h with (h | ⟨o, h⟩) | h
  · exact .inl (.inl (s _ _ (fun e => by rw [e, ha] at h; cases h) h))
  · exact .inl (.inr ⟨o, s _ _ (fun e => by rw [e, ha] at h; cases h) h⟩)
  · exact .inr h
theorem off_upd {a : Addr} {H : Hp} {o : HO} : ∀ b u, b ≠ a → H b = some u → upd H a o b = some u := fun b u hb e => by
  rw [upd_ne hb]
  exact e
theorem putF_len {f : Str} {v : V} : ∀ fs : List (Str × V), (putF f v fs).length ≤ fs.length + 1
  | [] => Nat.le_refl _
  | (g, x) :: r => by
    have ih := putF_len (f := f) (v := v) r
    unfold putF
    split
    · simp
    · simp only [List.length_cons]
      omega
theorem putF_few {f : Str} {v : V} {fs : List (Str × V)} (h : fs.length < 900) : (putF f v fs).length < 1000 := Nat.lt_of_le_of_lt (putF_len fs) (by omega)
section
variable {P : Program} {w : World} {K : PySem.W.Frag} {mg : Str → Option Value} {base : Heap} {C fI pN gN pF gF pM gM fE : Addr}
/-- more checks, where they stand -/
structure Chk2 (K : PySem.W.Frag) (mg : Str → Option Value) (fWhole fAreNames : Addr) (dWhole dAreNames : FuncData) : Prop where
  Whole : Fun K "is_whole" "is_whole" sWhole fWhole dWhole
  AreNames : Fun K "are_names" "are_names" sAreNames fAreNames dAreNames
  gWhole : mg "is_whole" = some (.ref fWhole)
  gAreNames : mg "are_names" = some (.ref fAreNames)
theorem Chk2.bWhole {f1 f2 : Addr} {d1 d2 : FuncData} (L : Chk2 K mg f1 f2 d1 d2) : Binds K d1 ["value"] [] := L.Whole.binds fun _ _ _ _ _ _ us hl => match us, hl with | [_], _ => rfl
theorem Chk2.bAreNames {f1 f2 : Addr} {d1 d2 : FuncData} (L : Chk2 K mg f1 f2 d1 d2) : Binds K d2 ["value"] [] := L.AreNames.binds fun _ _ _ _ _ _ us hl => match us, hl with | [_], _ => rfl
/-! ### __init__ -/
def spAInit (K : PySem.W.Frag) (C : Addr) : Sp := fun vs H Q _ => ∃ (a dx l : Addr) (nm : Str) (ys : List Str) (m : Int), vs = [.ref a, .str nm, .ref l, .int m] ∧ H a = some (.ins C dx []) ∧ IsWord nm ∧ SqL K H l (ys.map V.str) ∧ (∀ y ∈ ys, IsWord y) ∧ ys.Nodup ∧ ys ≠ [] ∧ ys.length < 64 ∧ 1 ≤ m ∧
  ∀ (H' : Hp) (zs : List Str), (∀ b o, b ≠ a → H b = some o → H' b = some o) → AskAt C H' a ⟨nm, zs, m⟩ → zs.Perm ys → sortedS zs = true → Q .non H'
theorem ok_ainit {f f1 f2 f3 f4 : Addr} {fd d1 d2 d3 d4 : FuncData} (F : Fun K "__init__" "Asker.__init__" sAInit f fd) (L : Chk K mg f1 f2 d1 d2) (L2 : Chk2 K mg f3 f4 d3 d4) (B : Blt mg) (T : ACls K C fI pN gN pF gF pM gM fE) :
    FnOk P w K mg base CX0 3 f fd ["self", "name", "fits", "most"] (spAInit K C) := by
  have GIsName : FnOk P w K mg base CX0 1 f1 d1 ["value"] spIsName := ok_isName L.IsName B
  have GWhole : FnOk P w K mg base CX0 1 f3 d3 ["value"] spWhole := ok_whole L2.Whole B
  have GAreNames : FnOk P w K mg base CX0 2 f4 d4 ["value"] (spAreNames K) := ok_areNames L2.AreNames L B
  refine F.ok scAInit (fun vs H Q E h => ?_) (fun cdv A outer s H vs Q E hr h => ?_)
  · obtain ⟨a, dx, l, nm, ys, m, rfl, _⟩ := h
    rfl
  · obtain ⟨a, dx, l, nm, ys, m, rfl, ha, hnm, hS, hw, hnd, hne, hlt, hm, q⟩ := h
    refine ⟨_, (pss_cons (ps_if (pt_not (pt_val (pe_call GIsName (hr.mono (by decide)) (by rfl) L.gIsName L.IsName.kp L.bIsName .nil pass0 (pa_cons (pv 1) pa_nil)))) (pss_one (ps_dead _)) pss_nil)
      (pss_cons (ps_if (PW.pt (pw_or (pt_not (pt_val (pe_call GAreNames (hr.mono (by decide)) (by rfl) L2.gAreNames L2.AreNames.kp L2.bAreNames .nil pass0 (pa_cons (pv 2) pa_nil)))) (pw_or1 (pt_cmpR op_eq (pe_callB call_len_seq (by rfl) B.len PySem.boot_len (pa_cons (pv 2) pa_nil)) pe_int (nomark _))))) (pss_one (ps_dead _)) pss_nil)
      (pss_cons (ps_if (PW.pt (pw_or (pt_not (pt_val (pe_call GWhole (hr.mono (by decide)) (by rfl) L2.gWhole L2.Whole.kp L2.bWhole .nil pass0 (pa_cons (pv 3) pa_nil)))) (pw_or1 (pt_cmpR op_lt (pv 3) pe_int (nomark _))))) (pss_one (ps_dead _)) pss_nil)
      (pss_cons (ps_fld (pv 0) (pv 1) rfl)
      (pss_cons (ps_fld (pv 0) (pe_callTy call_tuple_of (by rfl) B.tuple (by decide +kernel) (pa_cons (pe_callB cr_sortedS (by rfl) B.sorted (by decide +kernel) (pa_cons (pv 2) pa_nil)) pa_nil)) rfl)
      (pss_one (ps_fld (pv 0) (pv 3) rfl))))))), ?_⟩
    refine ⟨.str nm, rfl, nm, rfl, hnm, fun H1 s1 => ⟨true, rfl, iteF ?_⟩⟩
    refine ⟨.ref l, rfl, l, ys, rfl, s1.seq hS, by omega, hw, fun H2 s2 => ⟨_, rfl, ?_⟩⟩
    rw [decide_eq_true hnd]
    have s12 := s1.trans s2
    refine iteF ⟨.ref l, rfl, l, _, rfl, .inl (s12.seq hS), rfl, _, rfl, ?_⟩
    have hpos : 0 < ys.length := List.length_pos_iff.mpr hne
    have e0 : decide (V.int ((ys.map V.str).length : Nat) = V.int 0) = false := by
      rw [List.length_map]
      refine decide_eq_false fun z => ?_
      rw [V.int.injEq] at z
      omega
    rw [e0]
    refine iteF ⟨.int m, rfl, m, rfl, true, rfl, iteF ⟨.int m, rfl, m, 1, rfl, rfl, _, rfl, ?_⟩⟩
    rw [decide_eq_false (by omega : ¬ m < 1)]
    refine iteF ⟨.str nm, rfl, .ref a, rfl, a, C, dx, [], rfl, s12 _ _ ha, T.ins.cl, T.noN, by decide, ?_⟩
    refine ⟨.ref l, rfl, l, ys, rfl, sql_off (s12.seq hS) (s12 _ _ ha) off_upd, hlt, fun zs p hp hs np => ?_⟩
    refine ⟨p, zs.map V.str, rfl, .inl ⟨.inl (.inl upd_same), fun t nt => ?_⟩⟩
    have npa : p ≠ a := fun e => by
      rw [e, upd_same] at np
      cases np
    have nta : t ≠ a := fun e => by
      rw [e, upd_ne (Ne.symm npa), upd_same] at nt
      cases nt
    refine ⟨.ref a, rfl, a, C, dx, _, rfl, by rw [upd_ne (Ne.symm nta), upd_ne (Ne.symm npa)]; exact upd_same, T.ins.cl, T.noF, putF_few (by decide), ?_⟩
    refine ⟨.int m, rfl, .ref a, rfl, a, C, dx, _, rfl, upd_same, T.ins.cl, T.noM, Nat.lt_of_le_of_lt (putF_len _) (Nat.lt_of_le_of_lt (Nat.succ_le_succ (putF_len _)) (by decide)), ?_⟩
    refine q _ zs (fun b o hb e => ?_) ⟨dx, t, upd_same, by rw [upd_ne nta, upd_ne nta]; exact upd_same⟩ hp hs
    have e2 := s12 b o e
    have e3 : upd H2 a (.ins C dx (putF "_name" (.str nm) [])) b = some o := by
      rw [upd_ne hb]
      exact e2
    rw [upd_ne hb, upd_ne hb, upd_ne (ne_of_none (by rw [upd_ne (ne_of_none e3 np)]; exact e3) nt), upd_ne (ne_of_none e3 np)]
    exact e3
/-- Asker(nm, l, m) -/
theorem made_asker {H1 : Hp} {Q : Addr → Hp → Prop} {E : XK} {nm : Str} {l : Addr} {ys : List Str} {m : Int} (hnm : IsWord nm) (hS : SqL K H1 l (ys.map V.str)) (hw : ∀ y ∈ ys, IsWord y) (hnd : ys.Nodup) (hne : ys ≠ []) (hlt : ys.length < 64) (hm : 1 ≤ m)
    (q : ∀ (H' : Hp) (x : Addr) (zs : List Str), Same H1 H' → H1 x = none → AskAt C H' x ⟨nm, zs, m⟩ → zs.Perm ys → sortedS zs = true → Q x H') :
    ∀ x dx, H1 x = none → H1 dx = none → dx ≠ x → spAInit K C (.ref x :: ([.str nm, .ref l, .int m] ++ [])) (upd (upd H1 dx (.own x)) x (.ins C dx [])) (fun v H2 => v = .non ∧ Q x H2) E := by
  intro x dx nx ndx ne
  have s1 : Same H1 (upd (upd H1 dx (.own x)) x (.ins C dx [])) := Same.put (Same.fresh ndx) nx
  refine ⟨x, dx, l, nm, ys, m, rfl, upd_same, hnm, s1.seq hS, hw, hnd, hne, hlt, hm, fun H' zs k A hp hs => ⟨rfl, q H' x zs (fun b o e => k b o (ne_of_none e nx) (s1 b o e)) nx A hp hs⟩⟩
/-! ### name, fits, most -/
def spAName (C : Addr) : Sp := fun vs H Q _ => ∃ (a : Addr) (k : Ask), vs = [.ref a] ∧ AskAt C H a k ∧ Q (.str k.nm) H
def spAMost (C : Addr) : Sp := fun vs H Q _ => ∃ (a : Addr) (k : Ask), vs = [.ref a] ∧ AskAt C H a k ∧ Q (.int k.m) H
def spAFits (C : Addr) : Sp := fun vs H Q _ => ∃ (a : Addr) (k : Ask), vs = [.ref a] ∧ AskAt C H a k ∧ ∀ p, H p = none → Q (.ref p) (upd H p (.lst (k.ks.map V.str)))
theorem ok_aname {f : Addr} {fd : FuncData} {k : Nat} (F : Fun K "name" "Asker.name" sAName f fd) (T : ACls K C fI pN gN pF gF pM gM fE) : FnOk P w K mg base CX0 (k + 1) f fd ["self"] (spAName C) := by
  refine F.ok scAName (fun vs H Q E h => ?_) (fun cdv A outer s H vs Q E hr h => ?_)
  · obtain ⟨a, k, rfl, _⟩ := h
    rfl
  · obtain ⟨a, k, rfl, ⟨dx, t, h1, h2⟩, q⟩ := h
    refine ⟨_, (pss_one (ps_ret (pe_fld (pv 0) rfl))), ?_⟩
    exact ⟨.ref a, rfl, a, C, dx, _, _, rfl, h1, T.ins.cl, T.noN, rfl, q⟩
theorem ok_amost {f : Addr} {fd : FuncData} {k : Nat} (F : Fun K "most" "Asker.most" sAMost f fd) (T : ACls K C fI pN gN pF gF pM gM fE) : FnOk P w K mg base CX0 (k + 1) f fd ["self"] (spAMost C) := by
  refine F.ok scAMost (fun vs H Q E h => ?_) (fun cdv A outer s H vs Q E hr h => ?_)
  · obtain ⟨a, k, rfl, _⟩ := h
    rfl
  · obtain ⟨a, k, rfl, ⟨dx, t, h1, h2⟩, q⟩ := h
    refine ⟨_, (pss_one (ps_ret (pe_fld (pv 0) rfl))), ?_⟩
    exact ⟨.ref a, rfl, a, C, dx, _, _, rfl, h1, T.ins.cl, T.noM, rfl, q⟩
theorem ok_afits {f : Addr} {fd : FuncData} {k : Nat} (F : Fun K "fits" "Asker.fits" sAFits f fd) (B : Blt mg) (T : ACls K C fI pN gN pF gF pM gM fE) : FnOk P w K mg base CX0 (k + 1) f fd ["self"] (spAFits C) := by
  refine F.ok scAFits (fun vs H Q E h => ?_) (fun cdv A outer s H vs Q E hr h => ?_)
  · obtain ⟨a, k, rfl, _⟩ := h
    rfl
  · obtain ⟨a, k, rfl, ⟨dx, t, h1, h2⟩, q⟩ := h
    refine ⟨_, (pss_one (ps_ret (pe_callTy call_list_of (by rfl) B.list (by decide +kernel) (pa_cons (pe_fld (pv 0) rfl) pa_nil)))), ?_⟩
    exact ⟨.ref a, rfl, a, C, dx, _, _, rfl, h1, T.ins.cl, T.noF, rfl, t, k.ks.map V.str, rfl, .inr (SqT.of h2), q⟩
/-! ### == -/
abbrev DFl : Eqd := fun x y _ b => flatV x = true ∧ flatV y = true ∧ eqV x y = b
theorem eql_strs {H : Hp} : ∀ xs ys : List Str, EqL DFl H (xs.map V.str) (ys.map V.str) (decide (xs = ys))
  | [], [] => .nil
  | [], y :: ys => by
    rw [decide_eq_false (by simp)]
    exact .left
  | x :: xs, [] => by
    rw [decide_eq_false (by simp)]
    exact .right
  | x :: xs, y :: ys => by
    have e : eqV (V.str x) (V.str y) = decide (x = y) := by
      show (x == y) = decide (x = y)
      by_cases q : x = y <;> simp [q]
    by_cases h : x = y
    · subst h
      have ih := eql_strs (H := H) xs ys
      rw [show decide (x :: xs = x :: ys) = decide (xs = ys) by simp]
      exact .go ⟨rfl, rfl, by rw [e]; simp⟩ ih
    · rw [decide_eq_false (by simp [h])]
      exact .stop ⟨rfl, rfl, by rw [e]; simp [h]⟩
/-- the answer of an asker's == -/
def RA (K : PySem.W.Frag) (C : Addr) (a : Addr) (y : V) (H : Hp) (b : Bool) : Prop :=
  ∃ k : Ask, AskAt C H a k ∧ ((∃ (c : Addr) (k' : Ask), y = .ref c ∧ AskAt C H c k' ∧ b = decide (k = k')) ∨ ∃ t : Value, TyX K H y t ∧ PySem.W.kitOne K t (.ref C) = some false ∧ b = false)
theorem ok_aeq {f : Addr} {fd : FuncData} (F : Fun K "__eq__" "Asker.__eq__" sAEq f fd) (B : Blt mg) (T : ACls K C fI pN gN pF gF pM gM fE) (gC : mg "Asker" = some (.ref C)) : FnOk P w K mg base CX0 2 f fd ["self", "other"] (spEqB (RA K C)) := by
  refine F.ok scAEq (fun vs H Q E h => ?_) (fun cdv A outer s H vs Q E hr h => ?_)
  · obtain ⟨a, y, b, rfl, _⟩ := h
    rfl
  · obtain ⟨a, y, b, rfl, ⟨k, ⟨dx, t, h1, h2⟩, r⟩, q⟩ := h
    refine ⟨_, (pss_one (ps_ret (pe_and (pe_callB call_isi (by rfl) B.isinstance (by decide +kernel) (pa_cons (pv 1) (pa_cons (pe_glob (v := .ref C) rfl gC rfl) pa_nil))) (pe_and (pe_cmpR op_eq (pe_fld (pv 0) rfl) (pe_fld (pv 1) rfl) (nomark _)) (pe_and (pe_cmpR (op_rcB (rcB_tup eqB_flat) (hr.mono (by decide))) (pe_fld (pv 0) rfl) (pe_fld (pv 1) rfl) (nomark _)) (pe_one (pe_cmpR op_eq (pe_fld (pv 0) rfl) (pe_fld (pv 1) rfl) (nomark _)))))))), ?_⟩
    rcases r with ⟨c, k', rfl, ⟨dx', t', h1', h2'⟩, rfl⟩ | ⟨u, ty, no, rfl⟩
    · refine ⟨.ref c, rfl, .ref c, .ref C, .ref C, .ref C, true, rfl, .own C, tyx_ask T.ins h1', T.ins.me, true, rfl, iteT ?_⟩
      refine ⟨.ref a, rfl, a, C, dx, _, _, rfl, h1, T.ins.cl, T.noN, rfl, .ref c, rfl, c, C, dx', _, _, rfl, h1', T.ins.cl, T.noN, rfl, rfl, _, rfl, ?_⟩
      rw [show decide (V.str k.nm = V.str k'.nm) = decide (k.nm = k'.nm) by simp]
      refine ite2 (fun e1 => ?_) fun e1 => ?_
      · have e1 := of_decide_eq_true e1
        refine ⟨.ref a, rfl, a, C, dx, _, _, rfl, h1, T.ins.cl, T.noF, rfl, .ref c, rfl, c, C, dx', _, _, rfl, h1', T.ins.cl, T.noF, rfl, decide (k.ks = k'.ks), ⟨t, t', _, _, rfl, rfl, SqT.of h2, SqT.of h2', eql_strs _ _⟩, _, rfl, ?_⟩
        refine ite2 (fun e2 => ?_) fun e2 => ?_
        · have e2 := of_decide_eq_true e2
          refine ⟨.ref a, rfl, a, C, dx, _, _, rfl, h1, T.ins.cl, T.noM, rfl, .ref c, rfl, c, C, dx', _, _, rfl, h1', T.ins.cl, T.noM, rfl, rfl, ?_⟩
          have e : decide (V.int k.m = V.int k'.m) = decide (k = k') := decide_eq_decide.mpr ⟨fun z => Ask.ext' e1 e2 (V.int.inj z), fun z => by rw [z]⟩
          show Q (V.bl (decide (V.int k.m = V.int k'.m))) H
          rw [e]
          exact q
        · have e2 : k.ks ≠ k'.ks := fun z => e2 (decide_eq_true z)
          rw [decide_eq_false (p := k = k') fun z => e2 (by rw [z])] at q
          exact q
      · have e1 : k.nm ≠ k'.nm := fun z => e1 (decide_eq_true z)
        rw [decide_eq_false (p := k = k') fun z => e1 (by rw [z])] at q
        exact q
    · exact ⟨y, rfl, y, .ref C, u, .ref C, false, rfl, .own C, ty, no, false, rfl, iteF q⟩
end
end Eld
end L2

set_option Elab.async false
set_option linter.all false
set_option maxRecDepth 100000
set_option maxHeartbeats 4000000
/-! ## lines -/
namespace L2
namespace Eld
open PySem PySem.Spec PyProof.Rows PySem.EldX
/-- askers, one by one -/
inductive Asks (C : Addr) (H : Hp) : List Addr → List Ask → Prop
  | nil : Asks C H [] []
  | cons {a : Addr} {k : Ask} {as : List Addr} {ks : List Ask} : AskAt C H a k → Asks C H as ks → Asks C H (a :: as) (k :: ks)
theorem Asks.len {C : Addr} {H : Hp} : ∀ {as : List Addr} {ks : List Ask}, Asks C H as ks → as.length = ks.length
  | _, _, .nil => rfl
  | _, _, .cons _ t => congrArg (· + 1) t.len
theorem Asks.same {C : Addr} {H H' : Hp} (s : Same H H') : ∀ {as : List Addr} {ks : List Ask}, Asks C H as ks → Asks C H' as ks
  | _, _, .nil => .nil
  | _, _, .cons h t => .cons (h.same s) (t.same s)
theorem Asks.get {C : Addr} {H : Hp} : ∀ {as : List Addr} {ks : List Ask} {i : Nat} {a : Addr}, Asks C H as ks → as[i]? = some a → ∃ k, ks[i]? = some k ∧ AskAt C H a k
  | _, _, i, _, .nil, h => by simp at h
  | _, _, 0, _, .cons h t, e => by
    simp only [List.getElem?_cons_zero, Option.some.injEq] at e
    subst e
    exact ⟨_, rfl, h⟩
  | _, _, i + 1, _, .cons h t, e => by
    simp only [List.getElem?_cons_succ] at e ⊢
    exact t.get e
theorem Asks.append {C : Addr} {H : Hp} : ∀ {as : List Addr} {ks : List Ask} {bs : List Addr} {ls : List Ask}, Asks C H as ks → Asks C H bs ls → Asks C H (as ++ bs) (ks ++ ls)
  | _, _, _, _, .nil, q => q
  | _, _, _, _, .cons h t, q => .cons h (t.append q)
theorem Asks.take {C : Addr} {H : Hp} : ∀ {as : List Addr} {ks : List Ask} (i : Nat), Asks C H as ks → Asks C H (as.take i) (ks.take i)
  | _, _, 0, _ => .nil
  | _, _, _ + 1, .nil => .nil
  | _, _, i + 1, .cons h t => .cons h (t.take i)
theorem Asks.drop {C : Addr} {H : Hp} : ∀ {as : List Addr} {ks : List Ask} (i : Nat), Asks C H as ks → Asks C H (as.drop i) (ks.drop i)
  | _, _, 0, h => h
  | _, _, _ + 1, .nil => .nil
  | _, _, i + 1, .cons h t => t.drop i
theorem Asks.rev {C : Addr} {H : Hp} : ∀ {as : List Addr} {ks : List Ask}, Asks C H as ks → Asks C H as.reverse ks.reverse
  | _, _, .nil => .nil
  | _, _, .cons h t => by
    rw [List.reverse_cons, List.reverse_cons]
    exact t.rev.append (.cons h .nil)
theorem Asks.unique {C : Addr} {H : Hp} : ∀ {as : List Addr} {ks ls : List Ask}, Asks C H as ks → Asks C H as ls → ks = ls
  | _, _, _, .nil, .nil => rfl
  | _, _, _, .cons h t, .cons h' t' => by rw [h.unique h', t.unique t']
theorem Asks.off {C D : Addr} {H H' : Hp} {xs : List V} (hD : H D = some (.lst xs)) (s : ∀ b o, b ≠ D → H b = some o → H' b = some o) : ∀ {as : List Addr} {ks : List Ask}, Asks C H as ks → Asks C H' as ks
  | _, _, .nil => .nil
  | _, _, .cons h t => .cons (h.off hD s) (t.off hD s)
/-- away from an instance of another class -/
theorem AskAt.away {C D a : Addr} {H H' : Hp} {dx b : Addr} {fs : List (Str × V)} {k : Ask} (ha : H a = some (.ins D dx fs)) (ne : D ≠ C) (s : ∀ b o, b ≠ a → H b = some o → H' b = some o) (h : AskAt C H b k) : AskAt C H' b k := by
  obtain ⟨dx', t, h1, h2⟩ := h
  refine ⟨dx', t, s _ _ (fun e => ?_) h1, s _ _ (fun e => ?_) h2⟩
  · rw [e, ha] at h1
    cases h1
    exact ne rfl
  · rw [e, ha] at h2
    cases h2
theorem Asks.away {C D a : Addr} {H H' : Hp} {dx : Addr} {fs : List (Str × V)} (ha : H a = some (.ins D dx fs)) (ne : D ≠ C) (s : ∀ b o, b ≠ a → H b = some o → H' b = some o) : ∀ {as : List Addr} {ks : List Ask}, Asks C H as ks → Asks C H' as ks
  | _, _, .nil => .nil
  | _, _, .cons h t => .cons (h.away ha ne s) (Asks.away ha ne s t)
abbrev lfs (t : Addr) : List (Str × V) := [(("_askers" : Str), .ref t)]
/-- the line of the askers at as, who are ks, stands at a -/
def LineAt (CL CA : Addr) (H : Hp) (a : Addr) (as : List Addr) (ks : List Ask) : Prop := ∃ dx t : Addr, H a = some (.ins CL dx (lfs t)) ∧ H t = some (.tup (as.map V.ref)) ∧ Asks CA H as ks
theorem LineAt.same {CL CA : Addr} {H H' : Hp} {a : Addr} {as : List Addr} {ks : List Ask} (h : LineAt CL CA H a as ks) (s : Same H H') : LineAt CL CA H' a as ks := by
  obtain ⟨dx, t, h1, h2, h3⟩ := h
  exact ⟨dx, t, s _ _ h1, s _ _ h2, h3.same s⟩
theorem LineAt.ins {CL CA : Addr} {H : Hp} {a : Addr} {as : List Addr} {ks : List Ask} (h : LineAt CL CA H a as ks) : ∃ (dx : Addr) (fs : List (Str × V)), H a = some (.ins CL dx fs) := by
  obtain ⟨dx, t, h1, _⟩ := h
  exact ⟨dx, _, h1⟩
structure LCls (K : PySem.W.Frag) (C fI fE fL fA fN fK fR fP : Addr) : Prop where
  ins : InsC K C
  noA : NoAttr K C "_askers"
  make : Mk K C fI
  own : OwnE K C fE
  len : PySem.W.findIn K (.ref C) "__len__" = some (some (.ref fL))
  lfn : PySem.W.isFn K (.ref fL) = true
  mA : Meth K C "askers" fA
  mN : Meth K C "names" fN
  mK : Meth K C "kinds" fK
  mR : Meth K C "asker" fR
  mP : Meth K C "place" fP
theorem ref_at {as : List Addr} {i : Nat} {v : V} (h : (as.map V.ref)[i]? = some v) : ∃ a, as[i]? = some a ∧ v = .ref a := by
  rw [List.getElem?_map] at h
  cases e : as[i]? with
  | none => rw [e] at h; cases h
  | some a => rw [e] at h; exact ⟨a, rfl, (Option.some.inj h).symm⟩
section
variable {P : Program} {w : World} {K : PySem.W.Frag} {mg : Str → Option Value} {base : Heap} {CA fI pN gN pF gF pM gM fE CL fLI fLE fLL fLA fLN fLK fLR fLP : Addr}
/-! ### _are_askers -/
def spAreAskers (K : PySem.W.Frag) (CA : Addr) : Sp := fun vs H Q _ => ∃ (l : Addr) (as : List Addr) (ks : List Ask), vs = [.ref l] ∧ SqL K H l (as.map V.ref) ∧ Asks CA H as ks ∧ ks.length ≤ 1000 ∧ ∀ H', Same H H' → Q (.bl (decide ((ks.map Ask.nm).Nodup))) H'
/-- names of askers, told one by one -/
theorem lc_names {J : It} {n : Nat} {G : Hp → Prop} {as : List Addr} {ks : List Ask} {σ : St} {H1 : Hp} {D : Addr} {Qd : Hp → Prop} {vs : List Nat} {g : TG} {te : TE} (w : Walk J n G (YAt (as.map V.ref))) (hn : n = ks.length) (hz : ks.length ≤ 1000) (hD : H1 D = none) (hA : Asks CA H1 as ks) (hG : ∀ H, Same H1 H → G H)
    (hs : ∀ a (k : Ask) H, AskAt CA H a k → ∀ Q : VK, (∀ H4, Same H H4 → Q (.str k.nm) H4) → g (.ref a) (wipe σ vs) H fun σ2 H2 => wipe σ2 vs = wipe σ vs ∧ te σ2 H2 Q) (hd : ∀ H, Same H1 H → H D = some (.lst ((ks.map Ask.nm).map V.str)) → Qd H) :
    ∃ W : Nat → Nat → Hp → Prop, (∃ m, W 0 m (upd H1 D (.lst []))) ∧ ∀ i m H, W i m H →
      (J.stop i H ∧ Qd H) ∨ (J.go i H ∧ ∃ Nx : Hp → Prop, (∀ H', Nx H' → ∃ m', m' < m ∧ W (i + 1) m' H') ∧ ∀ x H', J.yld i H x H' → g x (wipe σ vs) H' fun σ2 H2 => wipe σ2 vs = wipe σ vs ∧ tYes σ2 H2 fun b H3 =>
        if b = true then te σ2 H3 fun y H4 => ∃ acc, H4 D = some (.lst acc) ∧ acc.length < sizeLine ∧ Nx (upd H4 D (.lst (acc ++ [y]))) else Nx H3) := by
  subst hn
  refine lc_out w (fun i y _ => ∃ k, ks[i]? = some k ∧ y = .str k.nm) (by rw [sizeLine_eq]; omega) hD hG (fun _ _ _ _ y => y.1) (fun _ _ _ _ _ _ _ o => o) ?_ ?_
  · rintro i x H hi s ⟨_, hx⟩ Q hQ
    obtain ⟨a, ha, rfl⟩ := ref_at hx
    obtain ⟨k, hk, A⟩ := hA.get ha
    exact hs a k H (A.same s) Q fun H4 s4 => hQ _ H4 s4 ⟨k, hk, rfl⟩
  · intro H acc s e hl o
    refine hd H s ?_
    rw [e, eq_map_of (xs := ks) (f := fun k => V.str k.nm) (by omega) o, List.map_map] <;> rfl
theorem ok_areAskers {f f1 f2 : Addr} {fd d1 d2 dAN : FuncData} (F : Fun K "_are_askers" "_are_askers" sAreAskers f fd) (L : Chk K mg f1 f2 d1 d2) (B : Blt mg) (TA : ACls K CA fI pN gN pF gF pM gM fE) (gA : mg "Asker" = some (.ref CA)) (FAN : Fun K "name" "Asker.name" sAName gN dAN) :
    FnOk P w K mg base CX0 3 f fd ["value"] (spAreAskers K CA) := by
  have GUnlike : FnOk P w K mg base CX0 1 f2 d2 ["names"] (spUnlike K) := ok_unlike L.Unlike B
  have GAName : FnOk P w K mg base CX0 1 gN dAN ["self"] (spAName CA) := ok_aname FAN TA
  have bAName : Binds K dAN ["self"] [] := FAN.binds fun _ _ _ _ _ _ us hl => match us, hl with | [_], _ => rfl
  refine F.ok scAreAskers (fun vs H Q E h => ?_) (fun cdv A outer s H vs Q E hr h => ?_)
  · obtain ⟨l, as, ks, rfl, _⟩ := h
    rfl
  · obtain ⟨l, as, ks, rfl, hS, hA, hz, q⟩ := h
    have hl := hA.len
    refine ⟨_, (pss_cons (ps_if (PW.pt (pw_or (pt_not (pt_val (pe_callB call_isi (by rfl) B.isinstance (by decide +kernel) (pa_cons (pv 0) (pa_cons (pe_bltn (v := .ty "list") rfl B.list (by decide +kernel) rfl) pa_nil))))) (pw_or1 (pt_not (pt_val (pe_callB (cr_all rfl) (by rfl) B.all (by decide +kernel) (pa_cons (pe_lc (own := [("asker", 1)]) (g := gName 1) (tt := tYes) (te := tCB (rIsi K) (tCons (tVar 1) (tCons (tC (.ref CA)) tNil))) rfl scAreAskers.nd (pi_list (pv 0)) (blkOk_by (own := [("asker", 1)]) (N := NAreAskers) (sc := defScope sAreAskers) (by decide +kernel)) (fun _ _ _ _ _ => pg_name (i := 1) scAreAskers.nd rfl (.inl rfl)) (fun _ _ _ _ _ => pts_nil) (fun _ _ _ _ _ => (pe_callB call_isi (by rfl) B.isinstance (by decide +kernel) (pa_cons (pv 1) (pa_cons (pe_glob (v := .ref CA) rfl gA rfl) pa_nil))))) pa_nil))))))) (pss_one (ps_ret pe_bl)) pss_nil)
      (pss_one (ps_ret (pe_call GUnlike (hr.mono (by decide)) (by rfl) L.gUnlike L.Unlike.kp L.bUnlike .nil pass0 (pa_cons (pe_lc (own := [("asker", 1)]) (g := gName 1) (tt := tYes) rfl scAreAskers.nd (pi_list (pv 0)) (blkOk_by (own := [("asker", 1)]) (N := NAreAskers) (sc := defScope sAreAskers) (by decide +kernel)) (fun _ _ _ _ _ => pg_name (i := 1) scAreAskers.nd rfl (.inl rfl)) (fun _ _ _ _ _ => pts_nil) (fun _ _ _ _ _ => (pe_prop (pv 1) TA.ins.cl TA.pN GAName (hr.mono (by decide)) bAName .nil pass0 rfl))) pa_nil))))), ?_⟩
    refine ⟨.ref l, rfl, .ref l, .ty "list", _, _, true, rfl, .ty _, tyx_list hS, kit_ty (by decide +kernel), true, rfl, iteF ?_⟩
    refine ⟨.ref l, rfl, l, rfl, ⟨_, hS⟩, fun D hD => ?_⟩
    refine lc_out walk_list (fun _ y _ => y = .bl true) (by rw [List.length_map, sizeLine_eq]; omega) hD (fun G s => s.seq hS) (fun _ _ _ _ y => y.1) (fun _ _ _ _ _ _ _ o => o) ?_ ?_
    · rintro i v G hi sG ⟨_, hv⟩ R hR
      obtain ⟨a, ha, rfl⟩ := ref_at hv
      obtain ⟨k, hk, hAk⟩ := hA.get ha
      obtain ⟨dx, fs, hI⟩ := (hAk.same sG).ins
      exact ⟨rfl, .ref a, rfl, .ref a, .ref CA, .ref CA, .ref CA, true, rfl, .own CA, tyx_ask TA.ins hI, TA.ins.me, hR _ _ (Same.refl _) rfl⟩
    · intro G acc sG hG hl' ho
      have e := bls_of ho
      rw [e] at hG
      refine ⟨D, List.replicate acc.length true, rfl, SqL.of hG, true, congrArg V.bl (all_true fun i b hb => ?_), iteF ?_⟩
      · obtain ⟨h1, h2⟩ := List.getElem?_eq_some_iff.mp hb
        rw [← h2, List.getElem_replicate]
      · refine ⟨.ref l, rfl, l, rfl, ⟨_, sG.seq hS⟩, fun D2 hD2 => ?_⟩
        refine lc_names (as := as) (ks := ks) walk_list (by rw [List.length_map]; exact hl) hz hD2 (hA.same sG) (fun G' s' => (sG.trans s').seq hS) (fun a k G' hAk R hR => ?_) fun G' s' e' => ?_
        · obtain ⟨dx, fs, hI⟩ := hAk.ins
          exact ⟨rfl, .ref a, rfl, a, dx, fs, rfl, hI, a, k, rfl, hAk, hR G' (Same.refl _)⟩
        · exact ⟨D2, ks.map Ask.nm, rfl, SqL.of e', by rw [List.length_map]; exact hz, fun G2 s2 => q G2 (sG.trans (s'.trans s2))⟩
/-! ### Line(l) -/
def spLInit (K : PySem.W.Frag) (CL CA : Addr) : Sp := fun vs H Q _ => ∃ (a dx l : Addr) (as : List Addr) (ks : List Ask), vs = [.ref a, .ref l] ∧ H a = some (.ins CL dx []) ∧ SqL K H l (as.map V.ref) ∧ Asks CA H as ks ∧ ks.length ≤ 1000 ∧ (ks.map Ask.nm).Nodup ∧
  ∀ H' : Hp, (∀ b o, b ≠ a → H b = some o → H' b = some o) → LineAt CL CA H' a as ks → Q .non H'
theorem ok_linit {f f1 f2 f3 : Addr} {fd d1 d2 d3 dAN : FuncData} (F : Fun K "__init__" "Line.__init__" sLInit f fd) (FA : Fun K "_are_askers" "_are_askers" sAreAskers f3 d3) (gAreAskers : mg "_are_askers" = some (.ref f3)) (L : Chk K mg f1 f2 d1 d2) (B : Blt mg) (TA : ACls K CA fI pN gN pF gF pM gM fE) (gA : mg "Asker" = some (.ref CA))
    (FAN : Fun K "name" "Asker.name" sAName gN dAN) (T : LCls K CL fLI fLE fLL fLA fLN fLK fLR fLP) (ne : CL ≠ CA) : FnOk P w K mg base CX0 4 f fd ["self", "askers"] (spLInit K CL CA) := by
  have GAreAskers : FnOk P w K mg base CX0 3 f3 d3 ["value"] (spAreAskers K CA) := ok_areAskers FA L B TA gA FAN
  have bAreAskers : Binds K d3 ["value"] [] := FA.binds fun _ _ _ _ _ _ us hl => match us, hl with | [_], _ => rfl
  refine F.ok scLInit (fun vs H Q E h => ?_) (fun cdv A outer s H vs Q E hr h => ?_)
  · obtain ⟨a, dx, l, as, ks, rfl, _⟩ := h
    rfl
  · obtain ⟨a, dx, l, as, ks, rfl, ha, hS, hA, hz, hnd, q⟩ := h
    refine ⟨_, (pss_cons (ps_if (pt_not (pt_val (pe_call GAreAskers (hr.mono (by decide)) (by rfl) gAreAskers FA.kp bAreAskers .nil pass0 (pa_cons (pv 1) pa_nil)))) (pss_one (ps_dead _)) pss_nil)
      (pss_one (ps_fld (pv 0) (pe_callTy call_tuple_of (by rfl) B.tuple (by decide +kernel) (pa_cons (pv 1) pa_nil)) rfl))), ?_⟩
    refine ⟨.ref l, rfl, l, as, ks, rfl, hS, hA, hz, fun H1 s1 => ⟨_, rfl, ?_⟩⟩
    rw [decide_eq_true hnd]
    refine iteF ⟨.ref l, rfl, l, as.map V.ref, rfl, .inl ⟨s1.seq hS, fun t nt => ?_⟩⟩
    have nta : t ≠ a := fun e => by
      rw [e, s1 _ _ ha] at nt
      cases nt
    have h0 : upd H1 t (.tup (as.map V.ref)) a = some (.ins CL dx []) := by
      rw [upd_ne (Ne.symm nta)]
      exact s1 _ _ ha
    refine ⟨.ref a, rfl, a, CL, dx, [], rfl, h0, T.ins.cl, T.noA, by decide, ?_⟩
    have s2 : Same H (upd H1 t (.tup (as.map V.ref))) := s1.trans (Same.fresh nt)
    refine q _ (fun b o hb e => by rw [upd_ne hb]; exact s2 b o e) ⟨dx, t, upd_same, by rw [upd_ne nta]; exact upd_same, (hA.same s2).away h0 ne off_upd⟩
theorem made_line {H1 : Hp} {Q : Addr → Hp → Prop} {E : XK} {l : Addr} {as : List Addr} {ks : List Ask} (hS : SqL K H1 l (as.map V.ref)) (hA : Asks CA H1 as ks) (hz : ks.length ≤ 1000) (hnd : (ks.map Ask.nm).Nodup) (q : ∀ (H' : Hp) (x : Addr), Same H1 H' → H1 x = none → LineAt CL CA H' x as ks → Q x H') :
    ∀ x dx, H1 x = none → H1 dx = none → dx ≠ x → spLInit K CL CA (.ref x :: ([.ref l] ++ [])) (upd (upd H1 dx (.own x)) x (.ins CL dx [])) (fun v H2 => v = .non ∧ Q x H2) E := by
  intro x dx nx ndx ne
  have s1 : Same H1 (upd (upd H1 dx (.own x)) x (.ins CL dx [])) := Same.put (Same.fresh ndx) nx
  exact ⟨x, dx, l, as, ks, rfl, upd_same, s1.seq hS, hA.same s1, hz, hnd, fun H' k A => ⟨rfl, q H' x (fun b o e => k b o (ne_of_none e nx) (s1 b o e)) nx A⟩⟩
/-! ### askers(), names(), len -/
def spLAskers (CL CA : Addr) : Sp := fun vs H Q _ => ∃ (a : Addr) (as : List Addr) (ks : List Ask), vs = [.ref a] ∧ LineAt CL CA H a as ks ∧ ∀ p, H p = none → Q (.ref p) (upd H p (.lst (as.map V.ref)))
def spLNames (CL CA : Addr) : Sp := fun vs H Q _ => ∃ (a : Addr) (as : List Addr) (ks : List Ask), vs = [.ref a] ∧ LineAt CL CA H a as ks ∧ ks.length ≤ 1000 ∧ ∀ H' p, Same H H' → H p = none → H' p = some (.lst ((ks.map Ask.nm).map V.str)) → Q (.ref p) H'
def spLLen (CL CA : Addr) : Sp := fun vs H Q _ => ∃ (a : Addr) (as : List Addr) (ks : List Ask), vs = [.ref a] ∧ LineAt CL CA H a as ks ∧ Q (.int ks.length) H
theorem ok_laskers {f : Addr} {fd : FuncData} {k : Nat} (F : Fun K "askers" "Line.askers" sLAskers f fd) (B : Blt mg) (T : LCls K CL fLI fLE fLL fLA fLN fLK fLR fLP) : FnOk P w K mg base CX0 (k + 1) f fd ["self"] (spLAskers CL CA) := by
  refine F.ok scLAskers (fun vs H Q E h => ?_) (fun cdv A outer s H vs Q E hr h => ?_)
  · obtain ⟨a, as, ks, rfl, _⟩ := h
    rfl
  · obtain ⟨a, as, ks, rfl, ⟨dx, t, h1, h2, h3⟩, q⟩ := h
    refine ⟨_, (pss_one (ps_ret (pe_callTy call_list_of (by rfl) B.list (by decide +kernel) (pa_cons (pe_fld (pv 0) rfl) pa_nil)))), ?_⟩
    exact ⟨.ref a, rfl, a, CL, dx, _, _, rfl, h1, T.ins.cl, T.noA, rfl, t, as.map V.ref, rfl, .inr (SqT.of h2), q⟩
theorem ok_lnames {f : Addr} {fd dAN : FuncData} (F : Fun K "names" "Line.names" sLNames f fd) (TA : ACls K CA fI pN gN pF gF pM gM fE) (FAN : Fun K "name" "Asker.name" sAName gN dAN) (T : LCls K CL fLI fLE fLL fLA fLN fLK fLR fLP) : FnOk P w K mg base CX0 3 f fd ["self"] (spLNames CL CA) := by
  have GAName : FnOk P w K mg base CX0 1 gN dAN ["self"] (spAName CA) := ok_aname FAN TA
  have bAName : Binds K dAN ["self"] [] := FAN.binds fun _ _ _ _ _ _ us hl => match us, hl with | [_], _ => rfl
  refine F.ok scLNames (fun vs H Q E h => ?_) (fun cdv A outer s H vs Q E hr h => ?_)
  · obtain ⟨a, as, ks, rfl, _⟩ := h
    rfl
  · obtain ⟨a, as, ks, rfl, ⟨dx, t, h1, h2, h3⟩, hz, q⟩ := h
    refine ⟨_, (pss_one (ps_ret (pe_lc (own := [("asker", 1)]) (g := gName 1) (tt := tYes) rfl scLNames.nd (pi_tup (pe_fld (pv 0) rfl)) (blkOk_by (own := [("asker", 1)]) (N := NLNames) (sc := defScope sLNames) (by decide +kernel)) (fun _ _ _ _ _ => pg_name (i := 1) scLNames.nd rfl (.inl rfl)) (fun _ _ _ _ _ => pts_nil) (fun _ _ _ _ _ => (pe_prop (pv 1) TA.ins.cl TA.pN GAName (hr.mono (by decide)) bAName .nil pass0 rfl))))), ?_⟩
    refine ⟨.ref a, rfl, a, CL, dx, _, _, rfl, h1, T.ins.cl, T.noA, rfl, t, rfl, ⟨_, SqT.of h2⟩, fun D hD => ?_⟩
    refine lc_names (as := as) (ks := ks) walk_tup (by rw [List.length_map]; exact h3.len) hz hD h3 (fun G s => SqT.of (s _ _ h2)) (fun b k G hAk R hR => ?_) fun G s e => q G D s hD e
    obtain ⟨dx, fs, hI⟩ := hAk.ins
    exact ⟨rfl, .ref b, rfl, b, dx, fs, rfl, hI, b, k, rfl, hAk, hR G (Same.refl _)⟩
theorem ok_llen {f : Addr} {fd : FuncData} {k : Nat} (F : Fun K "__len__" "Line.__len__" sLLen f fd) (B : Blt mg) (T : LCls K CL fLI fLE fLL fLA fLN fLK fLR fLP) : FnOk P w K mg base CX0 (k + 1) f fd ["self"] (spLLen CL CA) := by
  refine F.ok scLLen (fun vs H Q E h => ?_) (fun cdv A outer s H vs Q E hr h => ?_)
  · obtain ⟨a, as, ks, rfl, _⟩ := h
    rfl
  · obtain ⟨a, as, ks, rfl, ⟨dx, t, h1, h2, h3⟩, q⟩ := h
    refine ⟨_, (pss_one (ps_ret (pe_callB call_len_seq (by rfl) B.len PySem.boot_len (pa_cons (pe_fld (pv 0) rfl) pa_nil)))), ?_⟩
    refine ⟨.ref a, rfl, a, CL, dx, _, _, rfl, h1, T.ins.cl, T.noA, rfl, t, as.map V.ref, rfl, .inr (SqT.of h2), ?_⟩
    rw [List.length_map, h3.len]
    exact q
/-! ### == -/
theorem eql_asks {H : Hp} (TA : ACls K CA fI pN gN pF gF pM gM fE) : ∀ {as bs : List Addr} {ks ls : List Ask}, Asks CA H as ks → Asks CA H bs ls → EqL (DId (DIn K CA (RA K CA))) H (as.map V.ref) (bs.map V.ref) (decide (ks = ls))
  | _, _, _, _, .nil, .nil => .nil
  | _, _, _, _, .nil, .cons h t => by
    rw [decide_eq_false (by simp)]
    exact .left
  | _, _, _, _, .cons h t, .nil => by
    rw [decide_eq_false (by simp)]
    exact .right
  | _, _, _, _, .cons (a := a) (k := k) (ks := ks) h t, .cons (a := b) (k := l) (ks := ls) h' t' => by
    have ih := eql_asks TA t t'
    obtain ⟨dx, fs, hI⟩ := h.ins
    obtain ⟨dx', fs', hI'⟩ := h'.ins
    by_cases e : a = b
    · subst e
      obtain rfl := h.unique h'
      rw [show decide (k :: ks = k :: ls) = decide (ks = ls) by simp]
      exact .go ⟨a, a, rfl, rfl, .inl ⟨rfl, rfl⟩⟩ ih
    · have d : ∀ x : Bool, x = decide (k = l) → DId (DIn K CA (RA K CA)) (.ref a) (.ref b) H x := fun x hx =>
        ⟨a, b, rfl, rfl, .inr ⟨e, a, dx, fs, .ref CA, rfl, hI, tyx_ask TA.ins hI', by simp [PySem.W.notFirst], k, h, .inl ⟨b, l, rfl, h', hx⟩⟩⟩
      by_cases q : k = l
      · subst q
        rw [show decide (k :: ks = k :: ls) = decide (ks = ls) by simp]
        exact .go (d true (by simp)) ih
      · rw [decide_eq_false (by simp [q])]
        exact .stop (d false (by simp [q]))
/-- the answer of a line's == -/
def RL (K : PySem.W.Frag) (CL CA : Addr) (a : Addr) (y : V) (H : Hp) (b : Bool) : Prop :=
  ∃ (as : List Addr) (ks : List Ask), LineAt CL CA H a as ks ∧ ((∃ (c : Addr) (as' : List Addr) (ks' : List Ask), y = .ref c ∧ LineAt CL CA H c as' ks' ∧ b = decide (ks = ks')) ∨ ∃ t : Value, TyX K H y t ∧ PySem.W.kitOne K t (.ref CL) = some false ∧ b = false)
theorem ok_leq {f : Addr} {fd dAE : FuncData} (F : Fun K "__eq__" "Line.__eq__" sLEq f fd) (B : Blt mg) (TA : ACls K CA fI pN gN pF gF pM gM fE) (gA : mg "Asker" = some (.ref CA)) (FAE : Fun K "__eq__" "Asker.__eq__" sAEq fE dAE) (T : LCls K CL fLI fLE fLL fLA fLN fLK fLR fLP) (gL : mg "Line" = some (.ref CL)) :
    FnOk P w K mg base CX0 4 f fd ["self", "other"] (spEqB (RL K CL CA)) := by
  have GAEq : FnOk P w K mg base CX0 2 fE dAE ["self", "other"] (spEqB (RA K CA)) := ok_aeq FAE B TA gA
  have bAEq : Binds K dAE ["self", "other"] [] := FAE.binds fun _ _ _ _ _ _ us hl => match us, hl with | [_, _], _ => rfl
  refine F.ok scLEq (fun vs H Q E h => ?_) (fun cdv A outer s H vs Q E hr h => ?_)
  · obtain ⟨a, y, b, rfl, _⟩ := h
    rfl
  · obtain ⟨a, y, b, rfl, ⟨as, ks, ⟨dx, t, h1, h2, h3⟩, r⟩, q⟩ := h
    refine ⟨_, (pss_one (ps_ret (pe_and (pe_callB call_isi (by rfl) B.isinstance (by decide +kernel) (pa_cons (pv 1) (pa_cons (pe_glob (v := .ref CL) rfl gL rfl) pa_nil))) (pe_one (pe_cmpR (op_rcB (rcB_tup (eqB_of (rcB_own GAEq TA.own bAEq pass0))) (hr.mono (by decide))) (pe_fld (pv 0) rfl) (pe_fld (pv 1) rfl) (nomark _)))))), ?_⟩
    rcases r with ⟨c, as', ks', rfl, ⟨dx', t', h1', h2', h3'⟩, rfl⟩ | ⟨u, ty, no, rfl⟩
    · refine ⟨.ref c, rfl, .ref c, .ref CL, .ref CL, .ref CL, true, rfl, .own CL, tyx_ask T.ins h1', T.ins.me, true, rfl, iteT ?_⟩
      exact ⟨.ref a, rfl, a, CL, dx, _, _, rfl, h1, T.ins.cl, T.noA, rfl, .ref c, rfl, c, CL, dx', _, _, rfl, h1', T.ins.cl, T.noA, rfl, _, ⟨t, t', _, _, rfl, rfl, SqT.of h2, SqT.of h2', eql_asks TA h3 h3'⟩, q⟩
    · exact ⟨y, rfl, y, .ref CL, u, .ref CL, false, rfl, .own CL, ty, no, false, rfl, iteF q⟩
end
end Eld
end L2

set_option Elab.async false
set_option linter.all false
set_option maxRecDepth 100000
set_option maxHeartbeats 4000000
/-! ## lines: kinds, place, asker -/
namespace L2
namespace Eld
open PySem PySem.Spec PyProof.Rows PySem.EldX
section
variable {J J1 : It} {n n1 : Nat} {G G1 : Hp → Prop} {Y Y1 : Nat → Hp → V → Hp → Prop} {w0 : World}
/-- the first clause by a walk -/
theorem sc2_it (w : Walk J n G Y) {g g1 : TG} {wi1 : TI} {te : TE} {vs vs1 : List Nat} {σ : St} {H1 : Hp} {D : Addr} {Qd : Hp → Prop} (Pv : Nat → Hp → Prop) (h0 : Pv 0 (upd H1 D (SetSO w0 D (fun _ => false) 0))) (hG : ∀ i H, i ≤ n → Pv i H → G H)
    (hs : ∀ i x H H', i < n → Pv i H → Y i H x H' → g x (wipe σ vs) H' fun σ2 H2 => wipe σ2 vs = wipe σ vs ∧ wi1 σ2 H2 fun J1 H4 => ∃ W1 : Nat → Nat → Hp → Prop, (∃ m, W1 0 m H4) ∧ ∀ j k G, W1 j k G → (J1.stop j G ∧ Pv (i + 1) G) ∨ (J1.go j G ∧
      ∃ Nx1 : Hp → Prop, (∀ G', Nx1 G' → ∃ k', k' < k ∧ W1 (j + 1) k' G') ∧ ∀ x G', J1.yld j G x G' → g1 x (wipe σ2 vs1) G' fun σ3 H5 => wipe σ3 vs1 = wipe σ2 vs1 ∧ te σ3 H5 fun y H6 =>
        ∃ (c : Str) (S : Str → Bool) (n : Nat), y = .str c ∧ H6 D = some (SetSO w0 D S n) ∧ n + 1 < scanBound ∧ Nx1 (upd H6 D (SetSO w0 D (fun j => S j || decide (j = c)) (if S c = true then n else n + 1)))))
    (hd : ∀ H, Pv n H → Qd H) :
    ∃ W : Nat → Nat → Hp → Prop, (∃ m, W 0 m (upd H1 D (SetSO w0 D (fun _ => false) 0))) ∧ ∀ i m G, W i m G → (J.stop i G ∧ Qd G) ∨ (J.go i G ∧
      ∃ Nx : Hp → Prop, (∀ G', Nx G' → ∃ m', m' < m ∧ W (i + 1) m' G') ∧ ∀ x G', J.yld i G x G' → g x (wipe σ vs) G' fun σ2 H2 => wipe σ2 vs = wipe σ vs ∧ wi1 σ2 H2 fun J1 H4 =>
        ∃ W1 : Nat → Nat → Hp → Prop, (∃ m, W1 0 m H4) ∧ ∀ j k G, W1 j k G → (J1.stop j G ∧ Nx G) ∨ (J1.go j G ∧
          ∃ Nx1 : Hp → Prop, (∀ G', Nx1 G' → ∃ k', k' < k ∧ W1 (j + 1) k' G') ∧ ∀ x G', J1.yld j G x G' → g1 x (wipe σ2 vs1) G' fun σ3 H5 => wipe σ3 vs1 = wipe σ2 vs1 ∧ te σ3 H5 fun y H6 =>
            ∃ (c : Str) (S : Str → Bool) (n : Nat), y = .str c ∧ H6 D = some (SetSO w0 D S n) ∧ n + 1 < scanBound ∧ Nx1 (upd H6 D (SetSO w0 D (fun j => S j || decide (j = c)) (if S c = true then n else n + 1))))) := by
  refine ⟨fun i m H => m = n - i ∧ i ≤ n ∧ Pv i H, ⟨n, by simp, Nat.zero_le _, h0⟩, ?_⟩
  rintro i m H ⟨rfl, hi, p⟩
  rcases Nat.lt_or_ge i n with lt | ge
  · exact .inr ⟨w.goes i H lt (hG i H hi p), Pv (i + 1), fun H' q => ⟨n - (i + 1), by omega, rfl, lt, q⟩, fun x H' y => hs i x H H' lt p (w.yields i H x H' lt (hG i H hi p) y)⟩
  · obtain rfl : i = n := by omega
    exact .inl ⟨w.stops H (hG i H hi p), hd H p⟩
/-- the second clause by a walk -/
theorem sc_in (w : Walk J1 n1 G1 Y1) {g1 : TG} {te : TE} {vs1 : List Nat} {σ : St} {H1 : Hp} {D : Addr} {Qd : Hp → Prop} (Pv : Nat → Hp → Prop) (h0 : Pv 0 H1) (hG : ∀ i H, i ≤ n1 → Pv i H → G1 H)
    (hs : ∀ i x H H', i < n1 → Pv i H → Y1 i H x H' → g1 x (wipe σ vs1) H' fun σ3 H5 => wipe σ3 vs1 = wipe σ vs1 ∧ te σ3 H5 fun y H6 =>
      ∃ (c : Str) (S : Str → Bool) (n : Nat), y = .str c ∧ H6 D = some (SetSO w0 D S n) ∧ n + 1 < scanBound ∧ Pv (i + 1) (upd H6 D (SetSO w0 D (fun j => S j || decide (j = c)) (if S c = true then n else n + 1))))
    (hd : ∀ H, Pv n1 H → Qd H) :
    ∃ W1 : Nat → Nat → Hp → Prop, (∃ m, W1 0 m H1) ∧ ∀ j k G, W1 j k G → (J1.stop j G ∧ Qd G) ∨ (J1.go j G ∧
      ∃ Nx1 : Hp → Prop, (∀ G', Nx1 G' → ∃ k', k' < k ∧ W1 (j + 1) k' G') ∧ ∀ x G', J1.yld j G x G' → g1 x (wipe σ vs1) G' fun σ3 H5 => wipe σ3 vs1 = wipe σ vs1 ∧ te σ3 H5 fun y H6 =>
        ∃ (c : Str) (S : Str → Bool) (n : Nat), y = .str c ∧ H6 D = some (SetSO w0 D S n) ∧ n + 1 < scanBound ∧ Nx1 (upd H6 D (SetSO w0 D (fun j => S j || decide (j = c)) (if S c = true then n else n + 1)))) := by
  refine ⟨fun i m H => m = n1 - i ∧ i ≤ n1 ∧ Pv i H, ⟨n1, by simp, Nat.zero_le _, h0⟩, ?_⟩
  rintro i m H ⟨rfl, hi, p⟩
  rcases Nat.lt_or_ge i n1 with lt | ge
  · exact .inr ⟨w.goes i H lt (hG i H hi p), Pv (i + 1), fun H' q => ⟨n1 - (i + 1), by omega, rfl, lt, q⟩, fun x H' y => hs i x H H' lt p (w.yields i H x H' lt (hG i H hi p) y)⟩
  · obtain rfl : i = n1 := by omega
    exact .inl ⟨w.stops H (hG i H hi p), hd H p⟩
end
/-- the set at D has just these members -/
def HasS (w0 : World) (H : Hp) (D : Addr) (M : Str → Prop) : Prop := ∃ (S : Str → Bool) (n : Nat) (xs : List Str), H D = some (SetSO w0 D S n) ∧ xs.Nodup ∧ xs.length = n ∧ (∀ j, S j = true ↔ j ∈ xs) ∧ ∀ j, j ∈ xs ↔ M j
theorem HasS.add {w0 : World} {H : Hp} {D : Addr} {M : Str → Prop} {U : List Str} {c : Str} (h : HasS w0 H D M) (hU : ∀ j, M j → j ∈ U) (hl : U.length < 64) :
    ∃ (S : Str → Bool) (n : Nat), H D = some (SetSO w0 D S n) ∧ n + 1 < scanBound ∧ HasS w0 (upd H D (SetSO w0 D (fun j => S j || decide (j = c)) (if S c = true then n else n + 1))) D (fun j => M j ∨ j = c) := by
  obtain ⟨S, n, xs, e, nd, rfl, hS, hM⟩ := h
  have le : xs.length ≤ U.length := nodup_le xs U nd fun y hy => hU y ((hM y).mp hy)
  refine ⟨S, xs.length, e, Nat.lt_of_le_of_lt (show xs.length + 1 ≤ 65 by omega) (by decide), ?_⟩
  by_cases hc : S c = true
  · refine ⟨_, _, xs, upd_same, nd, by rw [if_pos hc], fun j => ?_, fun j => ?_⟩
    · rw [Bool.or_eq_true, hS, decide_eq_true_eq]
      exact ⟨fun z => z.elim id fun z => z ▸ (hS c).mp hc, .inl⟩
    · rw [hM]
      exact ⟨.inl, fun z => z.elim id fun z => z ▸ (hM c).mp ((hS c).mp hc)⟩
  · have nc : c ∉ xs := fun z => hc ((hS c).mpr z)
    refine ⟨_, _, xs ++ [c], upd_same, ?_, by rw [if_neg hc, List.length_append]; rfl, fun j => ?_, fun j => ?_⟩
    · rw [List.nodup_append]
      refine ⟨nd, by simp, fun x hx y hy e => ?_⟩
      obtain rfl := List.mem_singleton.mp hy
      subst e
      exact nc hx
    · rw [Bool.or_eq_true, hS, decide_eq_true_eq, List.mem_append, List.mem_singleton]
    · rw [List.mem_append, List.mem_singleton, hM]
theorem HasS.same {w0 : World} {H H' : Hp} {D : Addr} {M : Str → Prop} (h : HasS w0 H D M) (s : Same H H') : HasS w0 H' D M := by
  obtain ⟨S, n, xs, e, r⟩ := h
  exact ⟨S, n, xs, s _ _ e, r⟩
theorem HasS.iff {w0 : World} {H : Hp} {D : Addr} {M M' : Str → Prop} (h : HasS w0 H D M) (e : ∀ j, M j ↔ M' j) : HasS w0 H D M' := by
  obtain ⟨S, n, xs, e1, r1, r2, r3, r4⟩ := h
  exact ⟨S, n, xs, e1, r1, r2, r3, fun j => (r4 j).trans (e j)⟩
theorem str_at {xs : List Str} {i : Nat} {v : V} (h : (xs.map V.str)[i]? = some v) : ∃ x, xs[i]? = some x ∧ v = .str x := by
  rw [List.getElem?_map] at h
  cases e : xs[i]? with
  | none => rw [e] at h; cases h
  | some x => rw [e] at h; exact ⟨x, rfl, (Option.some.inj h).symm⟩
theorem mem_take_succ {α : Type} {xs : List α} {i : Nat} {x : α} (h : xs[i]? = some x) (y : α) : y ∈ xs.take (i + 1) ↔ y ∈ xs.take i ∨ y = x := by
  rw [List.take_add_one, h]
  simp
section
variable {P : Program} {w : World} {K : PySem.W.Frag} {mg : Str → Option Value} {base : Heap} {CA fI pN gN pF gF pM gM fE CL fLI fLE fLL fLA fLN fLK fLR fLP : Addr}
/-! ### kinds() -/
def spLKinds (CL CA : Addr) : Sp := fun vs H Q _ => ∃ (a : Addr) (as : List Addr) (ks : List Ask) (U : List Str), vs = [.ref a] ∧ LineAt CL CA H a as ks ∧ U.length < 64 ∧ (∀ k ∈ ks, ∀ x ∈ k.ks, x ∈ U) ∧
  ∀ (H' : Hp) (p : Addr) (zs : List Str), Same H H' → H p = none → H' p = some (.lst (zs.map V.str)) → sortedS zs = true → zs.Nodup → (∀ x, x ∈ zs ↔ ∃ k ∈ ks, x ∈ k.ks) → Q (.ref p) H'
theorem ok_lkinds {f : Addr} {fd dAF : FuncData} (F : Fun K "kinds" "Line.kinds" sLKinds f fd) (B : Blt mg) (TA : ACls K CA fI pN gN pF gF pM gM fE) (FAF : Fun K "fits" "Asker.fits" sAFits gF dAF) (T : LCls K CL fLI fLE fLL fLA fLN fLK fLR fLP) : FnOk P w K mg base CX0 3 f fd ["self"] (spLKinds CL CA) := by
  have GAFits : FnOk P w K mg base CX0 1 gF dAF ["self"] (spAFits CA) := ok_afits FAF B TA
  have bAFits : Binds K dAF ["self"] [] := FAF.binds fun _ _ _ _ _ _ us hl => match us, hl with | [_], _ => rfl
  refine F.ok scLKinds (fun vs H Q E h => ?_) (fun cdv A outer s H vs Q E hr h => ?_)
  · obtain ⟨a, as, ks, U, rfl, _⟩ := h
    rfl
  · obtain ⟨a, as, ks, U, rfl, ⟨dx, t, h1, h2, h3⟩, hU, hin, q⟩ := h
    refine ⟨_, (pss_one (ps_ret (pe_callB (cr_sortedSetS rfl) (by rfl) B.sorted (by decide +kernel) (pa_cons (pe_sc2 (own := [("asker", 1), ("kind", 2)]) (vs1 := [2]) (g := gName 1) (g1 := gName 2) (wi1 := iList K (tProp CA (spAFits CA) [] (fun _ _ _ => False) (tVar 1))) rfl scLKinds.nd (pi_tup (pe_fld (pv 0) rfl)) (blkOk_by (own := [("asker", 1), ("kind", 2)]) (N := NLKinds) (sc := defScope sLKinds) (by decide +kernel)) (by decide) (fun _ _ _ _ _ => pg_name (i := 1) scLKinds.nd rfl (.inl rfl)) (fun _ _ _ _ _ => (pi_list (pe_prop (pv 1) TA.ins.cl TA.pF GAFits (hr.mono (by decide)) bAFits .nil pass0 rfl))) (fun _ _ _ _ _ => pg_name (i := 2) scLKinds.nd rfl (.inl rfl)) (fun _ _ _ _ _ => (pv 2))) pa_nil)))), ?_⟩
    refine ⟨.ref a, rfl, a, CL, dx, _, _, rfl, h1, T.ins.cl, T.noA, rfl, t, rfl, ⟨_, SqT.of h2⟩, fun D hD => ?_⟩
    have hin' : ∀ i j, (∃ k ∈ ks.take i, j ∈ k.ks) → j ∈ U := fun i j ⟨k, hk, hj⟩ => hin k (List.mem_of_mem_take hk) j hj
    refine sc2_it (n := as.length) (by have := walk_tup (K := K) (a := t) (xs := as.map V.ref); rw [List.length_map] at this; exact this) (fun i G => Same H G ∧ HasS w G D fun j => ∃ k ∈ ks.take i, j ∈ k.ks)
      ⟨Same.fresh hD, _, 0, [], upd_same, .nil, rfl, fun j => by simp, fun j => by simp⟩ (fun i G _ p => SqT.of (p.1 _ _ h2)) ?_ ?_
    · rintro i x G G' hi ⟨sG, hs⟩ ⟨rfl, hx⟩
      obtain ⟨b, hb, rfl⟩ := ref_at hx
      obtain ⟨k, hk, hAk⟩ := h3.get hb
      have hAk := hAk.same sG
      obtain ⟨dx', fs', hI⟩ := hAk.ins
      have hkin : ∀ x ∈ k.ks, x ∈ U := hin k (List.mem_of_getElem? hk)
      refine ⟨rfl, .ref b, rfl, b, dx', fs', rfl, hI, b, k, rfl, hAk, fun l nl => ⟨l, rfl, ⟨_, SqL.of upd_same⟩, ?_⟩⟩
      have nDl : D ≠ l := fun e => by
        obtain ⟨S, n, xs, e1, _⟩ := hs
        rw [e, nl] at e1
        cases e1
      refine sc_in (n1 := k.ks.length) (by have := walk_list (K := K) (a := l) (xs := k.ks.map V.str); rw [List.length_map] at this; exact this) (fun j G2 => Same H G2 ∧ G2 l = some (.lst (k.ks.map V.str)) ∧ HasS w G2 D fun z => (∃ k ∈ ks.take i, z ∈ k.ks) ∨ z ∈ k.ks.take j)
        ⟨sG.trans (Same.fresh nl), upd_same, (hs.same (Same.fresh nl)).iff fun j => by simp⟩ (fun j G2 _ p => SqL.of p.2.1) ?_ ?_
      · rintro j y G2 G2' hj ⟨s2, e2, hs2⟩ ⟨rfl, hy⟩
        obtain ⟨c, hc, rfl⟩ := str_at hy
        obtain ⟨S, n, e3, room, more⟩ := hs2.add (c := c) (U := U) (fun z hz => hz.elim (hin' i z) fun hz => hkin z (List.mem_of_mem_take hz)) hU
        refine ⟨rfl, .str c, rfl, c, S, n, rfl, e3, room, s2.put hD, by rw [upd_ne (Ne.symm nDl)]; exact e2, more.iff fun z => ?_⟩
        rw [mem_take_succ hc]
        exact or_assoc
      · rintro G2 ⟨s2, e2, hs2⟩
        refine ⟨s2, hs2.iff fun z => ?_⟩
        rw [List.take_length]
        constructor
        · rintro (⟨k', hk', hz⟩ | hz)
          · exact ⟨k', (mem_take_succ hk k').mpr (.inl hk'), hz⟩
          · exact ⟨k, (mem_take_succ hk k).mpr (.inr rfl), hz⟩
        · rintro ⟨k', hk', hz⟩
          rcases (mem_take_succ hk k').mp hk' with h | rfl
          · exact .inl ⟨k', h, hz⟩
          · exact .inr hz
    · rintro G ⟨sG, S, n, xs, e, nd, rfl, hS, hM⟩
      have le : xs.length ≤ U.length := nodup_le xs U nd fun y hy => hin' _ y ((hM y).mp hy)
      refine ⟨D, S, xs.length, rfl, e, by omega, fun zs p hso hnd hmem hlen np => ?_⟩
      refine q _ p zs (sG.trans (Same.fresh np)) (Same.free sG np) upd_same hso hnd fun x => ?_
      rw [hmem, hS, hM, h3.len, List.take_length]
/-! ### place(name), asker(name) -/
def spLPlace (CL CA : Addr) : Sp := fun vs H Q _ => ∃ (a : Addr) (as : List Addr) (ks : List Ask) (x : Str) (j : Nat) (k : Ask), vs = [.ref a, .str x] ∧ LineAt CL CA H a as ks ∧ ks.length ≤ 1000 ∧ (ks.map Ask.nm).Nodup ∧ ks[j]? = some k ∧ k.nm = x ∧ ∀ H', Same H H' → Q (.int (j : Nat)) H'
theorem strs_flat (xs : List Str) : (xs.map V.str).all flatV = true := List.all_eq_true.mpr fun v hv => by
  obtain ⟨x, _, rfl⟩ := List.mem_map.mp hv
  rfl
theorem eqV_str (x y : Str) : eqV (V.str x) (V.str y) = decide (x = y) := by
  show (x == y) = decide (x = y)
  by_cases q : x = y <;> simp [q]
theorem inV_strs (x : Str) (xs : List Str) : inV (.str x) (xs.map V.str) = decide (x ∈ xs) := by
  unfold inV
  rw [List.any_map]
  by_cases h : x ∈ xs
  · rw [decide_eq_true h, List.any_eq_true]
    exact ⟨x, h, by show eqV (V.str x) (V.str x) = true; rw [eqV_str]; simp⟩
  · rw [decide_eq_false h, List.any_eq_false]
    intro y hy
    show ¬ eqV (V.str y) (V.str x) = true
    rw [eqV_str, decide_eq_true_eq]
    rintro rfl
    exact h hy
theorem ok_lplace {f : Addr} {fd dLN dAN : FuncData} (F : Fun K "place" "Line.place" sLPlace f fd) (B : Blt mg) (TA : ACls K CA fI pN gN pF gF pM gM fE) (FAN : Fun K "name" "Asker.name" sAName gN dAN) (T : LCls K CL fLI fLE fLL fLA fLN fLK fLR fLP) (FLN : Fun K "names" "Line.names" sLNames fLN dLN) :
    FnOk P w K mg base CX0 4 f fd ["self", "name"] (spLPlace CL CA) := by
  have GLNames : FnOk P w K mg base CX0 3 fLN dLN ["self"] (spLNames CL CA) := ok_lnames FLN TA FAN T
  have bLNames : Binds K dLN ["self"] [] := FLN.binds fun _ _ _ _ _ _ us hl => match us, hl with | [_], _ => rfl
  refine F.ok scLPlace (fun vs H Q E h => ?_) (fun cdv A outer s H vs Q E hr h => ?_)
  · obtain ⟨a, as, ks, x, j, k, rfl, _⟩ := h
    rfl
  · obtain ⟨a, as, ks, x, j, k, rfl, hL, hz, hnd, hj, rfl, q⟩ := h
    obtain ⟨dx, t, h1, _⟩ := id hL
    refine ⟨_, (pss_cons (ps_set (i := 2) scLPlace.nd rfl (.inl rfl) (pe_meth0 (pv 0) T.ins.cl T.mN GLNames (hr.mono (by decide)) bLNames .nil pass0))
      (pss_cons (ps_if (pt_cmpR op_notIn_seq (pv 1) (pv 2) (by rfl)) (pss_one (ps_dead _)) pss_nil)
      (pss_one (ps_ret (pe_bm PySem.F.plainAttrs_list PySem.F.slot_list_index PySem.F.type_list_index mt_index (pv 2) (pa_cons (pv 1) pa_nil)))))), ?_⟩
    refine ⟨.ref a, rfl, a, dx, _, rfl, h1, rfl, a, as, ks, rfl, hL, hz, fun H1 p s1 np e1 => ?_⟩
    refine ⟨.str k.nm, rfl, .ref p, rfl, p, _, rfl, .inl (SqL.of e1), rfl, strs_flat _, _, rfl, ?_⟩
    have hm : k.nm ∈ ks.map Ask.nm := List.mem_map.mpr ⟨k, List.mem_of_getElem? hj, rfl⟩
    rw [inV_strs, decide_eq_true hm]
    refine iteF ⟨.ref p, rfl, .inl ⟨rfl, _, SqL.of e1⟩, .str k.nm, rfl, p, (ks.map Ask.nm).map V.str, .str k.nm, j, .str k.nm, rfl, rfl, SqL.of e1, rfl, strs_flat _, ?_, by rw [eqV_str]; simp, fun m z hm hz' => ?_, q H1 s1⟩
    · rw [List.getElem?_map, List.getElem?_map, hj] <;> rfl
    · obtain ⟨y, hy, rfl⟩ := str_at hz'
      rw [eqV_str, decide_eq_false_iff_not]
      rintro rfl
      have hj' : (ks.map Ask.nm)[j]? = some k.nm := by rw [List.getElem?_map, hj] <;> rfl
      obtain ⟨l1, e1⟩ := List.getElem?_eq_some_iff.mp hy
      obtain ⟨l2, e2⟩ := List.getElem?_eq_some_iff.mp hj'
      exact List.pairwise_iff_getElem.mp hnd m j l1 l2 hm (e1.trans e2.symm)
def spLAsk (CL CA : Addr) : Sp := fun vs H Q _ => ∃ (a : Addr) (as : List Addr) (ks : List Ask) (x : Str) (j : Nat) (k : Ask) (b : Addr), vs = [.ref a, .str x] ∧ LineAt CL CA H a as ks ∧ ks.length ≤ 1000 ∧ (ks.map Ask.nm).Nodup ∧ ks[j]? = some k ∧ k.nm = x ∧ as[j]? = some b ∧ ∀ H', Same H H' → Q (.ref b) H'
theorem ok_lask {f : Addr} {fd dLN dAN dLP : FuncData} (F : Fun K "asker" "Line.asker" sLAsk f fd) (B : Blt mg) (TA : ACls K CA fI pN gN pF gF pM gM fE) (FAN : Fun K "name" "Asker.name" sAName gN dAN) (T : LCls K CL fLI fLE fLL fLA fLN fLK fLR fLP) (FLN : Fun K "names" "Line.names" sLNames fLN dLN) (FLP : Fun K "place" "Line.place" sLPlace fLP dLP) :
    FnOk P w K mg base CX0 5 f fd ["self", "name"] (spLAsk CL CA) := by
  have GLPlace : FnOk P w K mg base CX0 4 fLP dLP ["self", "name"] (spLPlace CL CA) := ok_lplace FLP B TA FAN T FLN
  have bLPlace : Binds K dLP ["self", "name"] [] := FLP.binds fun _ _ _ _ _ _ us hl => match us, hl with | [_, _], _ => rfl
  refine F.ok scLAsk (fun vs H Q E h => ?_) (fun cdv A outer s H vs Q E hr h => ?_)
  · obtain ⟨a, as, ks, x, j, k, b, rfl, _⟩ := h
    rfl
  · obtain ⟨a, as, ks, x, j, k, b, rfl, hL, hz, hnd, hj, rfl, hb, q⟩ := h
    obtain ⟨dx, t, h1, h2, h3⟩ := id hL
    refine ⟨_, (pss_one (ps_ret (pe_ix ix_tup (pe_fld (pv 0) rfl) (pe_meth (pv 0) T.ins.cl T.mP GLPlace (hr.mono (by decide)) bLPlace .nil pass0 (pa_cons (pv 1) pa_nil)) (fun _ _ => rfl)))), ?_⟩
    refine ⟨.ref a, rfl, a, CL, dx, _, _, rfl, h1, T.ins.cl, T.noA, rfl, .ref a, rfl, a, dx, _, rfl, h1, rfl, .str k.nm, rfl, a, as, ks, k.nm, j, k, rfl, hL, hz, hnd, hj, rfl, fun H' s' => ?_⟩
    exact ⟨t, as.map V.ref, j, .ref b, rfl, rfl, SqT.of (s' _ _ h2), atI_nat (by rw [List.getElem?_map, hb] <;> rfl), q H' s'⟩
end
end Eld
end L2

set_option Elab.async false
set_option linter.all false
set_option maxRecDepth 100000
set_option maxHeartbeats 4000000
/-! ## a purse among tracked things; filtered lists of texts -/
namespace L2
namespace Eld
open PySem PySem.Spec PyProof.Rows PySem.EldX
/-- all but the purse -/
abbrev Kp (p : Addr) (H H' : Hp) : Prop := Kept (· = p) H H'
theorem Kp.of_but {p : Addr} {H H' : Hp} (h : But p H H') : Kp p H H' := Kept.of_but h
theorem Kp.sql {K : PySem.W.Frag} {p l : Addr} {H H' : Hp} {xs : List V} (k : Kp p H H') (ne : l ≠ p) (h : SqL K H l xs) : SqL K H' l xs := by
  rcases h with (h | ⟨o, h⟩) | h
  · exact .inl (.inl (k _ _ ne h))
  · exact .inl (.inr ⟨o, k _ _ ne h⟩)
  · exact .inr h
theorem purse_lst {H : Hp} {p : Addr} {n : Nat} (h : PurseAt H p n) : ∃ xs : List V, H p = some (.lst xs) := by
  obtain ⟨a, b, c, d, e, _⟩ := h
  exact ⟨_, e⟩
theorem Kp.ask {C p a : Addr} {H H' : Hp} {k : Ask} {n : Nat} (s : Kp p H H') (hp : PurseAt H p n) (h : AskAt C H a k) : AskAt C H' a k := by
  obtain ⟨xs, e⟩ := purse_lst hp
  exact h.off e fun b o hb eb => s b o hb eb
theorem Kp.asks {C p : Addr} {H H' : Hp} {n : Nat} (s : Kp p H H') (hp : PurseAt H p n) {as : List Addr} {ks : List Ask} (h : Asks C H as ks) : Asks C H' as ks := by
  obtain ⟨xs, e⟩ := purse_lst hp
  exact h.off e fun b o hb eb => s b o hb eb
theorem Kp.ne {p q : Addr} {H : Hp} {n : Nat} (hp : PurseAt H p n) (hq : H q = none) : q ≠ p := fun e => by
  obtain ⟨xs, e1⟩ := purse_lst hp
  rw [← e, hq] at e1
  cases e1
theorem Kp.free {p q : Addr} {H H' : Hp} (s : Kp p H H') (ne : q ≠ p) (h : H' q = none) : H q = none := by
  cases e : H q with
  | none => rfl
  | some o =>
    rw [s q o ne e] at h
    cases h
theorem Kp.same {p : Addr} {H H' : Hp} (s : Same H H') : Kp p H H' := Kept.of_same s
theorem PurseAt.put {H : Hp} {p D : Addr} {n : Nat} {o : HO} (h : PurseAt H p n) (ne : D ≠ p) : PurseAt (upd H D o) p n := h.of_eq (upd_ne (Ne.symm ne))
theorem PurseAt.fresh {H : Hp} {p D : Addr} {n : Nat} {o : HO} (h : PurseAt H p n) (nD : H D = none) : PurseAt (upd H D o) p n := h.same (Same.fresh nD)
/-- what keep lets through -/
theorem lc_keep {J : It} {n : Nat} {G : Hp → Prop} {xs : List Str} {keep : Str → Bool} (w : Walk J n G (YAt (xs.map V.str))) (hn : n = xs.length) {g : TG} {tt : TT} {te : TE} {vs : List Nat} {σ : St} {H1 : Hp} {D : Addr} {Qd : Hp → Prop} (hz : xs.length ≤ 1000) (hD : H1 D = none) (hG : ∀ H, Same H1 H → G H)
    (hs : ∀ x H, Same H1 H → x ∈ xs → ∀ (N : VK) (M : Hp → Prop), (keep x = true → N (.str x) H) → (keep x = false → M H) → g (.str x) (wipe σ vs) H fun σ2 H2 => wipe σ2 vs = wipe σ vs ∧ tt σ2 H2 fun b H3 => if b = true then te σ2 H3 N else M H3)
    (hd : ∀ H, Same H1 H → H D = some (.lst ((xs.filter keep).map V.str)) → Qd H) :
    ∃ W : Nat → Nat → Hp → Prop, (∃ m, W 0 m (upd H1 D (.lst []))) ∧ ∀ i m H, W i m H →
      (J.stop i H ∧ Qd H) ∨ (J.go i H ∧ ∃ Nx : Hp → Prop, (∀ H', Nx H' → ∃ m', m' < m ∧ W (i + 1) m' H') ∧ ∀ x H', J.yld i H x H' → g x (wipe σ vs) H' fun σ2 H2 => wipe σ2 vs = wipe σ vs ∧ tt σ2 H2 fun b H3 =>
        if b = true then te σ2 H3 fun y H4 => ∃ acc, H4 D = some (.lst acc) ∧ acc.length < sizeLine ∧ Nx (upd H4 D (.lst (acc ++ [y]))) else Nx H3) := by
  subst hn
  refine lc_it w (fun i H => Same H1 H ∧ H D = some (.lst (((xs.take i).filter keep).map V.str))) ⟨Same.fresh hD, by rw [upd_same]; rfl⟩ (fun i H _ p => hG H p.1) ?_ fun H p => hd H p.1 (by rw [p.2, List.take_length])
  rintro i v H H' hi ⟨s, e⟩ ⟨rfl, hv⟩
  obtain ⟨x, hx, rfl⟩ := str_at hv
  have et : xs.take (i + 1) = xs.take i ++ [x] := by rw [List.take_add_one, hx]; rfl
  refine hs x H' s (List.mem_of_getElem? hx) _ _ (fun hk => ?_) fun hk => ?_
  · refine ⟨_, e, ?_, s.put hD, ?_⟩
    · rw [List.length_map, sizeLine_eq]
      have := List.length_filter_le keep (xs.take i)
      rw [List.length_take] at this
      omega
    · rw [upd_same, et, List.filter_append, List.map_append]
      simp [hk]
  · refine ⟨s, ?_⟩
    rw [e, et, List.filter_append]
    simp [hk]
end Eld
end L2

set_option Elab.async false
set_option linter.all false
set_option maxRecDepth 100000
set_option maxHeartbeats 4000000
/-! ## the law's own drawing: shuffled, names, kinds, most -/
namespace L2
namespace Eld
open PySem PySem.Spec PyProof.Rows PySem.EldX
/-- the drawing defs, where they stand -/
structure Drw (K : PySem.W.Frag) (mg : Str → Option Value) (fM fD fO fS fW : Addr) (dM dD dO dS dW : FuncData) : Prop where
  Mixed : Fun K "_law_mixed" "_law_mixed" sMixed fM dM
  Draw : Fun K "_law_draw" "_law_draw" sDraw fD dD
  OneOf : Fun K "_law_one_of" "_law_one_of" sOneOf fO dO
  Shuffled : Fun K "_law_shuffled" "_law_shuffled" sShuffled fS dS
  Word : Fun K "_law_word" "_law_word" sWord fW dW
  gMixed : mg "_law_mixed" = some (.ref fM)
  gDraw : mg "_law_draw" = some (.ref fD)
  gOneOf : mg "_law_one_of" = some (.ref fO)
  gShuffled : mg "_law_shuffled" = some (.ref fS)
  gWord : mg "_law_word" = some (.ref fW)
section
variable {P : Program} {w : World} {K : PySem.W.Frag} {mg : Str → Option Value} {base : Heap} {fM fD fO fS fW : Addr} {dM dD dO dS dW : FuncData}
theorem Drw.bDraw (L : Drw K mg fM fD fO fS fW dM dD dO dS dW) : Binds K dD ["_law_purse_here", "_law_many"] [] := L.Draw.binds fun _ _ _ _ _ _ us hl => match us, hl with | [_, _], _ => rfl
theorem Drw.bOneOf (L : Drw K mg fM fD fO fS fW dM dD dO dS dW) : Binds K dO ["_law_purse_here", "_law_some"] [] := L.OneOf.binds fun _ _ _ _ _ _ us hl => match us, hl with | [_, _], _ => rfl
theorem Drw.bShuffled (L : Drw K mg fM fD fO fS fW dM dD dO dS dW) : Binds K dS ["_law_purse_here", "_law_some"] [] := L.Shuffled.binds fun _ _ _ _ _ _ us hl => match us, hl with | [_, _], _ => rfl
theorem Drw.bWord (L : Drw K mg fM fD fO fS fW dM dD dO dS dW) : Binds K dW ["_law_purse_here"] [] := L.Word.binds fun _ _ _ _ _ _ us hl => match us, hl with | [_], _ => rfl
theorem Drw.okDraw (L : Drw K mg fM fD fO fS fW dM dD dO dS dW) (B : Blt mg) : FnOk P w K mg base CX0 2 fD dD ["_law_purse_here", "_law_many"] spDraw := ok_draw L.Draw L.Mixed L.gMixed B.range
theorem Drw.okOneOf (L : Drw K mg fM fD fO fS fW dM dD dO dS dW) (B : Blt mg) : FnOk P w K mg base CX0 3 fO dO ["_law_purse_here", "_law_some"] (spOneOf K) := ok_oneOf L.OneOf L.Draw L.Mixed L.gDraw L.gMixed B.range B.len
theorem Drw.okWord (L : Drw K mg fM fD fO fS fW dM dD dO dS dW) (B : Blt mg) : FnOk P w K mg base CX0 3 fW dW ["_law_purse_here"] spWord := ok_word L.Word L.Draw L.Mixed L.gDraw L.gMixed B.range
/-! ### _law_shuffled -/
def spShuffled (K : PySem.W.Frag) : Sp := fun vs H Q _ => ∃ (p l : Addr) (xs : List V) (n : Nat), vs = [.ref p, .ref l] ∧ PurseAt H p n ∧ n ≤ 90000000000 ∧ SqL K H l xs ∧ l ≠ p ∧ xs.length ≤ 60 ∧
  ∀ (H' : Hp) (q : Addr) (ys : List V), Kp p H H' → PurseAt H' p (n + 40 * xs.length) → H q = none → H' q = some (.lst ys) → ys.Perm xs → Q (.ref q) H'
theorem perm_insert {α : Type} (ys : List α) (k : Nat) (x : α) : (ys.take k ++ [x] ++ ys.drop k).Perm (ys ++ [x]) := by
  have h : (ys.take k ++ ([x] ++ ys.drop k)).Perm (ys.take k ++ (ys.drop k ++ [x])) := List.Perm.append_left _ List.perm_append_comm
  rw [List.append_assoc]
  refine h.trans ?_
  rw [← List.append_assoc, List.take_append_drop]
theorem Drw.okShuffled (L : Drw K mg fM fD fO fS fW dM dD dO dS dW) (B : Blt mg) : FnOk P w K mg base CX0 3 fS dS ["_law_purse_here", "_law_some"] (spShuffled K) := by
  have GDraw : FnOk P w K mg base CX0 2 fD dD ["_law_purse_here", "_law_many"] spDraw := L.okDraw B
  refine L.Shuffled.ok scShuffled (fun vs H Q E h => ?_) (fun cdv A outer s H vs Q E hr h => ?_)
  · obtain ⟨p, l, xs, n, rfl, _⟩ := h
    rfl
  · obtain ⟨p, l, xs, n, rfl, hp, hn, hS, ne, hz, q⟩ := h
    refine ⟨_, (pss_cons (ps_set (i := 2) scShuffled.nd rfl (.inl rfl) (pe_lst pa_nil))
      (pss_cons (ps_for PassesOwn.never rfl (pi_list (pv 1)) (pg_name (i := 3) scShuffled.nd rfl (.inl rfl))
        (pss_one (ps_expr (pe_bm PySem.F.plainAttrs_list PySem.F.slot_list_insert PySem.F.type_list_insert mt_insert (pv 2) (pa_cons (pe_call GDraw (hr.mono (by decide)) (by rfl) L.gDraw L.Draw.kp L.bDraw .nil pass0 (pa_cons (pv 0) (pa_cons (pe_op op_add (pe_callB call_len_seq (by rfl) B.len PySem.boot_len (pa_cons (pv 2) pa_nil)) pe_int) pa_nil))) (pa_cons (pv 3) pa_nil))))))
      (pss_one (ps_ret (pv 2))))), ?_⟩
    refine ⟨(by show 0 ≤ sizeLine; decide), fun fnd nf => ?_⟩
    have nfp : fnd ≠ p := Kp.ne hp nf
    refine ⟨.ref l, rfl, l, rfl, ⟨_, (Same.fresh nf).seq hS⟩, for_list (K := K) (a := l) (xs := xs) (fun i σ H' => ∃ (ys : List V) (v : Option V), σ = [some (.ref p), some (.ref l), some (.ref fnd), v] ∧ Kp p H H' ∧ PurseAt H' p (n + 40 * i) ∧ H' fnd = some (.lst ys) ∧ ys.Perm (xs.take i))
      ⟨[], none, rfl, Kept.of_same (Same.fresh nf), hp.fresh nf, upd_same, .refl _⟩ (fun i σ H' _ ⟨_, _, _, k, _⟩ => k.sql ne hS) ?_ ?_⟩
    · rintro i x σ H' hi ⟨ys, v, rfl, k, hp', e, pm⟩
      have hi' : i < xs.length := (List.getElem?_eq_some_iff.mp hi).1
      have ly : ys.length = i := by
        rw [pm.length_eq, List.length_take]
        omega
      refine ⟨.ref fnd, rfl, .inl ⟨rfl, _, SqL.of e⟩, .ref p, rfl, .ref fnd, rfl, fnd, ys, rfl, .inl (SqL.of e), _, _, rfl, rfl, ?_⟩
      refine ⟨p, _, _, rfl, hp', by omega, by omega, small_bits (n := ys.length + 1) (by omega), fun H2 r hB hP r0 r1 => ?_⟩
      have e2 : H2 fnd = some (.lst ys) := (hB fnd nfp).trans e
      refine ⟨x, rfl, fnd, ys, r, x, rfl, rfl, e2, by rw [sizeLine_eq]; omega, r0, by omega, ?_⟩
      refine ⟨_, some x, rfl, (k.trans (Kp.of_but hB)).put nf, (hP.mono (by omega)).put nfp, upd_same, ?_⟩
      rw [List.take_add_one, hi]
      exact (perm_insert ys r.toNat x).trans (pm.append (.refl _))
    · rintro σ H' ⟨ys, v, rfl, k, hp', e, pm⟩
      rw [List.take_length] at pm
      exact ⟨.ref fnd, rfl, q H' fnd ys k hp' nf e pm⟩
/-! ### _law_names, _law_kinds -/
instance (x : Str) : Decidable (IsWord x) := by unfold IsWord; infer_instance
theorem filter_one {α : Type} (f : α → Bool) (x : α) : [x].filter f = if f x = true then [x] else [] := by
  by_cases h : f x = true <;> simp [h]
def baseNames : List Str := ["ann", "a", "ab", "b", "none", "nobody", "end", "zzzzzzzzzz"]
def baseKinds : List Str := ["a", "ab", "b", "o", "none", "ann", "aaaaaaaaaa"]
/-- some of the words of a list and one more -/
def spPick : Sp := fun vs H Q _ => ∃ (p : Addr) (m : Int) (n : Nat), vs = [.ref p, .int m] ∧ PurseAt H p n ∧ n ≤ 80000000000 ∧ 1 ≤ m ∧
  ∀ (H' : Hp) (q : Addr) (ys : List Str), Kp p H H' → PurseAt H' p (n + 840) → H q = none → H' q = some (.lst (ys.map V.str)) → (∀ y ∈ ys, IsWord y) → ys.Nodup → 1 ≤ ys.length → ys.length ≤ 9 → (ys.length : Int) ≤ m → (∃ z, ∀ y ∈ ys, y ∈ baseNames ++ baseKinds ∨ y = z) → Q (.ref q) H'
def strV : V → Str
  | .str x => x
  | _ => ""
theorem perm_strs {ys : List V} {xs : List Str} (h : ys.Perm (xs.map V.str)) : ∃ zs : List Str, ys = zs.map V.str ∧ zs.Perm xs := by
  refine ⟨ys.map strV, ?_, ?_⟩
  · rw [List.map_map]
    refine (List.map_id _).symm.trans (List.map_congr_left fun v hv => ?_)
    obtain ⟨x, _, rfl⟩ := List.mem_map.mp (h.mem_iff.mp hv)
    rfl
  · have q := h.map strV
    rw [List.map_map] at q
    have e : xs.map (strV ∘ V.str) = xs := (List.map_congr_left fun _ _ => rfl).trans (List.map_id _)
    rw [e] at q
    exact q
theorem pick_end {p : Addr} {n : Nat} {m : Int} {H H1 : Hp} {Q : VK} {zs : List Str} (hw : ∀ y ∈ zs, IsWord y) (hz : ∃ z, ∀ y ∈ zs, y ∈ baseNames ++ baseKinds ∨ y = z) (hnd : zs.Nodup) (hl : 1 ≤ zs.length) (h9 : zs.length ≤ 9) (hm : 1 ≤ m) (hp : PurseAt H p n) (k : Kp p H H1) (hP : PurseAt H1 p (n + 840))
    (h : ∀ (H' : Hp) (q : Addr) (ys : List Str), Kp p H H' → PurseAt H' p (n + 840) → H q = none → H' q = some (.lst (ys.map V.str)) → (∀ y ∈ ys, IsWord y) → ys.Nodup → 1 ≤ ys.length → ys.length ≤ 9 → (ys.length : Int) ≤ m → (∃ z, ∀ y ∈ ys, y ∈ baseNames ++ baseKinds ∨ y = z) → Q (.ref q) H') :
    ∀ c, H1 c = none → Q (.ref c) (upd H1 c (.lst (cutV (zs.map V.str) none (some m)))) := by
  intro c nc
  obtain ⟨j, rfl⟩ : ∃ j : Nat, m = (j : Int) := ⟨m.toNat, by omega⟩
  have e : cutV (zs.map V.str) none (some (j : Int)) = (zs.take (min j zs.length)).map V.str := by
    rw [cutV_map, HT.sIx_none, HT.sIx_nat]
    simp
  rw [e]
  have nc0 : H c = none := k.free (Kp.ne hP nc) nc
  refine h _ c (zs.take (min j zs.length)) (k.trans (Kept.of_same (Same.fresh nc))) (hP.fresh nc) nc0 upd_same (fun y hy => hw y (List.mem_of_mem_take hy)) (hnd.sublist (List.take_sublist _ _)) (by rw [List.length_take]; omega) (by rw [List.length_take]; omega) (by rw [List.length_take]; omega) (let ⟨z, hz⟩ := hz; ⟨z, fun y hy => hz y (List.mem_of_mem_take hy)⟩)
theorem baseNames_ok : (∀ y ∈ baseNames, IsWord y) ∧ baseNames.Nodup ∧ baseNames.length = 8 := by decide +kernel
theorem ok_lawNames {f : Addr} {fd : FuncData} (F : Fun K "_law_names" "_law_names" sNames f fd) (L : Drw K mg fM fD fO fS fW dM dD dO dS dW) (B : Blt mg) : FnOk P w K mg base CX0 4 f fd ["_law_purse_here", "_law_many"] spPick := by
  have GWord : FnOk P w K mg base CX0 3 fW dW ["_law_purse_here"] spWord := L.okWord B
  have GShuffled : FnOk P w K mg base CX0 3 fS dS ["_law_purse_here", "_law_some"] (spShuffled K) := L.okShuffled B
  refine F.ok scNames (fun vs H Q E h => ?_) (fun cdv A outer s H vs Q E hr h => ?_)
  · obtain ⟨p, m, n, rfl, _⟩ := h
    rfl
  · obtain ⟨p, m, n, rfl, hp, hn, hm, q⟩ := h
    refine ⟨_, (pss_cons (ps_asg (pe_tup (pa_cons (pe_lst (pa_cons pe_str (pa_cons pe_str (pa_cons pe_str (pa_cons pe_str (pa_cons pe_str (pa_cons pe_str (pa_cons pe_str (pa_cons pe_str pa_nil))))))))) (pa_cons (pe_call GWord (hr.mono (by decide)) (by rfl) L.gWord L.Word.kp L.bWord .nil pass0 (pa_cons (pv 0) pa_nil)) pa_nil))) (pg_tup rfl (pgs_cons (pg_name (i := 2) scNames.nd rfl (.inr rfl)) (pgs_cons (pg_name (i := 3) scNames.nd rfl (.inl rfl)) pgs_nil))))
      (pss_one (ps_ret (pe_slice sl_list (pe_call GShuffled (hr.mono (by decide)) (by rfl) L.gShuffled L.Shuffled.kp L.bShuffled .nil pass0 (pa_cons (pv 0) (pa_cons (pe_op op_cat (pv 2) (pe_lc (own := [("_law_word_here", 4)]) (g := gName 4) (tt := tTest (tOp (rIn K true) (tVar 4) (tVar 2))) rfl scNames.nd (pi_list (pe_lst (pa_cons (pv 3) pa_nil))) (blkOk_by (own := [("_law_word_here", 4)]) (N := NNames) (sc := defScope sNames) (by decide +kernel)) (fun _ _ _ _ _ => pg_name (i := 4) scNames.nd rfl (.inl rfl)) (fun _ _ _ _ _ => pts_one (pt_cmpR op_notIn_seq (pv 4) (pv 2) (by rfl))) (fun _ _ _ _ _ => (pv 4)))) pa_nil))) po_none (po_some (pv 1)))))), ?_⟩
    refine ⟨(by show 8 ≤ sizeLine; decide), fun a na => ?_⟩
    have nap : a ≠ p := Kp.ne hp na
    refine ⟨.ref p, rfl, p, n, rfl, hp.fresh na, by omega, fun H1 wd hB hP hw => ?_⟩
    have e1 : H1 a = some (.lst (baseNames.map V.str)) := (hB a nap).trans upd_same
    have k1 : Kp p H H1 := (Kept.of_same (Same.fresh na)).trans (Kp.of_but hB)
    refine ⟨(by show 2 ≤ sizeLine; decide), fun tp nt => ⟨tp, _, rfl, SqT.of upd_same, rfl, _, _, rfl, _, _, rfl, rfl, ?_⟩⟩
    have ntp : tp ≠ p := Kp.ne hP nt
    have s2 := Same.fresh (o := .tup [.ref a, .str wd]) nt
    refine ⟨.ref p, rfl, .ref a, rfl, .str wd, rfl, (by show 1 ≤ sizeLine; decide), fun b nb => ⟨b, rfl, ⟨_, SqL.of upd_same⟩, fun D hD => ?_⟩⟩
    have s3 := Same.fresh (o := .lst [.str wd]) nb
    have s13 : Same H1 (upd (upd H1 tp (.tup [.ref a, .str wd])) b (.lst [.str wd])) := s2.trans s3
    have ea := s13 _ _ e1
    have eb : upd (upd H1 tp (.tup [.ref a, .str wd])) b (.lst [.str wd]) b = some (.lst ([wd].map V.str)) := upd_same
    refine lc_keep (xs := [wd]) (keep := fun x => decide (x ∉ baseNames)) (by have := walk_list (K := K) (a := b) (xs := [wd].map V.str); exact this) rfl (by show 1 ≤ 1000; decide) hD (fun G sG => SqL.of (sG _ _ eb)) (fun x G sG _ N M h1 h2 => ?_) fun G sG eG => ?_
    · refine ⟨rfl, .str x, rfl, .ref a, rfl, a, _, rfl, .inl (SqL.of (sG _ _ ea)), rfl, strs_flat _, _, rfl, ?_⟩
      rw [inV_strs]
      by_cases hx : x ∈ baseNames
      · rw [decide_eq_true hx]
        exact h2 (by rw [decide_eq_false (fun z => z hx)])
      · rw [decide_eq_false hx]
        exact ⟨.str x, rfl, h1 (decide_eq_true hx)⟩
    · have eaG := sG _ _ ea
      have hPG : PurseAt G p (n + 440) := hP.same (s13.trans sG)
      obtain ⟨b1, b2, b3⟩ := baseNames_ok
      generalize hfl : [wd].filter (fun x => decide (x ∉ baseNames)) = fl at eG
      have fw : ∀ y ∈ fl, IsWord y ∧ y ∉ baseNames := fun y hy => by
        rw [← hfl, List.mem_filter] at hy
        obtain rfl := List.mem_singleton.mp hy.1
        exact ⟨hw, of_decide_eq_true hy.2⟩
      have fl1 : fl.length ≤ 1 := by
        rw [← hfl]
        exact List.length_filter_le _ _
      have fnd : fl.Nodup := by
        rw [← hfl]
        exact List.Nodup.sublist List.filter_sublist (List.nodup_cons.mpr ⟨List.not_mem_nil, List.nodup_nil⟩)
      refine ⟨a, D, _, _, rfl, rfl, eaG, eG, ?_, fun c nc => ?_⟩
      · rw [List.length_map, List.length_map, b3, sizeLine_eq]
        omega
      · have hPc : PurseAt (upd G c (.lst (baseNames.map V.str ++ fl.map V.str))) p (n + 440) := hPG.fresh nc
        have kG : Kp p H1 G := Kp.same (s13.trans sG)
        refine ⟨p, c, _, n + 440, rfl, hPc, by omega, SqL.of upd_same, Kp.ne hPG nc, ?_, fun H2 q2 ys k2 hP2 nq2 eq2 pm => ?_⟩
        · rw [List.length_append, List.length_map, List.length_map, b3]
          omega
        · rw [← List.map_append] at pm
          obtain ⟨zs, rfl, pz⟩ := perm_strs pm
          have lz : zs.length = 8 + fl.length := by
            rw [pz.length_eq, List.length_append, b3]
          refine ⟨.int m, rfl, m, rfl, q2, _, rfl, SqL.of eq2, ?_⟩
          have fz : ∃ z, ∀ y ∈ zs, y ∈ baseNames ++ baseKinds ∨ y = z := ⟨wd, fun y hy => (List.mem_append.mp (pz.mem_iff.mp hy)).elim (fun z => .inl (List.mem_append_left _ z)) fun z => .inr (by rw [← hfl, List.mem_filter] at z; exact List.mem_singleton.mp z.1)⟩
          refine pick_end (fun y hy => ?_) fz (pz.nodup_iff.mpr ?_) (by omega) (by omega) hm hp ((k1.trans (kG.trans (Kept.of_same (Same.fresh nc)))).trans k2) (hP2.mono (by rw [List.length_append, List.length_map, List.length_map, b3]; omega)) q
          · rcases List.mem_append.mp (pz.mem_iff.mp hy) with z | z
            · exact b1 y z
            · exact (fw y z).1
          · rw [List.nodup_append]
            exact ⟨b2, fnd, fun u hu v hv e => (fw v hv).2 (e ▸ hu)⟩
theorem baseKinds_ok : (∀ y ∈ baseKinds, IsWord y) ∧ baseKinds.Nodup ∧ baseKinds.length = 7 := by decide +kernel
theorem ok_lawKinds {f : Addr} {fd : FuncData} (F : Fun K "_law_kinds" "_law_kinds" sKinds f fd) (L : Drw K mg fM fD fO fS fW dM dD dO dS dW) (B : Blt mg) : FnOk P w K mg base CX0 4 f fd ["_law_purse_here", "_law_many"] spPick := by
  have GWord : FnOk P w K mg base CX0 3 fW dW ["_law_purse_here"] spWord := L.okWord B
  have GShuffled : FnOk P w K mg base CX0 3 fS dS ["_law_purse_here", "_law_some"] (spShuffled K) := L.okShuffled B
  refine F.ok scKinds (fun vs H Q E h => ?_) (fun cdv A outer s H vs Q E hr h => ?_)
  · obtain ⟨p, m, n, rfl, _⟩ := h
    rfl
  · obtain ⟨p, m, n, rfl, hp, hn, hm, q⟩ := h
    refine ⟨_, (pss_cons (ps_asg (pe_tup (pa_cons (pe_lst (pa_cons pe_str (pa_cons pe_str (pa_cons pe_str (pa_cons pe_str (pa_cons pe_str (pa_cons pe_str (pa_cons pe_str pa_nil)))))))) (pa_cons (pe_call GWord (hr.mono (by decide)) (by rfl) L.gWord L.Word.kp L.bWord .nil pass0 (pa_cons (pv 0) pa_nil)) pa_nil))) (pg_tup rfl (pgs_cons (pg_name (i := 2) scKinds.nd rfl (.inr rfl)) (pgs_cons (pg_name (i := 3) scKinds.nd rfl (.inl rfl)) pgs_nil))))
      (pss_one (ps_ret (pe_slice sl_list (pe_call GShuffled (hr.mono (by decide)) (by rfl) L.gShuffled L.Shuffled.kp L.bShuffled .nil pass0 (pa_cons (pv 0) (pa_cons (pe_op op_cat (pv 2) (pe_lc (own := [("_law_word_here", 4)]) (g := gName 4) (tt := tTest (tOp (rIn K true) (tVar 4) (tVar 2))) rfl scKinds.nd (pi_list (pe_lst (pa_cons (pv 3) pa_nil))) (blkOk_by (own := [("_law_word_here", 4)]) (N := NKinds) (sc := defScope sKinds) (by decide +kernel)) (fun _ _ _ _ _ => pg_name (i := 4) scKinds.nd rfl (.inl rfl)) (fun _ _ _ _ _ => pts_one (pt_cmpR op_notIn_seq (pv 4) (pv 2) (by rfl))) (fun _ _ _ _ _ => (pv 4)))) pa_nil))) po_none (po_some (pv 1)))))), ?_⟩
    refine ⟨(by show 7 ≤ sizeLine; decide), fun a na => ?_⟩
    have nap : a ≠ p := Kp.ne hp na
    refine ⟨.ref p, rfl, p, n, rfl, hp.fresh na, by omega, fun H1 wd hB hP hw => ?_⟩
    have e1 : H1 a = some (.lst (baseKinds.map V.str)) := (hB a nap).trans upd_same
    have k1 : Kp p H H1 := (Kept.of_same (Same.fresh na)).trans (Kp.of_but hB)
    refine ⟨(by show 2 ≤ sizeLine; decide), fun tp nt => ⟨tp, _, rfl, SqT.of upd_same, rfl, _, _, rfl, _, _, rfl, rfl, ?_⟩⟩
    have ntp : tp ≠ p := Kp.ne hP nt
    have s2 := Same.fresh (o := .tup [.ref a, .str wd]) nt
    refine ⟨.ref p, rfl, .ref a, rfl, .str wd, rfl, (by show 1 ≤ sizeLine; decide), fun b nb => ⟨b, rfl, ⟨_, SqL.of upd_same⟩, fun D hD => ?_⟩⟩
    have s3 := Same.fresh (o := .lst [.str wd]) nb
    have s13 : Same H1 (upd (upd H1 tp (.tup [.ref a, .str wd])) b (.lst [.str wd])) := s2.trans s3
    have ea := s13 _ _ e1
    have eb : upd (upd H1 tp (.tup [.ref a, .str wd])) b (.lst [.str wd]) b = some (.lst ([wd].map V.str)) := upd_same
    refine lc_keep (xs := [wd]) (keep := fun x => decide (x ∉ baseKinds)) (by have := walk_list (K := K) (a := b) (xs := [wd].map V.str); exact this) rfl (by show 1 ≤ 1000; decide) hD (fun G sG => SqL.of (sG _ _ eb)) (fun x G sG _ N M h1 h2 => ?_) fun G sG eG => ?_
    · refine ⟨rfl, .str x, rfl, .ref a, rfl, a, _, rfl, .inl (SqL.of (sG _ _ ea)), rfl, strs_flat _, _, rfl, ?_⟩
      rw [inV_strs]
      by_cases hx : x ∈ baseKinds
      · rw [decide_eq_true hx]
        exact h2 (by rw [decide_eq_false (fun z => z hx)])
      · rw [decide_eq_false hx]
        exact ⟨.str x, rfl, h1 (decide_eq_true hx)⟩
    · have eaG := sG _ _ ea
      have hPG : PurseAt G p (n + 440) := hP.same (s13.trans sG)
      obtain ⟨b1, b2, b3⟩ := baseKinds_ok
      generalize hfl : [wd].filter (fun x => decide (x ∉ baseKinds)) = fl at eG
      have fw : ∀ y ∈ fl, IsWord y ∧ y ∉ baseKinds := fun y hy => by
        rw [← hfl, List.mem_filter] at hy
        obtain rfl := List.mem_singleton.mp hy.1
        exact ⟨hw, of_decide_eq_true hy.2⟩
      have fl1 : fl.length ≤ 1 := by
        rw [← hfl]
        exact List.length_filter_le _ _
      have fnd : fl.Nodup := by
        rw [← hfl]
        exact List.Nodup.sublist List.filter_sublist (List.nodup_cons.mpr ⟨List.not_mem_nil, List.nodup_nil⟩)
      refine ⟨a, D, _, _, rfl, rfl, eaG, eG, ?_, fun c nc => ?_⟩
      · rw [List.length_map, List.length_map, b3, sizeLine_eq]
        omega
      · have hPc : PurseAt (upd G c (.lst (baseKinds.map V.str ++ fl.map V.str))) p (n + 440) := hPG.fresh nc
        have kG : Kp p H1 G := Kp.same (s13.trans sG)
        refine ⟨p, c, _, n + 440, rfl, hPc, by omega, SqL.of upd_same, Kp.ne hPG nc, ?_, fun H2 q2 ys k2 hP2 nq2 eq2 pm => ?_⟩
        · rw [List.length_append, List.length_map, List.length_map, b3]
          omega
        · rw [← List.map_append] at pm
          obtain ⟨zs, rfl, pz⟩ := perm_strs pm
          have lz : zs.length = 7 + fl.length := by
            rw [pz.length_eq, List.length_append, b3]
          refine ⟨.int m, rfl, m, rfl, q2, _, rfl, SqL.of eq2, ?_⟩
          have fz : ∃ z, ∀ y ∈ zs, y ∈ baseNames ++ baseKinds ∨ y = z := ⟨wd, fun y hy => (List.mem_append.mp (pz.mem_iff.mp hy)).elim (fun z => .inl (List.mem_append_right _ z)) fun z => .inr (by rw [← hfl, List.mem_filter] at z; exact List.mem_singleton.mp z.1)⟩
          refine pick_end (fun y hy => ?_) fz (pz.nodup_iff.mpr ?_) (by omega) (by omega) hm hp ((k1.trans (kG.trans (Kept.of_same (Same.fresh nc)))).trans k2) (hP2.mono (by rw [List.length_append, List.length_map, List.length_map, b3]; omega)) q
          · rcases List.mem_append.mp (pz.mem_iff.mp hy) with z | z
            · exact b1 y z
            · exact (fw y z).1
          · rw [List.nodup_append]
            exact ⟨b2, fnd, fun u hu v hv e => (fw v hv).2 (e ▸ hu)⟩
/-! ### _law_most -/
def spMost : Sp := fun vs H Q _ => ∃ (p : Addr) (n : Nat), vs = [.ref p] ∧ PurseAt H p n ∧ n ≤ 80000000000 ∧ ∀ (H' : Hp) (m : Int), Kp p H H' → PurseAt H' p (n + 200) → 1 ≤ m → m < 10 ^ 30 → Q (.int m) H'
theorem mem_cutV {xs : List V} {lo hi : Option Int} {v : V} (h : v ∈ cutV xs lo hi) : v ∈ xs := List.mem_of_mem_drop (List.mem_of_mem_take h)
theorem ok_lawMost {f : Addr} {fd : FuncData} (F : Fun K "_law_most" "_law_most" sMost f fd) (L : Drw K mg fM fD fO fS fW dM dD dO dS dW) (B : Blt mg) : FnOk P w K mg base CX0 4 f fd ["_law_purse_here"] spMost := by
  have GDraw : FnOk P w K mg base CX0 2 fD dD ["_law_purse_here", "_law_many"] spDraw := L.okDraw B
  have GOneOf : FnOk P w K mg base CX0 3 fO dO ["_law_purse_here", "_law_some"] (spOneOf K) := L.okOneOf B
  refine F.ok scMost (fun vs H Q E h => ?_) (fun cdv A outer s H vs Q E hr h => ?_)
  · obtain ⟨p, n, rfl, _⟩ := h
    rfl
  · obtain ⟨p, n, rfl, hp, hn, q⟩ := h
    refine ⟨_, (pss_cons (ps_set (i := 1) scMost.nd rfl (.inl rfl) (pe_lst (pa_cons pe_int (pa_cons pe_int (pa_cons pe_int (pa_cons pe_int (pa_cons (pe_op op_add pe_int (pe_call GDraw (hr.mono (by decide)) (by rfl) L.gDraw L.Draw.kp L.bDraw .nil pass0 (pa_cons (pv 0) (pa_cons pe_int pa_nil)))) (pa_cons (pe_op op_add pe_int (pe_call GDraw (hr.mono (by decide)) (by rfl) L.gDraw L.Draw.kp L.bDraw .nil pass0 (pa_cons (pv 0) (pa_cons (pe_op op_pow pe_int pe_int) pa_nil)))) (pa_cons (pe_op op_add (pe_op op_pow pe_int pe_int) (pe_call GDraw (hr.mono (by decide)) (by rfl) L.gDraw L.Draw.kp L.bDraw .nil pass0 (pa_cons (pv 0) (pa_cons pe_int pa_nil)))) pa_nil)))))))))
      (pss_one (ps_ret (pe_call GOneOf (hr.mono (by decide)) (by rfl) L.gOneOf L.OneOf.kp L.bOneOf .nil pass0 (pa_cons (pv 0) (pa_cons (pe_slice sl_list (pv 1) po_none (po_some (pe_op op_add pe_int (pe_call GDraw (hr.mono (by decide)) (by rfl) L.gDraw L.Draw.kp L.bDraw .nil pass0 (pa_cons (pv 0) (pa_cons pe_int pa_nil)))))) pa_nil)))))), ?_⟩
    refine ⟨.ref p, rfl, p, 9, n, rfl, hp, by omega, by decide, by decide +kernel, fun H1 r1 b1 p1 l1 u1 => ⟨1, r1, rfl, rfl, ?_⟩⟩
    refine ⟨.ref p, rfl, 10, 9, rfl, rfl, ⟨by decide, by decide, by decide⟩, p, _, _, rfl, p1, by omega, by decide +kernel, by decide +kernel, fun H2 r2 b2 p2 l2 u2 => ⟨1, r2, rfl, rfl, ?_⟩⟩
    refine ⟨10, 29, rfl, rfl, ⟨by decide, by decide, by decide⟩, .ref p, rfl, p, 9, _, rfl, p2, by omega, by decide, by decide +kernel, fun H3 r3 b3 p3 l3 u3 => ⟨_, r3, rfl, rfl, ?_⟩⟩
    refine ⟨(by show 7 ≤ sizeLine; decide), fun a na => ?_⟩
    have nap : a ≠ p := Kp.ne p3 na
    refine ⟨.ref p, rfl, .ref a, rfl, .ref p, rfl, p, 4, _, rfl, p3.fresh na, by omega, by decide, by decide +kernel, fun H4 r4 b4 p4 l4 u4 => ?_⟩
    have e4 := (b4 a nap).trans upd_same
    refine ⟨4, r4, rfl, rfl, _, rfl, a, _, rfl, SqL.of e4, fun c nc => ?_⟩
    obtain ⟨j, rfl⟩ : ∃ j : Nat, r4 = (j : Int) := ⟨r4.toNat, by omega⟩
    refine ⟨p, c, _, _, rfl, p4.fresh nc, by omega, SqL.of upd_same, Kp.ne p4 nc, ?_, ?_, fun H5 i x b5 p5 hx => ?_⟩
    · unfold cutV
      rw [HT.sIx_none, show (4 + (j : Int)) = ((4 + j : Nat) : Int) by omega, HT.sIx_nat]
      simp
      omega
    · unfold cutV
      rw [List.length_take, List.length_drop]
      simp
      omega
    · have hm := mem_cutV (List.mem_of_getElem? hx)
      have k5 : Kp p H H5 := ((((Kp.of_but b1).trans (Kp.of_but b2)).trans (Kp.of_but b3)).trans (Kept.of_same (Same.fresh na))).trans (((Kp.of_but b4).trans (Kept.of_same (Same.fresh nc))).trans (Kp.of_but b5))
      have fin : ∀ m : Int, 1 ≤ m → m < 10 ^ 30 → x = .int m → Q x H5 := fun m h1 h2 e => by
        rw [e]
        exact q H5 m k5 (p5.mono (by omega)) h1 h2
      have big9 : ((10 : Int) ^ (9 : Int).toNat) = 1000000000 := by decide +kernel
      have big29 : ((10 : Int) ^ (29 : Int).toNat) = 100000000000000000000000000000 := by decide +kernel
      rw [big9] at u2
      rw [big29] at hm
      simp only [List.mem_cons, List.not_mem_nil, or_false] at hm
      rcases hm with e | e | e | e | e | e | e
      · exact fin 1 (by decide) (by decide +kernel) e
      · exact fin 1 (by decide) (by decide +kernel) e
      · exact fin 2 (by decide) (by decide +kernel) e
      · exact fin 3 (by decide) (by decide +kernel) e
      · exact fin _ (by omega) (by omega) e
      · exact fin _ (by omega) (by omega) e
      · exact fin _ (by omega) (by omega) e
end
end Eld
end L2

set_option Elab.async false
set_option linter.all false
set_option maxRecDepth 100000
set_option maxHeartbeats 4000000
/-! ## the law's own askers and lines -/
namespace L2
namespace Eld
open PySem PySem.Spec PyProof.Rows PySem.EldX
section
variable {P : Program} {w : World} {K : PySem.W.Frag} {mg : Str → Option Value} {base : Heap} {fM fD fO fS fW : Addr} {dM dD dO dS dW : FuncData} {CA fI pN gN pF gF pM gM fE CL fLI fLE fLL fLA fLN fLK fLR fLP : Addr}
/-! ### _law_asker -/
def spLAsker (K : PySem.W.Frag) (CA : Addr) : Sp := fun vs H Q _ => ∃ (p l : Addr) (nm : Str) (ks : List Str) (n : Nat), vs = [.ref p, .str nm, .ref l] ∧ PurseAt H p n ∧ n ≤ 70000000000 ∧ IsWord nm ∧ SqL K H l (ks.map V.str) ∧ l ≠ p ∧ (∀ y ∈ ks, IsWord y) ∧ ks.Nodup ∧ 1 ≤ ks.length ∧ ks.length ≤ 60 ∧
  ∀ (H' : Hp) (x : Addr) (k : Ask), Kp p H H' → PurseAt H' p (n + 2700) → H x = none → AskAt CA H' x k → AskOk k → k.nm = nm → (∀ y ∈ k.ks, y ∈ ks) → k.m < 10 ^ 30 → Q (.ref x) H'
theorem ok_lawAsker {f fMost : Addr} {fd dMost : FuncData} (F : Fun K "_law_asker" "_law_asker" sLAsker f fd) (L : Drw K mg fM fD fO fS fW dM dD dO dS dW) (B : Blt mg) (FMost : Fun K "_law_most" "_law_most" sMost fMost dMost) (gMost : mg "_law_most" = some (.ref fMost)) (TA : ACls K CA fI pN gN pF gF pM gM fE) (gA : mg "Asker" = some (.ref CA))
    {dAI : FuncData} (GAInit : FnOk P w K mg base CX0 3 fI dAI ["self", "name", "fits", "most"] (spAInit K CA)) (bAInit : Binds K dAI ["self", "name", "fits", "most"] []) : FnOk P w K mg base CX0 5 f fd ["_law_purse_here", "_law_name", "_law_kinds_here"] (spLAsker K CA) := by
  have GDraw : FnOk P w K mg base CX0 2 fD dD ["_law_purse_here", "_law_many"] spDraw := L.okDraw B
  have GShuffled : FnOk P w K mg base CX0 3 fS dS ["_law_purse_here", "_law_some"] (spShuffled K) := L.okShuffled B
  have GMost : FnOk P w K mg base CX0 4 fMost dMost ["_law_purse_here"] spMost := ok_lawMost FMost L B
  have bMost : Binds K dMost ["_law_purse_here"] [] := FMost.binds fun _ _ _ _ _ _ us hl => match us, hl with | [_], _ => rfl
  refine F.ok scLAsker (fun vs H Q E h => ?_) (fun cdv A outer s H vs Q E hr h => ?_)
  · obtain ⟨p, l, nm, ks, n, rfl, _⟩ := h
    rfl
  · obtain ⟨p, l, nm, ks, n, rfl, hp, hn, hnm, hS, ne, hw, hnd, h1, h60, q⟩ := h
    refine ⟨_, (pss_cons (ps_set (i := 3) scLAsker.nd rfl (.inl rfl) (pe_call GShuffled (hr.mono (by decide)) (by rfl) L.gShuffled L.Shuffled.kp L.bShuffled .nil pass0 (pa_cons (pv 0) (pa_cons (pv 2) pa_nil))))
      (pss_one (ps_ret (pe_make TA.make GAInit (hr.mono (by decide)) (by rfl) gA bAInit .nil pass0 (pa_cons (pv 1) (pa_cons (pe_slice sl_list (pv 3) po_none (po_some (pe_op op_add pe_int (pe_call GDraw (hr.mono (by decide)) (by rfl) L.gDraw L.Draw.kp L.bDraw .nil pass0 (pa_cons (pv 0) (pa_cons (pe_callB (call_min2 rfl) (by rfl) B.min (by decide +kernel) (pa_cons (pe_callB call_len_seq (by rfl) B.len PySem.boot_len (pa_cons (pv 3) pa_nil)) (pa_cons pe_int pa_nil))) pa_nil)))))) (pa_cons (pe_call GMost (hr.mono (by decide)) (by rfl) gMost FMost.kp bMost .nil pass0 (pa_cons (pv 0) pa_nil)) pa_nil))))))), ?_⟩
    refine ⟨.ref p, rfl, .ref l, rfl, p, l, _, n, rfl, hp, by omega, hS, ne, by rw [List.length_map]; exact h60, fun H1 a ys k1 p1 na ea pm => ?_⟩
    rw [List.length_map] at p1
    obtain ⟨zs, rfl, pz⟩ := perm_strs pm
    have lz := pz.length_eq
    have nap : a ≠ p := Kp.ne hp na
    refine ⟨.str nm, rfl, .ref a, rfl, .ref p, rfl, .ref a, rfl, a, _, rfl, .inl (SqL.of ea), _, 3, rfl, ?_⟩
    rw [List.length_map]
    generalize hmn : (if (3 : Int) < ((zs.length : Nat) : Int) then (3 : Int) else ((zs.length : Nat) : Int)) = mn
    have mn1 : 1 ≤ mn ∧ mn ≤ 3 ∧ mn ≤ zs.length := by
      rw [← hmn]
      split <;> omega
    refine ⟨p, mn, _, rfl, p1, by omega, mn1.1, Nat.lt_of_le_of_lt (show mn.natAbs ≤ 3 by omega) (by decide +kernel), fun H2 r b2 p2 r0 r1 => ?_⟩
    obtain ⟨j, rfl⟩ : ∃ j : Nat, r = (j : Int) := ⟨r.toNat, by omega⟩
    refine ⟨1, _, rfl, rfl, _, rfl, a, _, rfl, SqL.of ((b2 a nap).trans ea), fun c nc => ?_⟩
    have hcut : cutV (zs.map V.str) none (some (1 + (j : Int))) = (zs.take (1 + j)).map V.str := by
      rw [cutV_map, HT.sIx_none, show (1 + (j : Int)) = ((1 + j : Nat) : Int) by omega, HT.sIx_nat, Nat.min_eq_left (by omega)]
      simp
    rw [hcut]
    have ncp : c ≠ p := Kp.ne p2 nc
    refine ⟨.ref p, rfl, p, _, rfl, p2.fresh nc, by omega, fun H3 m k3 p3 m1 m2 => ?_⟩
    have ec : H3 c = some (.lst ((zs.take (1 + j)).map V.str)) := k3 c _ ncp upd_same
    have kAll : Kp p H H3 := k1.trans ((Kp.of_but b2).trans ((Kept.of_same (Same.fresh nc)).trans k3))
    have tm : ∀ y ∈ zs.take (1 + j), y ∈ ks := fun y hy => pz.mem_iff.mp (List.mem_of_mem_take hy)
    have tl : (zs.take (1 + j)).length = 1 + j := by
      rw [List.length_take]
      omega
    have tn : (zs.take (1 + j)).Nodup := (pz.nodup_iff.mpr hnd).sublist (List.take_sublist _ _)
    have tne : zs.take (1 + j) ≠ [] := fun z => by
      rw [z] at tl
      simp at tl
      omega
    refine made_asker (ys := zs.take (1 + j)) hnm (SqL.of ec) (fun y hy => hw y (tm y hy)) tn tne (by omega) m1 fun H4 x us s4 nx A pu so => ?_
    refine q H4 x _ (kAll.trans (Kp.same s4)) ((p3.same s4).mono (by omega)) (Kp.free kAll (Kp.ne p3 nx) nx) A ⟨hnm, fun y hy => hw y (tm y (pu.mem_iff.mp hy)), pu.nodup_iff.mpr tn, fun z => ?_, ?_, so, m1⟩ rfl (fun y hy => tm y (pu.mem_iff.mp hy)) m2
    · have := pu.length_eq
      rw [show us = [] from z, tl] at this
      simp at this
      omega
    · show us.length < 64
      rw [pu.length_eq, tl]
      omega
/-! ### _law_line -/
def spLLine (K : PySem.W.Frag) (CL CA : Addr) : Sp := fun vs H Q _ => ∃ (p l : Addr) (ks : List Str) (m : Int) (n : Nat), vs = [.ref p, .ref l, .int m] ∧ PurseAt H p n ∧ n ≤ 60000000000 ∧ SqL K H l (ks.map V.str) ∧ l ≠ p ∧ (∀ y ∈ ks, IsWord y) ∧ ks.Nodup ∧ 1 ≤ ks.length ∧ ks.length ≤ 60 ∧ 1 ≤ m ∧ m ≤ 100 ∧
  ∀ (H' : Hp) (x : Addr) (as : List Addr) (cs : List Ask), Kp p H H' → PurseAt H' p (n + 26000) → H x = none → LineAt CL CA H' x as cs → (cs.map Ask.nm).Nodup → 1 ≤ cs.length → cs.length ≤ 9 → (∀ c ∈ cs, AskOk c ∧ ∀ y ∈ c.ks, y ∈ ks) → (∀ c ∈ cs, c.m < 10 ^ 30) → ((cs.length : Int) ≤ m) → (∃ z, ∀ c ∈ cs, c.nm ∈ baseNames ++ baseKinds ∨ c.nm = z) → Q (.ref x) H'
/-- an asker that does not stand in the purse's place -/
def AskOff (C p : Addr) (H : Hp) (a : Addr) (k : Ask) : Prop := ∃ dx t : Addr, a ≠ p ∧ t ≠ p ∧ H a = some (.ins C dx (afs k.nm t k.m)) ∧ H t = some (.tup (k.ks.map V.str))
theorem AskOff.of {C p a : Addr} {H : Hp} {k : Ask} {n : Nat} (hp : PurseAt H p n) (h : AskAt C H a k) : AskOff C p H a k := by
  obtain ⟨xs, e⟩ := purse_lst hp
  obtain ⟨dx, t, h1, h2⟩ := h
  refine ⟨dx, t, fun z => ?_, fun z => ?_, h1, h2⟩
  · rw [z, e] at h1
    cases h1
  · rw [z, e] at h2
    cases h2
theorem AskOff.ask {C p a : Addr} {H : Hp} {k : Ask} (h : AskOff C p H a k) : AskAt C H a k := by
  obtain ⟨dx, t, _, _, h1, h2⟩ := h
  exact ⟨dx, t, h1, h2⟩
theorem AskOff.stay {C p D a : Addr} {H H' : Hp} {k : Ask} {xs : List V} (h : AskOff C p H a k) (hD : H D = some (.lst xs)) (s : Kept (· = p) H H' ∨ ∀ b o, b ≠ D → H b = some o → H' b = some o) : AskOff C p H' a k := by
  obtain ⟨dx, t, n1, n2, h1, h2⟩ := h
  rcases s with s | s
  · exact ⟨dx, t, n1, n2, s _ _ n1 h1, s _ _ n2 h2⟩
  · refine ⟨dx, t, n1, n2, s _ _ (fun z => ?_) h1, s _ _ (fun z => ?_) h2⟩
    · rw [z, hD] at h1
      cases h1
    · rw [z, hD] at h2
      cases h2
theorem walk_strs {K : PySem.W.Frag} {a : Addr} {xs : List Str} : Walk (Itl K a) xs.length (fun H => SqL K H a (xs.map V.str)) (YAt (xs.map V.str)) := by
  have := walk_list (K := K) (a := a) (xs := xs.map V.str)
  rw [List.length_map] at this
  exact this
theorem mk_list {α β : Type} (R : Nat → β → α → Prop) : ∀ (acc : List β), (∀ (i : Nat) y, acc[i]? = some y → ∃ x, R i y x) → ∃ xs : List α, xs.length = acc.length ∧ ∀ (i : Nat) y, acc[i]? = some y → ∃ x, xs[i]? = some x ∧ R i y x := by
  intro acc
  induction acc generalizing R with
  | nil => exact fun _ => ⟨[], rfl, fun i y e => by simp at e⟩
  | cons b acc ih =>
    intro h
    obtain ⟨x, hx⟩ := h 0 b rfl
    obtain ⟨xs, hl, hxs⟩ := ih (fun i => R (i + 1)) fun i y e => h (i + 1) y (by simpa using e)
    refine ⟨x :: xs, by rw [List.length_cons, List.length_cons, hl], fun i y e => ?_⟩
    cases i with
    | zero =>
      obtain rfl : b = y := by simpa using e
      exact ⟨x, rfl, hx⟩
    | succ i => exact hxs i y (by simpa using e)
theorem asks_of {C : Addr} {H : Hp} : ∀ {as : List Addr} {cs : List Ask}, as.length = cs.length → (∀ (i : Nat) a, as[i]? = some a → ∃ c, cs[i]? = some c ∧ AskAt C H a c) → Asks C H as cs
  | [], [], _, _ => .nil
  | a :: as, c :: cs, l, h => by
    obtain ⟨c', e, A⟩ := h 0 a rfl
    obtain rfl : c = c' := by simpa using e
    exact .cons A (asks_of (by simpa using l) fun i a e => h (i + 1) a (by simpa using e))
theorem ok_lawLine {f fNames fLAsker fMost : Addr} {fd dNames dLAsker dMost : FuncData} (F : Fun K "_law_line" "_law_line" sLLine f fd) (L : Drw K mg fM fD fO fS fW dM dD dO dS dW) (B : Blt mg) (FNames : Fun K "_law_names" "_law_names" sNames fNames dNames) (gNames : mg "_law_names" = some (.ref fNames))
    (FLAsker : Fun K "_law_asker" "_law_asker" sLAsker fLAsker dLAsker) (gLAsker : mg "_law_asker" = some (.ref fLAsker)) (GLAsker : FnOk P w K mg base CX0 5 fLAsker dLAsker ["_law_purse_here", "_law_name", "_law_kinds_here"] (spLAsker K CA))
    (T : LCls K CL fLI fLE fLL fLA fLN fLK fLR fLP) (gL : mg "Line" = some (.ref CL)) {dLI : FuncData} (GLInit : FnOk P w K mg base CX0 4 fLI dLI ["self", "askers"] (spLInit K CL CA)) (bLInit : Binds K dLI ["self", "askers"] []) :
    FnOk P w K mg base CX0 6 f fd ["_law_purse_here", "_law_kinds_here", "_law_most_here"] (spLLine K CL CA) := by
  have GDraw : FnOk P w K mg base CX0 2 fD dD ["_law_purse_here", "_law_many"] spDraw := L.okDraw B
  have GNames : FnOk P w K mg base CX0 4 fNames dNames ["_law_purse_here", "_law_many"] spPick := ok_lawNames FNames L B
  have bNames : Binds K dNames ["_law_purse_here", "_law_many"] [] := FNames.binds fun _ _ _ _ _ _ us hl => match us, hl with | [_, _], _ => rfl
  have bLAsker : Binds K dLAsker ["_law_purse_here", "_law_name", "_law_kinds_here"] [] := FLAsker.binds fun _ _ _ _ _ _ us hl => match us, hl with | [_, _, _], _ => rfl
  refine F.ok scLLine (fun vs H Q E h => ?_) (fun cdv A outer s H vs Q E hr h => ?_)
  · obtain ⟨p, l, ks, m, n, rfl, _⟩ := h
    rfl
  · obtain ⟨p, l, ks, m, n, rfl, hp, hn, hS, ne, hw, hnd, h1, h60, m1, m2, q⟩ := h
    refine ⟨_, (pss_cons (ps_set (i := 3) scLLine.nd rfl (.inl rfl) (pe_call GNames (hr.mono (by decide)) (by rfl) gNames FNames.kp bNames .nil pass0 (pa_cons (pv 0) (pa_cons (pe_op op_add pe_int (pe_call GDraw (hr.mono (by decide)) (by rfl) L.gDraw L.Draw.kp L.bDraw .nil pass0 (pa_cons (pv 0) (pa_cons (pv 2) pa_nil)))) pa_nil))))
      (pss_one (ps_ret (pe_make T.make GLInit (hr.mono (by decide)) (by rfl) gL bLInit .nil pass0 (pa_cons (pe_lc (own := [("_law_name", 4)]) (g := gName 4) (tt := tYes) rfl scLLine.nd (pi_list (pv 3)) (blkOk_by (own := [("_law_name", 4)]) (N := NLLine) (sc := defScope sLLine) (by decide +kernel)) (fun _ _ _ _ _ => pg_name (i := 4) scLLine.nd rfl (.inl rfl)) (fun _ _ _ _ _ => pts_nil) (fun _ _ _ _ _ => (pe_call GLAsker (hr.mono (by decide)) (by rfl) gLAsker FLAsker.kp bLAsker .nil pass0 (pa_cons (pv 0) (pa_cons (pv 4) (pa_cons (pv 1) pa_nil)))))) pa_nil))))), ?_⟩
    refine ⟨.ref p, rfl, .ref p, rfl, .int m, rfl, p, m, n, rfl, hp, by omega, m1, Nat.lt_of_le_of_lt (show m.natAbs ≤ 100 by omega) (by decide +kernel), fun H1 r b1 p1 r0 r1 => ⟨1, r, rfl, rfl, ?_⟩⟩
    refine ⟨p, _, _, rfl, p1, by omega, by omega, fun H2 a ys k2 p2 na ea yw ynd y1 y9 ym yz => ?_⟩
    have k02 : Kp p H H2 := (Kp.of_but b1).trans k2
    have nap : a ≠ p := Kp.ne p1 na
    refine ⟨.ref a, rfl, a, rfl, ⟨_, SqL.of ea⟩, fun D hD => ?_⟩
    have nDp : D ≠ p := Kp.ne p2 hD
    have naD : a ≠ D := fun z => by
      rw [← z, ea] at hD
      cases hD
    have nlD : ∀ o, H2 l = some o → l ≠ D := fun o e z => by
      rw [z, hD] at e
      cases e
    refine lc_gen (walk_strs (K := K) (a := a) (xs := ys)) (· = p) (fun i G => PurseAt G p (n + 40 + 840 + 2700 * i))
      (fun i y G => ∃ (x : Addr) (c : Ask), y = .ref x ∧ AskOff CA p G x c ∧ AskOk c ∧ ys[i]? = some c.nm ∧ (∀ z ∈ c.ks, z ∈ ks) ∧ c.m < 10 ^ 30) (Nat.lt_of_le_of_lt y9 (by decide)) hD nDp (fun i G kG _ => SqL.of (kG a _ nap ea))
      (fun G e => (p2.of_eq (e p (Ne.symm nDp))).mono (by omega)) (fun i G G' e pG => pG.of_eq (e p (Ne.symm nDp))) (fun _ _ _ _ y => y.1) ?_ ?_ ?_
    · rintro i y G G' acc eD kk ⟨x, c, rfl, A, ok, e, hk⟩
      exact ⟨x, c, rfl, A.stay eD kk, ok, e, hk⟩
    · rintro i v G hi kG pG ⟨_, hv⟩ R hR
      obtain ⟨y, hy, rfl⟩ := str_at hv
      have hSG : SqL K G l (ks.map V.str) := Kp.sql (k02.trans kG) ne hS
      refine ⟨rfl, .ref p, rfl, .str y, rfl, .ref l, rfl, p, l, y, ks, _, rfl, pG, by omega, yw y (List.mem_of_getElem? hy), hSG, ne, hw, hnd, h1, h60, fun G' x c kG' pG' nx A ok e hk hm => ?_⟩
      exact hR _ G' kG' (pG'.mono (by omega)) ⟨x, c, rfl, .of pG' A, ok, by rw [e]; exact hy, hk, hm⟩
    · intro G acc kG pG eD hl ho
      obtain ⟨as, las, has⟩ := mk_list (fun _ (v : V) (x : Addr) => v = .ref x) acc fun i y e => let ⟨x, _, e', _⟩ := ho i y e; ⟨x, e'⟩
      have ea' : acc = as.map V.ref := eq_map_of las.symm fun i y e => let ⟨x, e1, e2⟩ := has i y e; ⟨x, e1, e2⟩
      subst ea'
      rw [List.length_map] at hl
      obtain ⟨cs, lcs, hcs⟩ := mk_list (fun i (x : Addr) (c : Ask) => AskOff CA p G x c ∧ AskOk c ∧ ys[i]? = some c.nm ∧ (∀ z ∈ c.ks, z ∈ ks) ∧ c.m < 10 ^ 30) as fun i x e => by
        obtain ⟨x', c, e', r⟩ := ho i (.ref x) (by rw [List.getElem?_map, e] <;> rfl)
        cases e'
        exact ⟨c, r⟩
      have hA : Asks CA G as cs := asks_of lcs.symm fun i a e => let ⟨c, e1, e2, _⟩ := hcs i a e; ⟨c, e1, e2.ask⟩
      have gc : ∀ (i : Nat) c, cs[i]? = some c → AskOk c ∧ ys[i]? = some c.nm ∧ (∀ z ∈ c.ks, z ∈ ks) ∧ c.m < 10 ^ 30 := fun i c e => by
        have hi : i < as.length := by
          rw [← lcs]
          exact (List.getElem?_eq_some_iff.mp e).1
        obtain ⟨c', e1, _, e3⟩ := hcs i as[i] (List.getElem?_eq_getElem hi)
        rw [e] at e1
        cases e1
        exact e3
      have enm : cs.map Ask.nm = ys := by
        refine List.ext_getElem? fun i => ?_
        rw [List.getElem?_map]
        cases e : cs[i]? with
        | none =>
          have := List.getElem?_eq_none_iff.mp e
          exact (List.getElem?_eq_none (by omega)).symm
        | some c => exact (gc i c e).2.1.symm
      refine made_line (SqL.of eD) hA (by omega) (by rw [enm]; exact ynd) fun G' x s' nx LA => ?_
      refine q G' x as cs (k02.trans (kG.trans (Kp.same s'))) ((pG.same s').mono (by omega)) (Kp.free (k02.trans kG) (Kp.ne pG nx) nx) LA (by rw [enm]; exact ynd) (by omega) (by omega) (fun c hc => ?_) (fun c hc => ?_) (by omega) ⟨yz.choose, fun c hc => yz.choose_spec c.nm (by rw [← enm]; exact List.mem_map.mpr ⟨c, hc, rfl⟩)⟩
      · obtain ⟨i, hi⟩ := List.mem_iff_getElem?.mp hc
        exact ⟨(gc i c hi).1, (gc i c hi).2.2.1⟩
      · obtain ⟨i, hi⟩ := List.mem_iff_getElem?.mp hc
        exact (gc i c hi).2.2.2
end
end Eld
end L2

set_option Elab.async false
set_option linter.all false
set_option maxRecDepth 100000
set_option maxHeartbeats 4000000
/-! ## kinds of askers, a free word, other askers -/
namespace L2
namespace Eld
open PySem PySem.Spec PyProof.Rows PySem.EldX
section
variable {P : Program} {w : World} {K : PySem.W.Frag} {mg : Str → Option Value} {base : Heap} {fM fD fO fS fW : Addr} {dM dD dO dS dW : FuncData} {CA fI pN gN pF gF pM gM fE CL fLI fLE fLL fLA fLN fLK fLR fLP : Addr}
/-! ### _law_kinds_of -/
def spKindsOf (K : PySem.W.Frag) (CA : Addr) : Sp := fun vs H Q _ => ∃ (l : Addr) (as : List Addr) (cs : List Ask) (U : List Str), vs = [.ref l] ∧ SqL K H l (as.map V.ref) ∧ Asks CA H as cs ∧ (∀ c ∈ cs, c.ks.Nodup ∧ ∀ x ∈ c.ks, x ∈ U) ∧ U.length < 64 ∧
  ∀ (H' : Hp) (q : Addr) (zs : List Str), Same H H' → H' q = some (.lst (zs.map V.str)) → zs.Nodup → (∀ x, x ∈ zs ↔ ∃ c ∈ cs, x ∈ c.ks) → Q (.ref q) H'
theorem ok_kindsOf {f : Addr} {fd dAF : FuncData} (F : Fun K "_law_kinds_of" "_law_kinds_of" sKindsOf f fd) (B : Blt mg) (TA : ACls K CA fI pN gN pF gF pM gM fE) (FAF : Fun K "fits" "Asker.fits" sAFits gF dAF) : FnOk P w K mg base CX0 3 f fd ["_law_askers"] (spKindsOf K CA) := by
  have GAFits : FnOk P w K mg base CX0 1 gF dAF ["self"] (spAFits CA) := ok_afits FAF B TA
  have bAFits : Binds K dAF ["self"] [] := FAF.binds fun _ _ _ _ _ _ us hl => match us, hl with | [_], _ => rfl
  refine F.ok scKindsOf (fun vs H Q E h => ?_) (fun cdv A outer s H vs Q E hr h => ?_)
  · obtain ⟨l, as, cs, U, rfl, _⟩ := h
    rfl
  · obtain ⟨l, as, cs, U, rfl, hS, hA, hU, hl, q⟩ := h
    refine ⟨_, (pss_cons (ps_set (i := 1) scKindsOf.nd rfl (.inr rfl) (pe_lst pa_nil))
      (pss_cons (ps_for PassesOwn.never rfl (pi_list (pv 0)) (pg_name (i := 2) scKindsOf.nd rfl (.inl rfl))
        (pss_one (ps_set (i := 1) scKindsOf.nd rfl (.inr rfl) (pe_op op_cat (pv 1) (pe_lc (own := [("_law_kind", 3)]) (g := gName 3) (tt := tTest (tOp (rIn K true) (tVar 3) (tVar 1))) rfl scKindsOf.nd (pi_list (pe_prop (pv 2) TA.ins.cl TA.pF GAFits (hr.mono (by decide)) bAFits .nil pass0 rfl)) (blkOk_by (own := [("_law_kind", 3)]) (N := NKindsOf) (sc := defScope sKindsOf) (by decide +kernel)) (fun _ _ _ _ _ => pg_name (i := 3) scKindsOf.nd rfl (.inl rfl)) (fun _ _ _ _ _ => pts_one (pt_cmpR op_notIn_seq (pv 3) (pv 1) (by rfl))) (fun _ _ _ _ _ => (pv 3)))))))
      (pss_one (ps_ret (pv 1))))), ?_⟩
    refine ⟨(by show 0 ≤ sizeLine; decide), fun f0 nf0 => ⟨.ref l, rfl, l, rfl, ⟨_, (Same.fresh nf0).seq hS⟩, ?_⟩⟩
    refine for_list (K := K) (a := l) (xs := as.map V.ref) (fun i σ H' => ∃ (fn : Addr) (zs : List Str) (v : Option V), σ = [some (.ref l), some (.ref fn), v, none] ∧ Same H H' ∧ H' fn = some (.lst (zs.map V.str)) ∧ zs.Nodup ∧ ∀ x, x ∈ zs ↔ ∃ c ∈ cs.take i, x ∈ c.ks)
      ⟨f0, [], none, rfl, Same.fresh nf0, upd_same, List.nodup_nil, fun x => by simp⟩ (fun i σ H' _ ⟨_, _, _, _, s, _⟩ => s.seq hS) ?_ ?_
    · rintro i x σ H1 hi ⟨fn, zs, v, rfl, s1, e1, nd, hm⟩
      obtain ⟨a, ha, rfl⟩ := ref_at hi
      obtain ⟨c, hc, hAc⟩ := hA.get ha
      have hAc := hAc.same s1
      obtain ⟨dx, fs, hI⟩ := hAc.ins
      obtain ⟨cn, cU⟩ := hU c (List.mem_of_getElem? hc)
      have zU : ∀ x ∈ zs, x ∈ U := fun x hx => by
        obtain ⟨c', hc', hx'⟩ := (hm x).mp hx
        exact (hU c' (List.mem_of_mem_take hc')).2 x hx'
      have zl := nodup_le zs U nd zU
      have cl := nodup_le c.ks U cn cU
      refine ⟨.ref fn, rfl, .ref a, rfl, a, dx, fs, rfl, hI, a, c, rfl, hAc, fun t nt => ⟨t, rfl, ⟨_, SqL.of upd_same⟩, fun D hD => ?_⟩⟩
      have s2 := Same.fresh (o := .lst (c.ks.map V.str)) nt
      refine lc_keep (xs := c.ks) (keep := fun x => decide (x ∉ zs)) walk_strs rfl (by omega) hD (fun G sG => SqL.of (sG _ _ upd_same)) (fun x G sG _ N M h1 h2 => ?_) fun G sG eG => ?_
      · refine ⟨rfl, .str x, rfl, .ref fn, rfl, fn, _, rfl, .inl (SqL.of (sG _ _ (s2 _ _ e1))), rfl, strs_flat _, _, rfl, ?_⟩
        rw [inV_strs]
        by_cases hx : x ∈ zs
        · rw [decide_eq_true hx]
          exact h2 (by rw [decide_eq_false (fun z => z hx)])
        · rw [decide_eq_false hx]
          exact ⟨.str x, rfl, h1 (decide_eq_true hx)⟩
      · have fl := List.length_filter_le (fun x => decide (x ∉ zs)) c.ks
        refine ⟨fn, D, _, _, rfl, rfl, sG _ _ (s2 _ _ e1), eG, ?_, fun u nu => ?_⟩
        · rw [List.length_map, List.length_map, sizeLine_eq]
          omega
        · refine ⟨u, zs ++ c.ks.filter (fun x => decide (x ∉ zs)), some (.ref a), rfl, s1.trans (s2.trans (sG.trans (Same.fresh nu))), by rw [upd_same, List.map_append], ?_, fun x => ?_⟩
          · rw [List.nodup_append]
            refine ⟨nd, cn.sublist List.filter_sublist, fun y hy z hz e => ?_⟩
            have := (List.mem_filter.mp hz).2
            exact of_decide_eq_true this (e ▸ hy)
          · rw [List.mem_append, hm, List.mem_filter]
            constructor
            · rintro (⟨c', h1, h2⟩ | ⟨h1, _⟩)
              · exact ⟨c', (mem_take_succ hc c').mpr (.inl h1), h2⟩
              · exact ⟨c, (mem_take_succ hc c).mpr (.inr rfl), h1⟩
            · rintro ⟨c', h1, h2⟩
              rcases (mem_take_succ hc c').mp h1 with h1 | rfl
              · exact .inl ⟨c', h1, h2⟩
              · by_cases hx : x ∈ zs
                · exact .inl ((hm x).mp hx)
                · exact .inr ⟨h2, decide_eq_true hx⟩
    · rintro σ H1 ⟨fn, zs, v, rfl, s1, e1, nd, hm⟩
      refine ⟨.ref fn, rfl, q H1 fn zs s1 e1 nd fun x => ?_⟩
      rw [hm, List.length_map, hA.len, List.take_length]
/-! ### _law_free -/
def baseFree : List Str := ["sparename", "otherspare", "thirdone", "fourthone", "fifthone", "sixthone", "seventhone"]
theorem baseFree_ok : (∀ y ∈ baseFree, IsWord y) ∧ baseFree.Nodup ∧ baseFree.length = 7 := by decide +kernel
theorem free_few {ks : List Str} (h : ks.length ≤ 6) : ∃ y ∈ baseFree, y ∉ ks := by
  obtain ⟨b1, b2, b3⟩ := baseFree_ok
  refine Classical.byContradiction fun z => ?_
  have le := nodup_le baseFree ks b2 fun y hy => Classical.byContradiction fun q => z ⟨y, hy, q⟩
  omega
theorem free_drawn {ks : List Str} (h : ∃ z, ∀ y ∈ ks, y ∈ baseNames ++ baseKinds ∨ y = z) : ∃ y ∈ baseFree, y ∉ ks := by
  obtain ⟨z, h⟩ := h
  have b : ∀ y ∈ baseFree, y ∉ baseNames ++ baseKinds := by decide +kernel
  have two : ("sparename" : Str) ∈ baseFree ∧ ("otherspare" : Str) ∈ baseFree ∧ ("sparename" : Str) ≠ "otherspare" := by decide +kernel
  by_cases e : ("sparename" : Str) = z
  · exact ⟨_, two.2.1, fun q => (h _ q).elim (b _ two.2.1) fun w => two.2.2 (e.trans w.symm)⟩
  · exact ⟨_, two.1, fun q => (h _ q).elim (b _ two.1) e⟩
def spFree (K : PySem.W.Frag) : Sp := fun vs H Q _ => ∃ (l : Addr) (ks : List Str), vs = [.ref l] ∧ SqL K H l (ks.map V.str) ∧ (∃ y ∈ baseFree, y ∉ ks) ∧ ∀ (H' : Hp) (x : Str), Same H H' → IsWord x → x ∉ ks → x ∈ baseFree → Q (.str x) H'
theorem ok_free {f : Addr} {fd : FuncData} {k : Nat} (F : Fun K "_law_free" "_law_free" sFree f fd) (B : Blt mg) : FnOk P w K mg base CX0 (k + 1) f fd ["_law_known"] (spFree K) := by
  refine F.ok scFree (fun vs H Q E h => ?_) (fun cdv A outer s H vs Q E hr h => ?_)
  · obtain ⟨l, ks, rfl, _⟩ := h
    rfl
  · obtain ⟨l, ks, rfl, hS, hy, q⟩ := h
    obtain ⟨b1, b2, b3⟩ := baseFree_ok
    refine ⟨_, (pss_cons (ps_set (i := 1) scFree.nd rfl (.inl rfl) (pe_lst (pa_cons pe_str (pa_cons pe_str (pa_cons pe_str (pa_cons pe_str (pa_cons pe_str (pa_cons pe_str (pa_cons pe_str pa_nil)))))))))
      (pss_one (ps_ret (pe_ix ix_list (pe_lc (own := [("_law_word_here", 2)]) (g := gName 2) (tt := tTest (tOp (rIn K true) (tVar 2) (tVar 0))) rfl scFree.nd (pi_list (pv 1)) (blkOk_by (own := [("_law_word_here", 2)]) (N := NFree) (sc := defScope sFree) (by decide +kernel)) (fun _ _ _ _ _ => pg_name (i := 2) scFree.nd rfl (.inl rfl)) (fun _ _ _ _ _ => pts_one (pt_cmpR op_notIn_seq (pv 2) (pv 0) (by rfl))) (fun _ _ _ _ _ => (pv 2))) pe_int (fun _ _ => rfl))))), ?_⟩
    refine ⟨(by show 7 ≤ sizeLine; decide), fun a na => ⟨.ref a, rfl, a, rfl, ⟨_, SqL.of upd_same⟩, fun D hD => ?_⟩⟩
    have s1 := Same.fresh (o := .lst [.str "sparename", .str "otherspare", .str "thirdone", .str "fourthone", .str "fifthone", .str "sixthone", .str "seventhone"]) na
    refine lc_keep (xs := baseFree) (keep := fun x => decide (x ∉ ks)) (walk_strs (K := K) (a := a) (xs := baseFree)) rfl (by rw [b3]; decide) hD (fun G sG => SqL.of (sG _ _ upd_same)) (fun x G sG _ N M h1 h2 => ?_) fun G sG eG => ?_
    · refine ⟨rfl, .str x, rfl, .ref l, rfl, l, _, rfl, .inl (sG.seq (s1.seq hS)), rfl, strs_flat _, _, rfl, ?_⟩
      rw [inV_strs]
      by_cases hx : x ∈ ks
      · rw [decide_eq_true hx]
        exact h2 (by rw [decide_eq_false (fun z => z hx)])
      · rw [decide_eq_false hx]
        exact ⟨.str x, rfl, h1 (decide_eq_true hx)⟩
    · cases e : baseFree.filter (fun x => decide (x ∉ ks)) with
      | nil =>
        obtain ⟨y, y1, y2⟩ := hy
        have := List.filter_eq_nil_iff.mp e y y1
        exact absurd (decide_eq_true y2) this
      | cons x r =>
        have hx : x ∈ baseFree.filter (fun x => decide (x ∉ ks)) := by rw [e]; exact List.mem_cons_self ..
        obtain ⟨h1, h2⟩ := List.mem_filter.mp hx
        rw [e] at eG
        exact ⟨D, _, 0, .str x, rfl, rfl, SqL.of eG, by exact atI_nat (j := 0) rfl, q G x (s1.trans sG) (b1 x h1) (of_decide_eq_true h2) h1⟩
end
end Eld
end L2

set_option Elab.async false
set_option linter.all false
set_option maxRecDepth 100000
set_option maxHeartbeats 4000000
/-! ## data of words: shown, compared -/
namespace L2
namespace Eld
open PySem PySem.Spec PyProof.Rows PySem.EldX
structure Shows (d : PyData) : Prop where
  s : d.showable = true
  z : d.shown.length ≤ sizeLine
  d : d.depth ≤ 100
theorem shows_of {d : PyData} (h1 : d.showable = true) (h2 : d.leavesShort 40 = true) (h3 : d.bulk ≤ 3000) (h4 : d.depth ≤ 100) : Shows d := by
  refine ⟨h1, ?_, h4⟩
  have e := PyData.shown_le_bulk 40 (by decide) d h2
  rw [sizeLine_eq]
  omega
abbrev sts (ys : List Str) : List PyData := ys.map PyData.str
theorem word_short {w : Str} (h : IsWord w) : (PyData.str w).leavesShort 40 = true := by
  simp only [PyData.leavesShort, List.all_eq_true, decide_eq_true_eq]
  intro c hc
  exact Nat.lt_of_le_of_lt (h.2.2 c hc).2 (by decide)
theorem sts_showable : ∀ ys : List Str, PyData.showableAll (sts ys) = true
  | [] => by simp only [sts, List.map_nil, PyData.showableAll]
  | y :: ys => by
    have ih := sts_showable ys
    simp only [sts, List.map_cons, PyData.showableAll, PyData.showable, Bool.true_and] at ih ⊢
    exact ih
theorem sts_short : ∀ {ys : List Str}, (∀ y ∈ ys, IsWord y) → PyData.leavesShortAll 40 (sts ys) = true
  | [], _ => by simp only [sts, List.map_nil, PyData.leavesShortAll]
  | y :: ys, h => by
    have ih := sts_short fun z hz => h z (List.mem_cons_of_mem _ hz)
    have hy := word_short (h y (List.mem_cons_self ..))
    simp only [sts, List.map_cons, PyData.leavesShortAll] at ih ⊢
    rw [hy, ih] <;> rfl
theorem sts_bulk : ∀ {ys : List Str}, (∀ y ∈ ys, IsWord y) → PyData.bulkAll (sts ys) ≤ 11 * ys.length
  | [], _ => by simp only [sts, List.map_nil, PyData.bulkAll, List.length_nil]; omega
  | y :: ys, h => by
    have ih := sts_bulk fun z hz => h z (List.mem_cons_of_mem _ hz)
    have hy : y.cps.size ≤ 10 := (h y (List.mem_cons_self ..)).2.1
    simp only [sts, List.map_cons, PyData.bulkAll, PyData.bulk, List.length_cons] at ih ⊢
    omega
theorem sts_depth : ∀ ys : List Str, PyData.depthAll (sts ys) ≤ 1
  | [] => by simp only [sts, List.map_nil, PyData.depthAll]; omega
  | y :: ys => by
    have ih := sts_depth ys
    simp only [sts, List.map_cons, PyData.depthAll, PyData.depth] at ih ⊢
    omega
theorem shows_sts {ys : List Str} (h : ∀ y ∈ ys, IsWord y) (l : ys.length ≤ 200) : Shows (.list (sts ys)) := by
  refine shows_of ?_ ?_ ?_ ?_
  · simp only [PyData.showable]
    exact sts_showable ys
  · simp only [PyData.leavesShort]
    exact sts_short h
  · have := sts_bulk h
    simp only [PyData.bulk]
    omega
  · have := sts_depth ys
    simp only [PyData.depth]
    omega
theorem int_short {m : Int} (h0 : 0 ≤ m) (h : m < 10 ^ 30) : (PyData.int m).leavesShort 40 = true := by
  simp only [PyData.leavesShort, PyData.shown]
  have := PyProof.Rows.toString_length_le h0 (k := 30) (by decide) (by exact_mod_cast h)
  exact decide_eq_true (Nat.le_trans this (show 30 ≤ 40 by decide))
theorem int_bits {m : Int} (h0 : 0 ≤ m) (h : m < 10 ^ 30) : m.natAbs.log2 < 1920 := by
  refine PySem.Flt.log2_lt_of (by decide) ?_
  have : m.natAbs < 10 ^ 30 := by omega
  exact Nat.lt_trans this (by decide +kernel)
/-- [name, fits, most] -/
abbrev askD (k : Ask) : PyData := .list [.str k.nm, .list (sts k.ks), .int k.m]
theorem shows_ask {k : Ask} (h : IsWord k.nm) (hk : ∀ y ∈ k.ks, IsWord y) (l : k.ks.length ≤ 100) (h0 : 0 ≤ k.m) (h1 : k.m < 10 ^ 30) : Shows (askD k) := by
  have a1 := sts_showable k.ks
  have a2 := sts_short hk
  have a3 := sts_bulk hk
  have a4 := sts_depth k.ks
  have b1 := word_short h
  have b2 : k.nm.cps.size ≤ 10 := h.2.1
  have c1 := int_short h0 h1
  refine shows_of ?_ ?_ ?_ ?_
  · simp only [askD, PyData.showable, PyData.showableAll, a1, Bool.true_and, Bool.and_true, decide_eq_true_eq]
    exact int_bits h0 h1
  · have b1' := b1
    have c1' := c1
    simp only [askD, PyData.leavesShort, PyData.leavesShortAll] at b1' c1' ⊢
    rw [b1', c1', a2] <;> rfl
  · simp only [askD, PyData.bulk, PyData.bulkAll]
    omega
  · simp only [askD, PyData.depth, PyData.depthAll]
    omega
section
variable {K : PySem.W.Frag} {H : Hp}
theorem dq_all : ∀ ys : List Str, DqAll K H (ys.map V.str) (sts ys)
  | [] => .nil
  | y :: ys => .cons (.str y) (dq_all ys)
theorem dq_sts {a : Addr} {ys : List Str} (h : SqL K H a (ys.map V.str)) : Dq K H (.ref a) (.list (sts ys)) := .lst h (dq_all ys)
theorem dp_all : ∀ ys : List Str, DpAll K H (ys.map V.str) (sts ys)
  | [] => .nil
  | y :: ys => .cons (.str y) (dp_all ys)
theorem dp_sts {a : Addr} {ys : List Str} (h : SqL K H a (ys.map V.str)) : Dp K H (.ref a) (.list (sts ys)) := .lst h (dp_all ys)
end
theorem sts_lay : ∀ {ys : List Str}, (∀ y ∈ ys, IsWord y) → PyData.canLayAll0 (sts ys) = true
  | [], _ => by simp only [sts, List.map_nil, PyData.canLayAll0]
  | y :: ys, h => by
    have ih := sts_lay fun z hz => h z (List.mem_cons_of_mem _ hz)
    have hy : PySem.PyData.strOk y = true := by
      unfold PySem.PyData.strOk
      rw [Array.all_eq_true']
      intro c hc
      have := (h y (List.mem_cons_self ..)).2.2 c (Array.mem_toList_iff.mpr hc)
      exact decide_eq_true (Nat.lt_of_le_of_lt this.2 (by decide))
    simp only [sts, List.map_cons, PyData.canLayAll0, PyData.canLay0] at ih ⊢
    rw [hy, ih] <;> rfl
theorem shaped_sts {ys : List Str} (h : ∀ y ∈ ys, IsWord y) : SeqAt.shaped (.list (sts ys)) = true := by
  unfold SeqAt.shaped
  rw [Bool.and_eq_true, decide_eq_true_eq]
  refine ⟨?_, ?_⟩
  · simp only [PyData.canLay0]
    exact sts_lay h
  · have := sts_depth ys
    simp only [PyData.depth]
    omega
theorem eqv_same {d : PyData} (h : SeqAt.shaped d = true) : PyData.eqv d d = true := SeqAt.eqv_refl d (SeqAt.canLay_of_shaped h)
/-- a comprehension of which no test holds -/
theorem lc_none {J : It} {n : Nat} {G : Hp → Prop} {xs : List V} (w : Walk J n G (YAt xs)) {g : TG} {tt : TT} {te : TE} {vs : List Nat} {σ : St} {H1 : Hp} {D : Addr} {Qd : Hp → Prop} (hD : H1 D = none) (hG : ∀ H, Same H1 H → G H)
    (hs : ∀ x H, Same H1 H → x ∈ xs → ∀ (N : VK) (M : Hp → Prop), M H → g x (wipe σ vs) H fun σ2 H2 => wipe σ2 vs = wipe σ vs ∧ tt σ2 H2 fun b H3 => if b = true then te σ2 H3 N else M H3)
    (hd : ∀ H, Same H1 H → H D = some (.lst []) → Qd H) :
    ∃ W : Nat → Nat → Hp → Prop, (∃ m, W 0 m (upd H1 D (.lst []))) ∧ ∀ i m H, W i m H →
      (J.stop i H ∧ Qd H) ∨ (J.go i H ∧ ∃ Nx : Hp → Prop, (∀ H', Nx H' → ∃ m', m' < m ∧ W (i + 1) m' H') ∧ ∀ x H', J.yld i H x H' → g x (wipe σ vs) H' fun σ2 H2 => wipe σ2 vs = wipe σ vs ∧ tt σ2 H2 fun b H3 =>
        if b = true then te σ2 H3 fun y H4 => ∃ acc, H4 D = some (.lst acc) ∧ acc.length < sizeLine ∧ Nx (upd H4 D (.lst (acc ++ [y]))) else Nx H3) := by
  refine lc_it w (fun i H => Same H1 H ∧ H D = some (.lst [])) ⟨Same.fresh hD, upd_same⟩ (fun i H _ p => hG H p.1) ?_ fun H p => hd H p.1 p.2
  rintro i x H H' hi ⟨s, e⟩ ⟨rfl, hx⟩
  exact hs x H' s (List.mem_of_getElem? hx) _ _ ⟨s, e⟩
end Eld
end L2

set_option Elab.async false
set_option linter.all false
set_option maxRecDepth 100000
set_option maxHeartbeats 8000000
/-! ## equality of askers, of lines, of lists of them -/
namespace L2
namespace Eld
open PySem PySem.Spec PyProof.Rows PySem.EldX
/-- the very same object -/
def DSm : Eqv := fun x y _ => ∃ a : Addr, x = .ref a ∧ y = .ref a
theorem mon_id : Mon DSm := fun _ _ _ _ _ d => d
theorem eqG_id {X : Cx} : EqG X 0 DSm := by
  intro A pins s σ H x y u v sb I rx ry d
  obtain ⟨a, rfl, rfl⟩ := d
  cases rx
  cases ry
  exact SeqAt.EqAt.same (A := A) (s := s) (.ref a) X.prog X.w X.xe _ ⟨rfl, H, I, Ext.rfl'⟩
theorem prs_same {H : Hp} : ∀ as : List Addr, Prs DSm (as.map V.ref) (as.map V.ref) H
  | [] => .nil
  | a :: as => .cons ⟨a, rfl, rfl⟩ (prs_same as)
theorem rev_same {cs : List Ask} (h : (cs.map Ask.nm).Nodup) : decide (cs.reverse = cs) = decide (cs.length < 2) := by
  refine decide_eq_decide.mpr ⟨fun e => ?_, fun l => ?_⟩
  · rcases Nat.lt_or_ge cs.length 2 with l | l
    · exact l
    · exfalso
      have h0 : 0 < cs.length := by omega
      have h1 : cs.length - 1 < cs.length := by omega
      have z : cs.reverse[0]'(by rw [List.length_reverse]; exact h0) = cs[cs.length - 1] := by
        rw [List.getElem_reverse]
        congr 1
      have z2 : cs.reverse[0]'(by rw [List.length_reverse]; exact h0) = cs[0] := by
        congr 1
      have z3 : cs[0].nm = cs[cs.length - 1].nm := by rw [← z2, z]
      have p := List.pairwise_iff_getElem.mp h 0 (cs.length - 1) (by rw [List.length_map]; exact h0) (by rw [List.length_map]; exact h1) (by omega)
      simp only [List.getElem_map] at p
      exact p z3
  · match cs, l with
    | [], _ => rfl
    | [c], _ => rfl
theorem shows_int {i : Int} (h0 : 0 ≤ i) (h : i < 10 ^ 30) : Shows (.int i) :=
  shows_of (by simp only [PyData.showable, decide_eq_true_eq]; exact int_bits h0 h) (int_short h0 h) (by simp only [PyData.bulk]; omega) (by simp only [PyData.depth]; omega)
theorem walk_refs {K : PySem.W.Frag} {a : Addr} {xs : List Addr} : Walk (Itl K a) xs.length (fun H => SqL K H a (xs.map V.ref)) (YAt (xs.map V.ref)) := by
  have := walk_list (K := K) (a := a) (xs := xs.map V.ref)
  rw [List.length_map] at this
  exact this
/-- what is neither an asker nor a line -/
structure Oth (K : PySem.W.Frag) (CA CL : Addr) : Prop where
  a : ∀ T ∈ (["tuple", "str", "NoneType", "list"] : List String), PySem.W.kitOne K (.type T) (.ref CA) = some false ∧ PySem.W.notFirst K CA (.type T) = true
  l : ∀ T ∈ (["tuple", "str", "NoneType", "list"] : List String), PySem.W.kitOne K (.type T) (.ref CL) = some false ∧ PySem.W.notFirst K CL (.type T) = true
  al : PySem.W.kitOne K (.ref CA) (.ref CL) = some false ∧ PySem.W.notFirst K CL (.ref CA) = true
section
variable {P : Program} {w : World} {K : PySem.W.Frag} {mg : Str → Option Value} {base : Heap} {fM fD fO fS fW : Addr} {dM dD dO dS dW : FuncData} {CA fI pN gN pF gF pM gM fE CL fLI fLE fLL fLA fLN fLK fLR fLP : Addr}
theorem din_ask {H : Hp} {a c : Addr} {k k' : Ask} {b : Bool} (TA : ACls K CA fI pN gN pF gF pM gM fE) (A : AskAt CA H a k) (A' : AskAt CA H c k') (hb : b = decide (k = k')) : DIn K CA (RA K CA) (.ref a) (.ref c) H b := by
  obtain ⟨dx, fs, hI⟩ := A.ins
  obtain ⟨dx', fs', hI'⟩ := A'.ins
  exact ⟨a, dx, fs, .ref CA, rfl, hI, tyx_ask TA.ins hI', by simp [PySem.W.notFirst], k, A, .inl ⟨c, k', rfl, A', hb⟩⟩
theorem din_oth {H : Hp} {a : Addr} {k : Ask} {y : V} {t : Value} (A : AskAt CA H a k) (ty : TyX K H y t) (h : PySem.W.kitOne K t (.ref CA) = some false ∧ PySem.W.notFirst K CA t = true) : DIn K CA (RA K CA) (.ref a) y H false := by
  obtain ⟨dx, fs, hI⟩ := A.ins
  exact ⟨a, dx, fs, t, rfl, hI, ty, h.2, k, A, .inr ⟨t, ty, h.1, rfl⟩⟩
theorem dil_line {H : Hp} {a c : Addr} {as as' : List Addr} {ks ks' : List Ask} {b : Bool} (T : LCls K CL fLI fLE fLL fLA fLN fLK fLR fLP) (A : LineAt CL CA H a as ks) (A' : LineAt CL CA H c as' ks') (hb : b = decide (ks = ks')) : DIn K CL (RL K CL CA) (.ref a) (.ref c) H b := by
  obtain ⟨dx, fs, hI⟩ := A.ins
  obtain ⟨dx', fs', hI'⟩ := A'.ins
  exact ⟨a, dx, fs, .ref CL, rfl, hI, tyx_ask T.ins hI', by simp [PySem.W.notFirst], as, ks, A, .inl ⟨c, as', ks', rfl, A', hb⟩⟩
theorem dil_oth {H : Hp} {a : Addr} {as : List Addr} {ks : List Ask} {y : V} {t : Value} (A : LineAt CL CA H a as ks) (ty : TyX K H y t) (h : PySem.W.kitOne K t (.ref CL) = some false ∧ PySem.W.notFirst K CL t = true) : DIn K CL (RL K CL CA) (.ref a) y H false := by
  obtain ⟨dx, fs, hI⟩ := A.ins
  exact ⟨a, dx, fs, t, rfl, hI, ty, h.2, as, ks, A, .inr ⟨t, ty, h.1, rfl⟩⟩
end
/-- != of two lists of the very same objects -/
def rNeId (K : PySem.W.Frag) : R2 := fun x y H Q => ∃ (a b : Addr) (xs : List Addr), x = .ref a ∧ y = .ref b ∧ SqL K H a (xs.map V.ref) ∧ SqL K H b (xs.map V.ref) ∧ Q (.bl false) H
theorem op_neId {X : Cx} (hu : X.A.units < cLine) : OpR X (compareOp .NotEq) (rNeId X.K) := by
  intro pins s σ H x y u v Q I rx ry hq
  obtain ⟨a, b, xs, rfl, rfl, ha, hb, q⟩ := hq
  cases rx
  cases ry
  obtain ⟨its, r1, l1, _⟩ := I.list ha
  obtain ⟨its2, r2, l2, _⟩ := I.list hb
  have e : its = its2 := by
    have key : ∀ (ys : List Addr) (us vs : List Value), Vals (ys.map V.ref) us → Vals (ys.map V.ref) vs → us = vs := by
      intro ys
      induction ys with
      | nil =>
        intro us vs h1 h2
        cases h1
        cases h2
        rfl
      | cons y ys ih =>
        intro us vs h1 h2
        cases h1 with
        | cons p q =>
          cases h2 with
          | cons p' q' =>
            rw [ih _ _ q q', show _ = _ from p, show _ = _ from p']
    exact key xs its its2 r1 r2
  subst e
  have q2 := SeqAt.RcNeAt.lists (A := X.A) (e := fun _ => true) l1.isList l2.isList rfl hu fun j h1 h2 => by
    have hj : j < its.length := by simpa using h1
    have hx : j < xs.length := by
      have := r1.length
      rw [List.length_map] at this
      omega
    obtain ⟨w, hw, rw'⟩ := r1.get (x := .ref xs[j]) (i := j) (by rw [List.getElem?_map, List.getElem?_eq_getElem hx] <;> rfl)
    have e2 : its.toArray[j] = w := by
      have := List.getElem?_eq_getElem hj
      rw [hw] at this
      simpa using (Option.some.inj this).symm
    obtain rfl : w = Value.ref xs[j] := rw'
    show SeqAt.EqAt _ _ its.toArray[j] its.toArray[j] true
    rw [e2]
    exact SeqAt.EqAt.same _
  have ea : (!(List.range its.toArray.size).all fun _ => true) = false := by simp
  rw [ea] at q2
  exact q2 X.prog X.w X.xe _ ⟨.bl false, H, I, rfl, q⟩
/-- a slice of a tuple: some tuple of these -/
def rSlQ (K : PySem.W.Frag) : V → Option Int → Option Int → Hp → VK → Prop := fun x lo hi H Q => ∃ (a : Addr) (xs : List V), x = .ref a ∧ SqT K H a xs ∧ ∀ (p : Addr) (H' : Hp), Same H H' → SqT K H' p (cutV xs lo hi) → Q (.ref p) H'
theorem sl_tupQ {X : Cx} : SlR X (rSlQ X.K) := by
  intro pins s σ H x v vl vu lo hi sl Q I rx hs pl pu hq
  obtain ⟨a, xs, rfl, ha, q⟩ := hq
  refine sl_tupA pins s σ H (.ref a) v vl vu lo hi sl Q I rx hs pl pu ⟨a, xs, rfl, ha, fun full => ?_, fun _ p np => q p _ (Same.fresh np) (SqT.of upd_same)⟩
  refine q a H (Same.refl _) ?_
  have e : cutV xs lo hi = xs := by
    unfold cutV
    rw [full.1, full.2]
    simp
  rw [e]
  exact ha
end Eld
end L2

set_option Elab.async false
set_option linter.all false
set_option maxRecDepth 100000
set_option maxHeartbeats 4000000
/-! ## lines changed -/
namespace L2
namespace Eld
open PySem PySem.Spec PyProof.Rows PySem.EldX
structure LCls2 (K : PySem.W.Frag) (C fW fI2 fM2 fC2 fO2 : Addr) : Prop where
  mW : Meth K C "without" fW
  mI : Meth K C "put_in" fI2
  mM : Meth K C "moved" fM2
  mC : Meth K C "changed" fC2
  mO : Meth K C "ordered" fO2
theorem cut_to {as : List Addr} {i : Nat} (h : i ≤ as.length) : cutV (as.map V.ref) none (some (i : Int)) = (as.take i).map V.ref := by
  rw [cutV_map, HT.sIx_none, HT.sIx_nat, Nat.min_eq_left h]
  simp
theorem cut_from {as : List Addr} {i : Nat} (h : i ≤ as.length) : cutV (as.map V.ref) (some (i : Int)) none = (as.drop i).map V.ref := by
  rw [cutV_map, HT.sIx_none, HT.sIx_nat, Nat.min_eq_left h, List.take_of_length_le (Nat.le_of_eq List.length_drop)]
theorem LineAt.nofld {CL CA : Addr} {H : Hp} {a : Addr} {as : List Addr} {ks : List Ask} {dx : Addr} {xf : List (Str × V)} (h : LineAt CL CA H a as ks) (e : H a = some (.ins CL dx xf)) (m : Str) (hm : ("_askers" : Str) ≠ m) : xf.lookup m = none := by
  obtain ⟨dx', t', h1, _⟩ := h
  rw [h1] at e
  cases e
  have : (m == ("_askers" : Str)) = false := by simpa using fun z => hm z.symm
  simp [List.lookup, this]
theorem LineAt.asks {CL CA : Addr} {H : Hp} {a : Addr} {as : List Addr} {ks : List Ask} (h : LineAt CL CA H a as ks) : Asks CA H as ks := let ⟨_, _, _, _, h3⟩ := h; h3
/-- put in between -/
abbrev ins3 {α : Type} (xs : List α) (i j : Nat) (y : α) : List α := xs.take i ++ ([y] ++ xs.drop j)
theorem Asks.ins3 {C : Addr} {H : Hp} {as : List Addr} {ks : List Ask} {b : Addr} {k : Ask} (h : Asks C H as ks) (A : AskAt C H b k) (i j : Nat) : Asks C H (ins3 as i j b) (ins3 ks i j k) := (h.take i).append (.cons A (h.drop j))
section
variable {P : Program} {w : World} {K : PySem.W.Frag} {mg : Str → Option Value} {base : Heap} {CA fI pN gN pF gF pM gM fE CL fLI fLE fLL fLA fLN fLK fLR fLP fW fI2 fM2 fC2 fO2 : Addr}
/-! ### need_asker, is_count -/
def spNeed (CA : Addr) : Sp := fun vs H Q _ => ∃ (a : Addr) (k : Ask), vs = [.ref a] ∧ AskAt CA H a k ∧ Q .non H
theorem ok_need {f : Addr} {fd : FuncData} {k : Nat} (F : Fun K "need_asker" "need_asker" sNeedAsker f fd) (B : Blt mg) (TA : ACls K CA fI pN gN pF gF pM gM fE) (gA : mg "Asker" = some (.ref CA)) : FnOk P w K mg base CX0 (k + 1) f fd ["value"] (spNeed CA) := by
  refine F.ok scNeedAsker (fun vs H Q E h => ?_) (fun cdv A outer s H vs Q E hr h => ?_)
  · obtain ⟨a, k, rfl, _⟩ := h
    rfl
  · obtain ⟨a, k, rfl, A, q⟩ := h
    obtain ⟨dx, fs, hI⟩ := A.ins
    refine ⟨_, (pss_one (ps_if (pt_not (pt_val (pe_callB call_isi (by rfl) B.isinstance (by decide +kernel) (pa_cons (pv 0) (pa_cons (pe_glob (v := .ref CA) rfl gA rfl) pa_nil))))) (pss_one (ps_dead _)) pss_nil)), ?_⟩
    exact ⟨.ref a, rfl, .ref a, .ref CA, .ref CA, .ref CA, true, rfl, .own CA, tyx_ask TA.ins hI, TA.ins.me, true, rfl, iteF q⟩
def spCount : Sp := fun vs H Q _ => ∃ i : Int, vs = [.int i] ∧ 0 ≤ i ∧ Q (.bl true) H
theorem ok_count {f f3 f4 : Addr} {fd d3 d4 : FuncData} (F : Fun K "is_count" "is_count" sCount f fd) (C2 : Chk2 K mg f3 f4 d3 d4) (B : Blt mg) : FnOk P w K mg base CX0 2 f fd ["value"] spCount := by
  have GWhole : FnOk P w K mg base CX0 1 f3 d3 ["value"] spWhole := ok_whole C2.Whole B
  refine F.ok scCount (fun vs H Q E h => ?_) (fun cdv A outer s H vs Q E hr h => ?_)
  · obtain ⟨i, rfl, _⟩ := h
    rfl
  · obtain ⟨i, rfl, h0, q⟩ := h
    refine ⟨_, (pss_one (ps_ret (pe_and (pe_call GWhole (hr.mono (by decide)) (by rfl) C2.gWhole C2.Whole.kp C2.bWhole .nil pass0 (pa_cons (pv 0) pa_nil)) (pe_one (pe_cmpR op_ge (pv 0) pe_int (nomark _)))))), ?_⟩
    refine ⟨.int i, rfl, i, rfl, true, rfl, iteT ⟨.int i, rfl, i, 0, rfl, rfl, ?_⟩⟩
    show Q (V.bl (decide (0 ≤ i))) H
    rw [decide_eq_true h0]
    exact q
/-! ### without -/
def spWithout (CL CA : Addr) : Sp := fun vs H Q _ => ∃ (a : Addr) (as : List Addr) (ks : List Ask) (j : Nat) (k : Ask), vs = [.ref a, .str k.nm] ∧ LineAt CL CA H a as ks ∧ ks.length ≤ 900 ∧ (ks.map Ask.nm).Nodup ∧ ks[j]? = some k ∧
  ∀ (H' : Hp) (b : Addr), Same H H' → LineAt CL CA H' b (as.take j ++ as.drop (j + 1)) (ks.take j ++ ks.drop (j + 1)) → Q (.ref b) H'
theorem drop_sub {α : Type} (xs : List α) (j : Nat) : (xs.take j ++ xs.drop (j + 1)).Sublist xs := by
  have e : xs.drop (j + 1) = (xs.drop j).drop 1 := by rw [List.drop_drop]
  rw [e]
  have z := (List.Sublist.refl (xs.take j)).append (List.drop_sublist 1 (xs.drop j))
  rwa [List.take_append_drop] at z
theorem ok_without {f : Addr} {fd dAN dLN dLP dLI : FuncData} (F : Fun K "without" "Line.without" sLWithout f fd) (B : Blt mg) (TA : ACls K CA fI pN gN pF gF pM gM fE) (FAN : Fun K "name" "Asker.name" sAName gN dAN) (T : LCls K CL fLI fLE fLL fLA fLN fLK fLR fLP) (gL : mg "Line" = some (.ref CL)) (FLN : Fun K "names" "Line.names" sLNames fLN dLN) (FLP : Fun K "place" "Line.place" sLPlace fLP dLP)
    (GLInit : FnOk P w K mg base CX0 4 fLI dLI ["self", "askers"] (spLInit K CL CA)) (bLInit : Binds K dLI ["self", "askers"] []) : FnOk P w K mg base CX0 6 f fd ["self", "name"] (spWithout CL CA) := by
  have GLPlace : FnOk P w K mg base CX0 4 fLP dLP ["self", "name"] (spLPlace CL CA) := ok_lplace FLP B TA FAN T FLN
  have bLPlace : Binds K dLP ["self", "name"] [] := FLP.binds fun _ _ _ _ _ _ us hl => match us, hl with | [_, _], _ => rfl
  refine F.ok scLWithout (fun vs H Q E h => ?_) (fun cdv A outer s H vs Q E hr h => ?_)
  · obtain ⟨a, as, ks, j, k, rfl, _⟩ := h
    rfl
  · obtain ⟨a, as, ks, j, k, rfl, hL, hz, hnd, hj, q⟩ := h
    obtain ⟨dx, t, h1, h2, h3⟩ := id hL
    have hjl : j < ks.length := (List.getElem?_eq_some_iff.mp hj).1
    have hla := h3.len
    refine ⟨_, (pss_cons (ps_set (i := 2) scLWithout.nd rfl (.inl rfl) (pe_meth (pv 0) T.ins.cl T.mP GLPlace (hr.mono (by decide)) bLPlace .nil pass0 (pa_cons (pv 1) pa_nil)))
      (pss_one (ps_ret (pe_make T.make GLInit (hr.mono (by decide)) (by rfl) gL bLInit .nil pass0 (pa_cons (pe_lst (StX.pa_star (pe_slice sl_tupQ (pe_fld (pv 0) rfl) po_none (po_some (pv 2))) (StX.pa_star (pe_slice sl_tupQ (pe_fld (pv 0) rfl) (po_some (pe_op op_add (pv 2) pe_int)) po_none) pa_nil))) pa_nil))))), ?_⟩
    refine ⟨.ref a, rfl, a, dx, _, rfl, h1, rfl, .str k.nm, rfl, a, as, ks, k.nm, j, k, rfl, hL, by omega, hnd, hj, rfl, fun H1 s1 => ?_⟩
    refine ⟨.ref a, rfl, a, CL, dx, _, _, rfl, s1 _ _ h1, T.ins.cl, T.noA, rfl, .int j, rfl, j, rfl, t, _, rfl, SqT.of (s1 _ _ h2), fun p1 H2 s2 e2 => ⟨p1, _, rfl, .inl e2, ?_⟩⟩
    have t2 := s1.trans s2
    refine ⟨.ref a, rfl, a, CL, dx, _, _, rfl, t2 _ _ h1, T.ins.cl, T.noA, rfl, .int j, rfl, j, 1, rfl, rfl, _, rfl, t, _, rfl, SqT.of (t2 _ _ h2), fun p2 H3 s3 e3 => ⟨p2, _, rfl, .inl e3, ?_⟩⟩
    have el : cutV (as.map V.ref) none (some (j : Int)) ++ (cutV (as.map V.ref) (some ((j : Int) + 1)) none ++ []) = (as.take j ++ as.drop (j + 1)).map V.ref := by
      rw [show ((j : Int) + 1) = ((j + 1 : Nat) : Int) by omega, cut_to (by omega), cut_from (by omega), List.append_nil, ← List.map_append]
    refine ⟨by rw [el, List.length_map, List.length_append, List.length_take, List.length_drop, sizeLine_eq]; omega, fun l nl => ?_⟩
    rw [el]
    have t3 := t2.trans (s3.trans (Same.fresh (o := .lst ((as.take j ++ as.drop (j + 1)).map V.ref)) nl))
    have h3' := h3.same t3
    refine made_line (SqL.of upd_same) ((h3'.take j).append (h3'.drop (j + 1))) (by rw [List.length_append, List.length_take, List.length_drop]; omega) (hnd.sublist ((drop_sub ks j).map _)) fun H4 b s4 nb LB => ?_
    exact q H4 b (t3.trans s4) LB
/-! ### put_in -/
def spPutIn (CL CA : Addr) : Sp := fun vs H Q _ => ∃ (a b : Addr) (as : List Addr) (ks : List Ask) (k : Ask) (i : Nat), vs = [.ref a, .ref b, .int i] ∧ LineAt CL CA H a as ks ∧ AskAt CA H b k ∧ ks.length ≤ 900 ∧ (ks.map Ask.nm).Nodup ∧ k.nm ∉ ks.map Ask.nm ∧ i ≤ ks.length ∧
  ∀ (H' : Hp) (c : Addr), Same H H' → LineAt CL CA H' c (ins3 as i i b) (ins3 ks i i k) → Q (.ref c) H'
theorem perm_ins {α : Type} (xs : List α) (i : Nat) (y : α) : (ins3 xs i i y).Perm (xs ++ [y]) := by
  have := perm_insert xs i y
  rwa [List.append_assoc] at this
theorem ok_putIn {f f3 f4 fNeed fCount : Addr} {fd d3 d4 dNeed dCount dAN dLN dLI : FuncData} (F : Fun K "put_in" "Line.put_in" sLPutIn f fd) (B : Blt mg) (C2 : Chk2 K mg f3 f4 d3 d4) (FNeed : Fun K "need_asker" "need_asker" sNeedAsker fNeed dNeed) (gNeed : mg "need_asker" = some (.ref fNeed)) (FCount : Fun K "is_count" "is_count" sCount fCount dCount) (gCount : mg "is_count" = some (.ref fCount))
    (TA : ACls K CA fI pN gN pF gF pM gM fE) (gA : mg "Asker" = some (.ref CA)) (FAN : Fun K "name" "Asker.name" sAName gN dAN) (T : LCls K CL fLI fLE fLL fLA fLN fLK fLR fLP) (gL : mg "Line" = some (.ref CL)) (FLN : Fun K "names" "Line.names" sLNames fLN dLN)
    (GLInit : FnOk P w K mg base CX0 4 fLI dLI ["self", "askers"] (spLInit K CL CA)) (bLInit : Binds K dLI ["self", "askers"] []) : FnOk P w K mg base CX0 6 f fd ["self", "asker", "place"] (spPutIn CL CA) := by
  have GLNames : FnOk P w K mg base CX0 3 fLN dLN ["self"] (spLNames CL CA) := ok_lnames FLN TA FAN T
  have bLNames : Binds K dLN ["self"] [] := FLN.binds fun _ _ _ _ _ _ us hl => match us, hl with | [_], _ => rfl
  have GAName : FnOk P w K mg base CX0 1 gN dAN ["self"] (spAName CA) := ok_aname FAN TA
  have bAName : Binds K dAN ["self"] [] := FAN.binds fun _ _ _ _ _ _ us hl => match us, hl with | [_], _ => rfl
  have GNeed : FnOk P w K mg base CX0 1 fNeed dNeed ["value"] (spNeed CA) := ok_need FNeed B TA gA
  have bNeed : Binds K dNeed ["value"] [] := FNeed.binds fun _ _ _ _ _ _ us hl => match us, hl with | [_], _ => rfl
  have GCount : FnOk P w K mg base CX0 2 fCount dCount ["value"] spCount := ok_count FCount C2 B
  have bCount : Binds K dCount ["value"] [] := FCount.binds fun _ _ _ _ _ _ us hl => match us, hl with | [_], _ => rfl
  refine F.ok scLPutIn (fun vs H Q E h => ?_) (fun cdv A outer s H vs Q E hr h => ?_)
  · obtain ⟨a, b, as, ks, k, i, rfl, _⟩ := h
    rfl
  · obtain ⟨a, b, as, ks, k, i, rfl, hL, hA, hz, hnd, hno, hi, q⟩ := h
    obtain ⟨dx, t, h1, h2, h3⟩ := id hL
    obtain ⟨dy, fs, hI⟩ := hA.ins
    have hla := h3.len
    refine ⟨_, (pss_cons (ps_expr (pe_call GNeed (hr.mono (by decide)) (by rfl) gNeed FNeed.kp bNeed .nil pass0 (pa_cons (pv 1) pa_nil)))
      (pss_cons (ps_if (pt_cmpR op_in_seq (pe_prop (pv 1) TA.ins.cl TA.pN GAName (hr.mono (by decide)) bAName .nil pass0 rfl) (pe_meth0 (pv 0) T.ins.cl T.mN GLNames (hr.mono (by decide)) bLNames .nil pass0) (by rfl)) (pss_one (ps_dead _)) pss_nil)
      (pss_cons (ps_if (PW.pt (pw_or (pt_not (pt_val (pe_call GCount (hr.mono (by decide)) (by rfl) gCount FCount.kp bCount .nil pass0 (pa_cons (pv 2) pa_nil)))) (pw_or1 (pt_cmpR op_gt (pv 2) (pe_callB call_len_seq (by rfl) B.len PySem.boot_len (pa_cons (pe_fld (pv 0) rfl) pa_nil)) (nomark _))))) (pss_one (ps_dead _)) pss_nil)
      (pss_one (ps_ret (pe_make T.make GLInit (hr.mono (by decide)) (by rfl) gL bLInit .nil pass0 (pa_cons (pe_lst (StX.pa_star (pe_slice sl_tupQ (pe_fld (pv 0) rfl) po_none (po_some (pv 2))) (pa_cons (pv 1) (StX.pa_star (pe_slice sl_tupQ (pe_fld (pv 0) rfl) (po_some (pv 2)) po_none) pa_nil)))) pa_nil))))))), ?_⟩
    refine ⟨.ref b, rfl, b, k, rfl, hA, .ref b, rfl, b, dy, fs, rfl, hI, b, k, rfl, hA, .ref a, rfl, a, dx, _, rfl, h1, rfl, a, as, ks, rfl, hL, by omega, fun H1 p s1 np e1 => ?_⟩
    refine ⟨p, _, rfl, .inl (SqL.of e1), rfl, strs_flat _, _, rfl, ?_⟩
    rw [inV_strs, decide_eq_false hno]
    refine iteF ⟨.int i, rfl, i, rfl, by omega, true, rfl, iteF ?_⟩
    refine ⟨.int i, rfl, .ref a, rfl, a, CL, dx, _, _, rfl, s1 _ _ h1, T.ins.cl, T.noA, rfl, t, _, rfl, .inr (SqT.of (s1 _ _ h2)), _, _, rfl, rfl, _, rfl, ?_⟩
    rw [List.length_map, hla, decide_eq_false (by omega : ¬ ((ks.length : Nat) : Int) < (i : Int))]
    refine iteF ⟨.ref a, rfl, a, CL, dx, _, _, rfl, s1 _ _ h1, T.ins.cl, T.noA, rfl, .int i, rfl, i, rfl, t, _, rfl, SqT.of (s1 _ _ h2), fun p1 H2 s2 e2 => ⟨p1, _, rfl, .inl e2, .ref b, rfl, ?_⟩⟩
    have t2 := s1.trans s2
    refine ⟨.ref a, rfl, a, CL, dx, _, _, rfl, t2 _ _ h1, T.ins.cl, T.noA, rfl, .int i, rfl, i, rfl, t, _, rfl, SqT.of (t2 _ _ h2), fun p2 H3 s3 e3 => ⟨p2, _, rfl, .inl e3, ?_⟩⟩
    have er : cutV (as.map V.ref) none (some (i : Int)) ++ (V.ref b :: (cutV (as.map V.ref) (some (i : Int)) none ++ [])) = (ins3 as i i b).map V.ref := by
      rw [cut_to (by omega), cut_from (by omega), List.append_nil, List.map_append, List.map_append] <;> rfl
    refine ⟨by rw [er, List.length_map, (perm_ins as i b).length_eq, List.length_append, sizeLine_eq]; show as.length + 1 ≤ _; omega, fun l nl => ?_⟩
    rw [er]
    have t3 := t2.trans (s3.trans (Same.fresh (o := .lst ((ins3 as i i b).map V.ref)) nl))
    have pn : ((ins3 ks i i k).map Ask.nm).Nodup := by
      refine (((perm_ins ks i k).map Ask.nm).nodup_iff).mpr ?_
      rw [List.map_append, List.nodup_append]
      refine ⟨hnd, List.nodup_cons.mpr ⟨List.not_mem_nil, List.nodup_nil⟩, fun u hu v hv e => ?_⟩
      rw [List.mem_singleton.mp (show v ∈ [k.nm] from hv)] at e
      exact hno (e ▸ hu)
    refine made_line (SqL.of upd_same) ((h3.same t3).ins3 (hA.same t3) i i) (by rw [(perm_ins ks i k).length_eq, List.length_append]; show ks.length + 1 ≤ _; omega) pn fun H4 c s4 nc LC => ?_
    exact q H4 c (t3.trans s4) LC
end
end Eld
end L2

set_option Elab.async false
set_option linter.all false
set_option maxRecDepth 100000
set_option maxHeartbeats 4000000
/-! ## lines changed: moved, changed, ordered -/
namespace L2
namespace Eld
open PySem PySem.Spec PyProof.Rows PySem.EldX
section
variable {P : Program} {w : World} {K : PySem.W.Frag} {mg : Str → Option Value} {base : Heap} {CA fI pN gN pF gF pM gM fE CL fLI fLE fLL fLA fLN fLK fLR fLP fW fI2 fM2 fC2 fO2 : Addr}
theorem split_at {α : Type} {xs : List α} {j : Nat} {x : α} (h : xs[j]? = some x) : xs = xs.take j ++ ([x] ++ xs.drop (j + 1)) := by
  obtain ⟨l, e⟩ := List.getElem?_eq_some_iff.mp h
  have z := List.drop_eq_getElem_cons l
  rw [e] at z
  have y := List.take_append_drop j xs
  rw [z] at y
  exact y.symm
theorem not_in_rest {ks : List Ask} {j : Nat} {k : Ask} (hnd : (ks.map Ask.nm).Nodup) (hj : ks[j]? = some k) : k.nm ∉ (ks.take j ++ ks.drop (j + 1)).map Ask.nm := by
  have e := congrArg (List.map Ask.nm) (split_at hj)
  rw [List.map_append, List.map_append] at e
  rw [e] at hnd
  intro hm
  rw [List.map_append] at hm
  obtain ⟨h1, h2, h3⟩ := List.nodup_append.mp hnd
  rcases List.mem_append.mp hm with z | z
  · exact h3 _ z _ (List.mem_append_left _ (List.mem_singleton.mpr rfl)) rfl
  · exact (List.nodup_cons.mp (show (k.nm :: (ks.drop (j + 1)).map Ask.nm).Nodup from h2)).1 z
/-! ### moved -/
def spMoved (CL CA : Addr) : Sp := fun vs H Q _ => ∃ (a b : Addr) (as : List Addr) (ks : List Ask) (j : Nat) (k : Ask) (i : Nat), vs = [.ref a, .str k.nm, .int i] ∧ LineAt CL CA H a as ks ∧ ks.length ≤ 800 ∧ (ks.map Ask.nm).Nodup ∧ ks[j]? = some k ∧ as[j]? = some b ∧ i < ks.length ∧
  ∀ (H' : Hp) (c : Addr), Same H H' → LineAt CL CA H' c (ins3 (as.take j ++ as.drop (j + 1)) i i b) (ins3 (ks.take j ++ ks.drop (j + 1)) i i k) → Q (.ref c) H'
theorem ok_moved {f : Addr} {fd dAN dLN dLP dLR dW dI2 : FuncData} (F : Fun K "moved" "Line.moved" sLMoved f fd) (B : Blt mg) (TA : ACls K CA fI pN gN pF gF pM gM fE) (FAN : Fun K "name" "Asker.name" sAName gN dAN) (T : LCls K CL fLI fLE fLL fLA fLN fLK fLR fLP) (T2 : LCls2 K CL fW fI2 fM2 fC2 fO2) (FLN : Fun K "names" "Line.names" sLNames fLN dLN) (FLP : Fun K "place" "Line.place" sLPlace fLP dLP) (FLR : Fun K "asker" "Line.asker" sLAsk fLR dLR)
    (GWithout : FnOk P w K mg base CX0 6 fW dW ["self", "name"] (spWithout CL CA)) (bWithout : Binds K dW ["self", "name"] []) (GPutIn : FnOk P w K mg base CX0 6 fI2 dI2 ["self", "asker", "place"] (spPutIn CL CA)) (bPutIn : Binds K dI2 ["self", "asker", "place"] []) :
    FnOk P w K mg base CX0 7 f fd ["self", "name", "place"] (spMoved CL CA) := by
  have GLAsk : FnOk P w K mg base CX0 5 fLR dLR ["self", "name"] (spLAsk CL CA) := ok_lask FLR B TA FAN T FLN FLP
  have bLAsk : Binds K dLR ["self", "name"] [] := FLR.binds fun _ _ _ _ _ _ us hl => match us, hl with | [_, _], _ => rfl
  refine F.ok scLMoved (fun vs H Q E h => ?_) (fun cdv A outer s H vs Q E hr h => ?_)
  · obtain ⟨a, b, as, ks, j, k, i, rfl, _⟩ := h
    rfl
  · obtain ⟨a, b, as, ks, j, k, i, rfl, hL, hz, hnd, hj, hb, hi, q⟩ := h
    obtain ⟨dx, fs, h1⟩ := hL.ins
    have hjl : j < ks.length := (List.getElem?_eq_some_iff.mp hj).1
    obtain ⟨k', hk', hA⟩ := hL.asks.get hb
    obtain rfl : k = k' := by
      rw [hj] at hk'
      exact Option.some.inj hk'
    refine ⟨_, (pss_one (ps_ret (pe_meth (pe_meth (pv 0) T.ins.cl T2.mW GWithout (hr.mono (by decide)) bWithout .nil pass0 (pa_cons (pv 1) pa_nil)) T.ins.cl T2.mI GPutIn (hr.mono (by decide)) bPutIn .nil pass0 (pa_cons (pe_meth (pv 0) T.ins.cl T.mR GLAsk (hr.mono (by decide)) bLAsk .nil pass0 (pa_cons (pv 1) pa_nil)) (pa_cons (pv 2) pa_nil))))), ?_⟩
    refine ⟨.ref a, rfl, a, dx, fs, rfl, h1, hL.nofld h1 _ (by decide), .str k.nm, rfl, a, as, ks, j, k, rfl, hL, by omega, hnd, hj, fun H1 b1 s1 LB => ?_⟩
    obtain ⟨dx1, fs1, I1⟩ := LB.ins
    refine ⟨b1, dx1, fs1, rfl, I1, LB.nofld I1 _ (by decide), .ref a, rfl, a, dx, fs, rfl, s1 _ _ h1, hL.nofld h1 _ (by decide), .str k.nm, rfl, a, as, ks, k.nm, j, k, b, rfl, hL.same s1, by omega, hnd, hj, rfl, hb, fun H2 s2 => ?_⟩
    refine ⟨.int i, rfl, b1, b, _, _, k, i, rfl, LB.same s2, hA.same (s1.trans s2), ?_, hnd.sublist ((drop_sub ks j).map _), not_in_rest hnd hj, ?_, fun H3 c s3 LC => q H3 c (s1.trans (s2.trans s3)) LC⟩
    · rw [List.length_append, List.length_take, List.length_drop]
      omega
    · rw [List.length_append, List.length_take, List.length_drop]
      omega
/-! ### changed -/
def spChanged (CL CA : Addr) : Sp := fun vs H Q _ => ∃ (a b : Addr) (as : List Addr) (ks : List Ask) (j : Nat) (k0 k : Ask), vs = [.ref a, .ref b] ∧ LineAt CL CA H a as ks ∧ AskAt CA H b k ∧ ks.length ≤ 800 ∧ (ks.map Ask.nm).Nodup ∧ ks[j]? = some k0 ∧ k0.nm = k.nm ∧
  ∀ (H' : Hp) (c : Addr), Same H H' → LineAt CL CA H' c (ins3 as j (j + 1) b) (ins3 ks j (j + 1) k) → Q (.ref c) H'
theorem names_kept {ks : List Ask} {j : Nat} {k0 k : Ask} (hj : ks[j]? = some k0) (e : k0.nm = k.nm) : (ins3 ks j (j + 1) k).map Ask.nm = ks.map Ask.nm := by
  have z := congrArg (List.map Ask.nm) (split_at hj)
  rw [z, List.map_append, List.map_append, List.map_append, List.map_append]
  show _ ++ ([k.nm] ++ _) = _ ++ ([k0.nm] ++ _)
  rw [e]
theorem ok_changed {f fNeed : Addr} {fd dNeed dAN dLN dLP dLI : FuncData} (F : Fun K "changed" "Line.changed" sLChanged f fd) (B : Blt mg) (FNeed : Fun K "need_asker" "need_asker" sNeedAsker fNeed dNeed) (gNeed : mg "need_asker" = some (.ref fNeed)) (TA : ACls K CA fI pN gN pF gF pM gM fE) (gA : mg "Asker" = some (.ref CA)) (FAN : Fun K "name" "Asker.name" sAName gN dAN) (T : LCls K CL fLI fLE fLL fLA fLN fLK fLR fLP) (gL : mg "Line" = some (.ref CL))
    (FLN : Fun K "names" "Line.names" sLNames fLN dLN) (FLP : Fun K "place" "Line.place" sLPlace fLP dLP) (GLInit : FnOk P w K mg base CX0 4 fLI dLI ["self", "askers"] (spLInit K CL CA)) (bLInit : Binds K dLI ["self", "askers"] []) : FnOk P w K mg base CX0 6 f fd ["self", "asker"] (spChanged CL CA) := by
  have GLPlace : FnOk P w K mg base CX0 4 fLP dLP ["self", "name"] (spLPlace CL CA) := ok_lplace FLP B TA FAN T FLN
  have bLPlace : Binds K dLP ["self", "name"] [] := FLP.binds fun _ _ _ _ _ _ us hl => match us, hl with | [_, _], _ => rfl
  have GAName : FnOk P w K mg base CX0 1 gN dAN ["self"] (spAName CA) := ok_aname FAN TA
  have bAName : Binds K dAN ["self"] [] := FAN.binds fun _ _ _ _ _ _ us hl => match us, hl with | [_], _ => rfl
  have GNeed : FnOk P w K mg base CX0 1 fNeed dNeed ["value"] (spNeed CA) := ok_need FNeed B TA gA
  have bNeed : Binds K dNeed ["value"] [] := FNeed.binds fun _ _ _ _ _ _ us hl => match us, hl with | [_], _ => rfl
  refine F.ok scLChanged (fun vs H Q E h => ?_) (fun cdv A outer s H vs Q E hr h => ?_)
  · obtain ⟨a, b, as, ks, j, k0, k, rfl, _⟩ := h
    rfl
  · obtain ⟨a, b, as, ks, j, k0, k, rfl, hL, hA, hz, hnd, hj, hnm, q⟩ := h
    obtain ⟨dx, t, h1, h2, h3⟩ := id hL
    obtain ⟨dy, fs, hI⟩ := hA.ins
    have hla := h3.len
    have hjl : j < ks.length := (List.getElem?_eq_some_iff.mp hj).1
    refine ⟨_, (pss_cons (ps_expr (pe_call GNeed (hr.mono (by decide)) (by rfl) gNeed FNeed.kp bNeed .nil pass0 (pa_cons (pv 1) pa_nil)))
      (pss_cons (ps_set (i := 2) scLChanged.nd rfl (.inl rfl) (pe_meth (pv 0) T.ins.cl T.mP GLPlace (hr.mono (by decide)) bLPlace .nil pass0 (pa_cons (pe_prop (pv 1) TA.ins.cl TA.pN GAName (hr.mono (by decide)) bAName .nil pass0 rfl) pa_nil)))
      (pss_one (ps_ret (pe_make T.make GLInit (hr.mono (by decide)) (by rfl) gL bLInit .nil pass0 (pa_cons (pe_lst (StX.pa_star (pe_slice sl_tupQ (pe_fld (pv 0) rfl) po_none (po_some (pv 2))) (pa_cons (pv 1) (StX.pa_star (pe_slice sl_tupQ (pe_fld (pv 0) rfl) (po_some (pe_op op_add (pv 2) pe_int)) po_none) pa_nil)))) pa_nil)))))), ?_⟩
    refine ⟨.ref b, rfl, b, k, rfl, hA, .ref a, rfl, a, dx, _, rfl, h1, rfl, .ref b, rfl, b, dy, fs, rfl, hI, b, k, rfl, hA, a, as, ks, k.nm, j, k0, rfl, hL, by omega, hnd, hj, hnm, fun H1 s1 => ?_⟩
    refine ⟨.ref a, rfl, a, CL, dx, _, _, rfl, s1 _ _ h1, T.ins.cl, T.noA, rfl, .int j, rfl, j, rfl, t, _, rfl, SqT.of (s1 _ _ h2), fun p1 H2 s2 e2 => ⟨p1, _, rfl, .inl e2, .ref b, rfl, ?_⟩⟩
    have t2 := s1.trans s2
    refine ⟨.ref a, rfl, a, CL, dx, _, _, rfl, t2 _ _ h1, T.ins.cl, T.noA, rfl, .int j, rfl, j, 1, rfl, rfl, _, rfl, t, _, rfl, SqT.of (t2 _ _ h2), fun p2 H3 s3 e3 => ⟨p2, _, rfl, .inl e3, ?_⟩⟩
    have el : cutV (as.map V.ref) none (some (j : Int)) ++ (V.ref b :: (cutV (as.map V.ref) (some ((j : Int) + 1)) none ++ [])) = (ins3 as j (j + 1) b).map V.ref := by
      rw [show ((j : Int) + 1) = ((j + 1 : Nat) : Int) by omega, cut_to (by omega), cut_from (by omega), List.append_nil, List.map_append, List.map_append] <;> rfl
    have l1 : (ins3 as j (j + 1) b).length = as.length := by
      rw [List.length_append, List.length_append, List.length_take, List.length_drop]
      show min j as.length + (1 + _) = _
      omega
    have l2 : (ins3 ks j (j + 1) k).length = ks.length := by
      rw [List.length_append, List.length_append, List.length_take, List.length_drop]
      show min j ks.length + (1 + _) = _
      omega
    refine ⟨by rw [el, List.length_map, l1, sizeLine_eq]; omega, fun l nl => ?_⟩
    rw [el]
    have t3 := t2.trans (s3.trans (Same.fresh (o := .lst ((ins3 as j (j + 1) b).map V.ref)) nl))
    refine made_line (SqL.of upd_same) ((h3.same t3).ins3 (hA.same t3) j (j + 1)) (by omega) (by rw [names_kept hj hnm]; exact hnd) fun H4 c s4 nc LC => ?_
    exact q H4 c (t3.trans s4) LC
/-! ### ordered -/
def spOrdered (K : PySem.W.Frag) (CL CA : Addr) : Sp := fun vs H Q _ => ∃ (a l : Addr) (as : List Addr) (ks : List Ask) (xs : List Str), vs = [.ref a, .ref l] ∧ LineAt CL CA H a as ks ∧ SqL K H l (xs.map V.str) ∧ ks.length < 64 ∧ (ks.map Ask.nm).Nodup ∧ (∀ y ∈ xs, IsWord y) ∧ xs.Perm (ks.map Ask.nm) ∧
  ∀ (H' : Hp) (c : Addr) (bs : List Addr) (ls : List Ask), Same H H' → LineAt CL CA H' c bs ls → bs.length = xs.length → ls.map Ask.nm = xs → (∀ (i : Nat) (b : Addr), bs[i]? = some b → ∃ (j : Nat) (k : Ask), ks[j]? = some k ∧ as[j]? = some b ∧ ls[i]? = some k) → Q (.ref c) H'
theorem ok_ordered {f f1 f2 f3 f4 : Addr} {fd d1 d2 d3 d4 dAN dLN dLP dLR dLI : FuncData} (F : Fun K "ordered" "Line.ordered" sLOrdered f fd) (C1 : Chk K mg f1 f2 d1 d2) (C2 : Chk2 K mg f3 f4 d3 d4) (B : Blt mg) (TA : ACls K CA fI pN gN pF gF pM gM fE) (FAN : Fun K "name" "Asker.name" sAName gN dAN) (T : LCls K CL fLI fLE fLL fLA fLN fLK fLR fLP) (gL : mg "Line" = some (.ref CL))
    (FLN : Fun K "names" "Line.names" sLNames fLN dLN) (FLP : Fun K "place" "Line.place" sLPlace fLP dLP) (FLR : Fun K "asker" "Line.asker" sLAsk fLR dLR) (GLInit : FnOk P w K mg base CX0 4 fLI dLI ["self", "askers"] (spLInit K CL CA)) (bLInit : Binds K dLI ["self", "askers"] []) :
    FnOk P w K mg base CX0 6 f fd ["self", "names"] (spOrdered K CL CA) := by
  have GAreNames : FnOk P w K mg base CX0 2 f4 d4 ["value"] (spAreNames K) := ok_areNames C2.AreNames C1 B
  have GLNames : FnOk P w K mg base CX0 3 fLN dLN ["self"] (spLNames CL CA) := ok_lnames FLN TA FAN T
  have bLNames : Binds K dLN ["self"] [] := FLN.binds fun _ _ _ _ _ _ us hl => match us, hl with | [_], _ => rfl
  have GLAsk : FnOk P w K mg base CX0 5 fLR dLR ["self", "name"] (spLAsk CL CA) := ok_lask FLR B TA FAN T FLN FLP
  have bLAsk : Binds K dLR ["self", "name"] [] := FLR.binds fun _ _ _ _ _ _ us hl => match us, hl with | [_, _], _ => rfl
  refine F.ok scLOrdered (fun vs H Q E h => ?_) (fun cdv A outer s H vs Q E hr h => ?_)
  · obtain ⟨a, l, as, ks, xs, rfl, _⟩ := h
    rfl
  · obtain ⟨a, l, as, ks, xs, rfl, hL, hS, hz, hnd, hw, hp, q⟩ := h
    obtain ⟨dx, fs, h1⟩ := hL.ins
    have hla := hL.asks.len
    have hxl : xs.length = ks.length := by rw [hp.length_eq, List.length_map]
    have hxn : xs.Nodup := hp.nodup_iff.mpr hnd
    refine ⟨_, (pss_cons (ps_if (PW.pt (pw_or (pt_not (pt_val (pe_call GAreNames (hr.mono (by decide)) (by rfl) C2.gAreNames C2.AreNames.kp C2.bAreNames .nil pass0 (pa_cons (pv 1) pa_nil)))) (pw_or1 (pt_cmpR (op_neD hr.units) (pe_callB cr_sortedS (by rfl) B.sorted (by decide +kernel) (pa_cons (pv 1) pa_nil)) (pe_callB cr_sortedS (by rfl) B.sorted (by decide +kernel) (pa_cons (pe_meth0 (pv 0) T.ins.cl T.mN GLNames (hr.mono (by decide)) bLNames .nil pass0) pa_nil)) (nomark _))))) (pss_one (ps_dead _)) pss_nil)
      (pss_one (ps_ret (pe_make T.make GLInit (hr.mono (by decide)) (by rfl) gL bLInit .nil pass0 (pa_cons (pe_lc (own := [("name", 2)]) (g := gName 2) (tt := tYes) rfl scLOrdered.nd (pi_list (pv 1)) (blkOk_by (own := [("name", 2)]) (N := NLOrdered) (sc := defScope sLOrdered) (by decide +kernel)) (fun _ _ _ _ _ => pg_name (i := 2) scLOrdered.nd rfl (.inl rfl)) (fun _ _ _ _ _ => pts_nil) (fun _ _ _ _ _ => (pe_meth (pv 0) T.ins.cl T.mR GLAsk (hr.mono (by decide)) bLAsk .nil pass0 (pa_cons (pv 2) pa_nil)))) pa_nil))))), ?_⟩
    refine ⟨.ref l, rfl, l, xs, rfl, hS, by omega, hw, fun H1 s1 => ⟨_, rfl, ?_⟩⟩
    rw [decide_eq_true hxn]
    refine iteF ⟨.ref l, rfl, l, xs, rfl, s1.seq hS, by omega, fun us p hpu hso np => ?_⟩
    have s2 := Same.fresh (o := .lst (us.map V.str)) np
    have t2 := s1.trans s2
    refine ⟨.ref a, rfl, a, dx, fs, rfl, t2 _ _ h1, hL.nofld h1 _ (by decide), a, as, ks, rfl, hL.same t2, by omega, fun H3 p3 s3 np3 e3 => ?_⟩
    refine ⟨p3, _, rfl, SqL.of e3, by rw [List.length_map]; exact hz, fun vs2 p4 hpv hsv np4 => ?_⟩
    obtain rfl : vs2 = us := sorted_eq (hpv.trans (hp.symm.trans hpu.symm)) hsv hso
    have s4 := Same.fresh (o := .lst (vs2.map V.str)) np4
    have vw : ∀ y ∈ vs2, IsWord y := fun y hy => hw y (hpu.mem_iff.mp hy)
    have sh := shaped_sts vw
    refine ⟨_, _, dp_sts (SqL.of (s4 _ _ (s3 _ _ upd_same))), dp_sts (SqL.of upd_same), sh, sh, _, rfl, ?_⟩
    rw [eqv_same sh]
    have t4 := t2.trans (s3.trans s4)
    generalize upd H3 p4 (.lst (vs2.map V.str)) = H4 at t4
    refine iteF ⟨.ref l, rfl, l, rfl, ⟨_, t4.seq hS⟩, fun D hD => ?_⟩
    refine lc_out (walk_strs (K := K) (a := l) (xs := xs)) (fun i y _ => ∃ (j : Nat) (k : Ask) (b : Addr), y = .ref b ∧ ks[j]? = some k ∧ as[j]? = some b ∧ xs[i]? = some k.nm) (by rw [sizeLine_eq]; omega) hD (fun G sG => (t4.trans sG).seq hS) (fun _ _ _ _ y => y.1) (fun _ _ _ _ _ _ _ o => o) ?_ ?_
    · rintro i v G hi sG ⟨_, hv⟩ R hR
      obtain ⟨x, hx, rfl⟩ := str_at hv
      obtain ⟨k, hk, rfl⟩ := List.mem_map.mp (hp.mem_iff.mp (List.mem_of_getElem? hx))
      obtain ⟨j, hj⟩ := List.mem_iff_getElem?.mp hk
      have hjl : j < ks.length := (List.getElem?_eq_some_iff.mp hj).1
      have hb : as[j]? = some (as[j]'(by omega)) := List.getElem?_eq_getElem (by omega)
      have tG := t4.trans sG
      exact ⟨rfl, .ref a, rfl, a, dx, fs, rfl, tG _ _ h1, hL.nofld h1 _ (by decide), .str k.nm, rfl, a, as, ks, k.nm, j, k, _, rfl, hL.same tG, by omega, hnd, hj, rfl, hb, fun G' s' => hR _ G' s' ⟨j, k, _, rfl, hj, hb, hx⟩⟩
    · intro G acc sG eD hl ho
      obtain ⟨bs, lbs, hbs⟩ := mk_list (fun _ (v : V) (x : Addr) => v = .ref x) acc fun i y e => let ⟨_, _, b, e', _⟩ := ho i y e; ⟨b, e'⟩
      have ea' : acc = bs.map V.ref := eq_map_of lbs.symm fun i y e => let ⟨x, e1, e2⟩ := hbs i y e; ⟨x, e1, e2⟩
      subst ea'
      rw [List.length_map] at hl
      obtain ⟨ls, lls, hls⟩ := mk_list (fun i (b : Addr) (k : Ask) => ∃ j, ks[j]? = some k ∧ as[j]? = some b ∧ xs[i]? = some k.nm) bs fun i b e => by
        obtain ⟨j, k, b', e', r⟩ := ho i (.ref b) (by rw [List.getElem?_map, e] <;> rfl)
        cases e'
        exact ⟨k, j, r⟩
      have tG := t4.trans sG
      have hA : Asks CA G bs ls := asks_of lls.symm fun i b e => by
        obtain ⟨k, e1, j, e2, e3, _⟩ := hls i b e
        obtain ⟨k', e4, A⟩ := (hL.asks.same tG).get e3
        rw [e2] at e4
        cases e4
        exact ⟨k, e1, A⟩
      have enm : ls.map Ask.nm = xs := by
        refine List.ext_getElem? fun i => ?_
        rw [List.getElem?_map]
        rcases Nat.lt_or_ge i bs.length with hi | hi
        · obtain ⟨k, e1, j, _, _, e3⟩ := hls i bs[i] (List.getElem?_eq_getElem hi)
          rw [e1, e3] <;> rfl
        · rw [List.getElem?_eq_none (by omega), List.getElem?_eq_none (by omega)] <;> rfl
      refine made_line (SqL.of eD) hA (by omega) (by rw [enm]; exact hxn) fun G' c s' nc LC => ?_
      refine q G' c bs ls (tG.trans s') LC hl enm fun i b e => ?_
      obtain ⟨k, e1, j, e2, e3, _⟩ := hls i b e
      exact ⟨j, k, e2, e3, e1⟩
end
end Eld
end L2

set_option Elab.async false
set_option linter.all false
set_option maxRecDepth 100000
set_option maxHeartbeats 4000000
/-! ## _law_moved, _law_is_line -/
namespace L2
namespace Eld
open PySem PySem.Spec PyProof.Rows PySem.EldX
section
variable {P : Program} {w : World} {K : PySem.W.Frag} {mg : Str → Option Value} {base : Heap} {CA fI pN gN pF gF pM gM fE CL fLI fLE fLL fLA fLN fLK fLR fLP : Addr}
/-- what keep lets through -/
def pickA (keep : Ask → Bool) (as : List Addr) (ks : List Ask) : List Addr := ((as.zip ks).filter fun p => keep p.2).map Prod.fst
theorem lc_keepA {J : It} {n : Nat} {G : Hp → Prop} {as : List Addr} {ks : List Ask} {keep : Ask → Bool} (w : Walk J n G (YAt (as.map V.ref))) (hn : n = ks.length) {g : TG} {tt : TT} {te : TE} {vs : List Nat} {σ : St} {H1 : Hp} {D : Addr} {Qd : Hp → Prop} (hz : ks.length ≤ 1000) (hD : H1 D = none) (hA : Asks CA H1 as ks) (hG : ∀ H, Same H1 H → G H)
    (hs : ∀ a (k : Ask) H, AskAt CA H a k → ∀ (N : VK) (M : Hp → Prop), (keep k = true → N (.ref a) H) → (keep k = false → M H) → g (.ref a) (wipe σ vs) H fun σ2 H2 => wipe σ2 vs = wipe σ vs ∧ tt σ2 H2 fun b H3 => if b = true then te σ2 H3 N else M H3)
    (hd : ∀ H, Same H1 H → H D = some (.lst ((pickA keep as ks).map V.ref)) → Qd H) :
    ∃ W : Nat → Nat → Hp → Prop, (∃ m, W 0 m (upd H1 D (.lst []))) ∧ ∀ i m H, W i m H →
      (J.stop i H ∧ Qd H) ∨ (J.go i H ∧ ∃ Nx : Hp → Prop, (∀ H', Nx H' → ∃ m', m' < m ∧ W (i + 1) m' H') ∧ ∀ x H', J.yld i H x H' → g x (wipe σ vs) H' fun σ2 H2 => wipe σ2 vs = wipe σ vs ∧ tt σ2 H2 fun b H3 =>
        if b = true then te σ2 H3 fun y H4 => ∃ acc, H4 D = some (.lst acc) ∧ acc.length < sizeLine ∧ Nx (upd H4 D (.lst (acc ++ [y]))) else Nx H3) := by
  subst hn
  have lz : (as.zip ks).length = ks.length := by rw [List.length_zip, hA.len, Nat.min_self]
  refine lc_it w (fun i H => Same H1 H ∧ H D = some (.lst (((((as.zip ks).take i).filter fun p => keep p.2).map Prod.fst).map V.ref))) ⟨Same.fresh hD, by rw [upd_same]; rfl⟩ (fun i H _ p => hG H p.1) ?_ fun H p => hd H p.1 (by rw [p.2, List.take_of_length_le (Nat.le_of_eq lz)]; rfl)
  rintro i v H H' hi ⟨s, e⟩ ⟨rfl, hv⟩
  obtain ⟨a, ha, rfl⟩ := ref_at hv
  obtain ⟨k, hk, hAk⟩ := hA.get ha
  have hx : (as.zip ks)[i]? = some (a, k) := List.getElem?_zip_eq_some.mpr ⟨ha, hk⟩
  have et : (as.zip ks).take (i + 1) = (as.zip ks).take i ++ [(a, k)] := by rw [List.take_add_one, hx]; rfl
  refine hs a k H' (hAk.same s) _ _ (fun hk => ?_) fun hk => ?_
  · refine ⟨_, e, ?_, s.put hD, ?_⟩
    · rw [List.length_map, List.length_map, sizeLine_eq]
      have := List.length_filter_le (fun p => keep p.2) ((as.zip ks).take i)
      rw [List.length_take] at this
      omega
    · rw [upd_same, et, List.filter_append, List.map_append, List.map_append]
      simp [hk]
  · refine ⟨s, ?_⟩
    rw [e, et, List.filter_append]
    simp [hk]
/-- a comprehension of which no test holds; what is tracked stays -/
theorem lc_noneS {J : It} {n : Nat} {G : Hp → Prop} {xs : List V} (w : Walk J n G (YAt xs)) {g : TG} {tt : TT} {te : TE} {vs : List Nat} {σ : St} {H1 : Hp} {D : Addr} {Qd : Hp → Prop} (hD : H1 D = none) (hG : ∀ H, Same H1 H → G H)
    (hs : ∀ x H, Same H1 H → x ∈ xs → ∀ (N : VK) (M : Hp → Prop), (∀ H', Same H H' → M H') → g x (wipe σ vs) H fun σ2 H2 => wipe σ2 vs = wipe σ vs ∧ tt σ2 H2 fun b H3 => if b = true then te σ2 H3 N else M H3)
    (hd : ∀ H, Same H1 H → H D = some (.lst []) → Qd H) :
    ∃ W : Nat → Nat → Hp → Prop, (∃ m, W 0 m (upd H1 D (.lst []))) ∧ ∀ i m H, W i m H →
      (J.stop i H ∧ Qd H) ∨ (J.go i H ∧ ∃ Nx : Hp → Prop, (∀ H', Nx H' → ∃ m', m' < m ∧ W (i + 1) m' H') ∧ ∀ x H', J.yld i H x H' → g x (wipe σ vs) H' fun σ2 H2 => wipe σ2 vs = wipe σ vs ∧ tt σ2 H2 fun b H3 =>
        if b = true then te σ2 H3 fun y H4 => ∃ acc, H4 D = some (.lst acc) ∧ acc.length < sizeLine ∧ Nx (upd H4 D (.lst (acc ++ [y]))) else Nx H3) := by
  refine lc_it w (fun i H => Same H1 H ∧ H D = some (.lst [])) ⟨Same.fresh hD, upd_same⟩ (fun i H _ p => hG H p.1) ?_ fun H p => hd H p.1 p.2
  rintro i x H H' hi ⟨s, e⟩ ⟨rfl, hx⟩
  exact hs x H' s (List.mem_of_getElem? hx) _ _ fun H2 s2 => ⟨s.trans s2, s2 _ _ e⟩
theorem filt_one {α : Type} {f : α → Str} {zs : List α} {j : Nat} {z : α} (hnd : (zs.map f).Nodup) (hj : zs[j]? = some z) :
    zs.filter (fun p => decide (f p = f z)) = [z] ∧ zs.filter (fun p => !decide (f p = f z)) = zs.take j ++ zs.drop (j + 1) := by
  have e := split_at hj
  have e2 := congrArg (List.map f) e
  rw [List.map_append, List.map_append] at e2
  rw [e2] at hnd
  obtain ⟨h1, h2, h3⟩ := List.nodup_append.mp hnd
  have n1 : ∀ p ∈ zs.take j, f p ≠ f z := fun p hp => h3 _ (List.mem_map.mpr ⟨p, hp, rfl⟩) _ (List.mem_append_left _ (List.mem_singleton.mpr rfl))
  have n2 : ∀ p ∈ zs.drop (j + 1), f p ≠ f z := fun p hp q => (List.nodup_cons.mp (show (f z :: (zs.drop (j + 1)).map f).Nodup from h2)).1 (q ▸ List.mem_map.mpr ⟨p, hp, rfl⟩)
  constructor
  · have := congrArg (List.filter fun p => decide (f p = f z)) e
    have f1 : (zs.take j).filter (fun p => decide (f p = f z)) = [] := List.filter_eq_nil_iff.mpr fun p hp => by simpa using n1 p hp
    have f2 : (zs.drop (j + 1)).filter (fun p => decide (f p = f z)) = [] := List.filter_eq_nil_iff.mpr fun p hp => by simpa using n2 p hp
    rw [this, List.filter_append, List.filter_append, f1, f2]
    simp
  · have := congrArg (List.filter fun p => !decide (f p = f z)) e
    have f1 : (zs.take j).filter (fun p => !decide (f p = f z)) = zs.take j := List.filter_eq_self.mpr fun p hp => by simpa using n1 p hp
    have f2 : (zs.drop (j + 1)).filter (fun p => !decide (f p = f z)) = zs.drop (j + 1) := List.filter_eq_self.mpr fun p hp => by simpa using n2 p hp
    rw [this, List.filter_append, List.filter_append, f1, f2]
    simp
theorem pick_one {as : List Addr} {ks : List Ask} {j : Nat} {b : Addr} {k : Ask} (hl : as.length = ks.length) (hnd : (ks.map Ask.nm).Nodup) (hj : ks[j]? = some k) (hb : as[j]? = some b) :
    pickA (fun c => decide (c.nm = k.nm)) as ks = [b] ∧ pickA (fun c => !decide (c.nm = k.nm)) as ks = as.take j ++ as.drop (j + 1) := by
  have hx : (as.zip ks)[j]? = some (b, k) := List.getElem?_zip_eq_some.mpr ⟨hb, hj⟩
  have h2 : ((as.zip ks).map fun p => p.2.nm).Nodup := by
    have : (as.zip ks).map (fun p => p.2.nm) = ((as.zip ks).map Prod.snd).map Ask.nm := by rw [List.map_map]; rfl
    rw [this, List.map_snd_zip (Nat.le_of_eq hl.symm)]
    exact hnd
  obtain ⟨e1, e2⟩ := filt_one (f := fun p : Addr × Ask => p.2.nm) h2 hx
  have e1 : (as.zip ks).filter (fun p => decide (p.2.nm = k.nm)) = [(b, k)] := e1
  have e2 : (as.zip ks).filter (fun p => !decide (p.2.nm = k.nm)) = (as.zip ks).take j ++ (as.zip ks).drop (j + 1) := e2
  unfold pickA
  rw [e1, e2]
  refine ⟨rfl, ?_⟩
  rw [List.map_append, List.map_take, List.map_drop, List.map_fst_zip (Nat.le_of_eq hl)]
theorem dec_str (x y : Str) : decide (V.str x = V.str y) = decide (x = y) := decide_eq_decide.mpr ⟨fun e => by cases e; rfl, fun e => by rw [e]⟩
/-! ### _law_moved -/
def spMovedL (K : PySem.W.Frag) (CA : Addr) : Sp := fun vs H Q _ => ∃ (l b : Addr) (as : List Addr) (ks : List Ask) (j : Nat) (k : Ask) (i : Nat), vs = [.ref l, .str k.nm, .int i] ∧ SqL K H l (as.map V.ref) ∧ Asks CA H as ks ∧ ks.length ≤ 800 ∧ (ks.map Ask.nm).Nodup ∧ ks[j]? = some k ∧ as[j]? = some b ∧ i < ks.length ∧
  ∀ (H' : Hp) (q : Addr), Same H H' → H' q = some (.lst ((ins3 (as.take j ++ as.drop (j + 1)) i i b).map V.ref)) → Q (.ref q) H'
theorem ok_lawMoved {f : Addr} {fd dAN : FuncData} (F : Fun K "_law_moved" "_law_moved" sMoved f fd) (B : Blt mg) (TA : ACls K CA fI pN gN pF gF pM gM fE) (FAN : Fun K "name" "Asker.name" sAName gN dAN) : FnOk P w K mg base CX0 3 f fd ["_law_askers", "_law_name", "_law_place"] (spMovedL K CA) := by
  have GAName : FnOk P w K mg base CX0 1 gN dAN ["self"] (spAName CA) := ok_aname FAN TA
  have bAName : Binds K dAN ["self"] [] := FAN.binds fun _ _ _ _ _ _ us hl => match us, hl with | [_], _ => rfl
  refine F.ok scMoved (fun vs H Q E h => ?_) (fun cdv A outer s H vs Q E hr h => ?_)
  · obtain ⟨l, b, as, ks, j, k, i, rfl, _⟩ := h
    rfl
  · obtain ⟨l, b, as, ks, j, k, i, rfl, hS, hA, hz, hnd, hj, hb, hi, q⟩ := h
    have hla := hA.len
    have hjl : j < ks.length := (List.getElem?_eq_some_iff.mp hj).1
    obtain ⟨pk1, pk2⟩ := pick_one hla hnd hj hb
    refine ⟨_, (pss_cons (ps_setLc (i := 3) (own := [("_law_asker_here", 5)]) (g := gName 5) (tt := tTest (tOp rNe (tProp CA (spAName CA) [] (fun _ _ _ => False) (tVar 5)) (tVar 1))) rfl scMoved.nd rfl rfl (sw_true rfl rfl rfl (by decide +kernel)) (pi_list (pv 0)) (blkOk_by (own := [("_law_asker_here", 5)]) (N := NMoved) (sc := defScope sMoved) (by decide +kernel)) (fun _ _ _ _ _ => pg_name (i := 5) scMoved.nd rfl (.inl rfl)) (fun _ _ _ _ _ => pts_one (pt_cmpR op_ne (pe_prop (pv 5) TA.ins.cl TA.pN GAName (hr.mono (by decide)) bAName .nil pass0 rfl) (pv 1) (nomark _))) (fun _ _ _ _ _ => (pv 5)))
      (pss_cons (ps_setLc (i := 4) (own := [("_law_asker_here", 5)]) (g := gName 5) (tt := tTest (tOp rEq (tProp CA (spAName CA) [] (fun _ _ _ => False) (tVar 5)) (tVar 1))) rfl scMoved.nd rfl rfl (sw_true rfl rfl rfl (by decide +kernel)) (pi_list (pv 0)) (blkOk_by (own := [("_law_asker_here", 5)]) (N := NMoved) (sc := defScope sMoved) (by decide +kernel)) (fun _ _ _ _ _ => pg_name (i := 5) scMoved.nd rfl (.inl rfl)) (fun _ _ _ _ _ => pts_one (pt_cmpR op_eq (pe_prop (pv 5) TA.ins.cl TA.pN GAName (hr.mono (by decide)) bAName .nil pass0 rfl) (pv 1) (nomark _))) (fun _ _ _ _ _ => (pv 5)))
      (pss_one (ps_ret (pe_op op_cat (pe_op op_cat (pe_slice sl_list (pv 3) po_none (po_some (pv 2))) (pv 4)) (pe_slice sl_list (pv 3) (po_some (pv 2)) po_none)))))), ?_⟩
    refine ⟨.ref l, rfl, l, rfl, ⟨_, hS⟩, fun D hD => ?_⟩
    refine lc_keepA (CA := CA) (as := as) (ks := ks) (keep := fun c => !decide (c.nm = k.nm)) (by have := walk_refs (K := K) (a := l) (xs := as); exact this) hla (by omega) hD hA (fun G sG => sG.seq hS) (fun a c G hAk N M hN hM => ?_) fun G sG eG => ?_
    · obtain ⟨dx, fs, hI⟩ := hAk.ins
      refine ⟨rfl, .ref a, rfl, a, dx, fs, rfl, hI, a, c, rfl, hAk, .str k.nm, rfl, rfl, _, rfl, ?_⟩
      rw [dec_str]
      by_cases e : c.nm = k.nm
      · rw [decide_eq_true e]
        exact iteF (hM (by simp [e]))
      · rw [decide_eq_false e]
        exact iteT ⟨.ref a, rfl, hN (by simp [e])⟩
    rw [pk2] at eG
    refine ⟨.ref l, rfl, l, rfl, ⟨_, sG.seq hS⟩, fun D2 hD2 => ?_⟩
    refine lc_keepA (CA := CA) (as := as) (ks := ks) (keep := fun c => decide (c.nm = k.nm)) (by have := walk_refs (K := K) (a := l) (xs := as); exact this) hla (by omega) hD2 (hA.same sG) (fun G' s' => (sG.trans s').seq hS) (fun a c G hAk N M hN hM => ?_) fun G2 sG2 eG2 => ?_
    · obtain ⟨dx, fs, hI⟩ := hAk.ins
      refine ⟨rfl, .ref a, rfl, a, dx, fs, rfl, hI, a, c, rfl, hAk, .str k.nm, rfl, rfl, _, rfl, ?_⟩
      rw [dec_str]
      by_cases e : c.nm = k.nm
      · rw [decide_eq_true e]
        exact iteT ⟨.ref a, rfl, hN (by simp [e])⟩
      · rw [decide_eq_false e]
        exact iteF (hM (by simp [e]))
    rw [pk1] at eG2
    have e1 := sG2 _ _ eG
    have lr : (as.take j ++ as.drop (j + 1)).length + 1 = ks.length := by
      rw [List.length_append, List.length_take, List.length_drop]
      omega
    refine ⟨.ref D, rfl, .int i, rfl, i, rfl, D, _, rfl, SqL.of e1, fun p1 n1 => ?_⟩
    rw [cut_to (by omega)]
    have g1 := Same.fresh (o := .lst (((as.take j ++ as.drop (j + 1)).take i).map V.ref)) n1
    refine ⟨.ref D2, rfl, p1, D2, _, _, rfl, rfl, upd_same, g1 _ _ eG2, by rw [List.length_map, List.length_map, List.length_take, sizeLine_eq]; show min i _ + 1 ≤ _; omega, fun p2 n2 => ?_⟩
    rw [← List.map_append]
    have g2 := Same.fresh (o := .lst (((as.take j ++ as.drop (j + 1)).take i ++ [b]).map V.ref)) n2
    refine ⟨.ref D, rfl, .int i, rfl, i, rfl, D, _, rfl, SqL.of ((g1.trans g2) _ _ e1), fun p3 n3 => ?_⟩
    rw [cut_from (by omega)]
    have g3 := Same.fresh (o := .lst (((as.take j ++ as.drop (j + 1)).drop i).map V.ref)) n3
    refine ⟨p2, p3, _, _, rfl, rfl, g3 _ _ upd_same, upd_same, by rw [List.length_map, List.length_map, List.length_append, List.length_take, List.length_drop, sizeLine_eq]; show min i _ + 1 + _ ≤ _; omega, fun p4 n4 => ?_⟩
    rw [← List.map_append, List.append_assoc]
    exact q _ p4 (sG.trans (sG2.trans (g1.trans (g2.trans (g3.trans (Same.fresh n4)))))) upd_same
/-! ### _law_is_line -/
def spIsLine (K : PySem.W.Frag) (CL CA : Addr) : Sp := fun vs H Q _ => ∃ (a l : Addr) (as : List Addr) (ks : List Ask) (U : List Str), vs = [.ref a, .ref l] ∧ LineAt CL CA H a as ks ∧ SqL K H l (as.map V.ref) ∧ ks.length ≤ 900 ∧ (ks.map Ask.nm).Nodup ∧ (∀ c ∈ ks, AskOk c ∧ ∀ x ∈ c.ks, x ∈ U) ∧ U.length < 64 ∧
  ∀ H' : Hp, Same H H' → Q (.bl true) H'
theorem ok_isLine {f fKindsOf : Addr} {fd dKindsOf dAN dAF dAE dLA dLN dLL dLK dLR dLP : FuncData} (F : Fun K "_law_is_line" "_law_is_line" sIsLine f fd) (B : Blt mg) (FKindsOf : Fun K "_law_kinds_of" "_law_kinds_of" sKindsOf fKindsOf dKindsOf) (gKindsOf : mg "_law_kinds_of" = some (.ref fKindsOf))
    (TA : ACls K CA fI pN gN pF gF pM gM fE) (gA : mg "Asker" = some (.ref CA)) (FAN : Fun K "name" "Asker.name" sAName gN dAN) (FAF : Fun K "fits" "Asker.fits" sAFits gF dAF) (FAE : Fun K "__eq__" "Asker.__eq__" sAEq fE dAE) (T : LCls K CL fLI fLE fLL fLA fLN fLK fLR fLP)
    (FLA : Fun K "askers" "Line.askers" sLAskers fLA dLA) (FLN : Fun K "names" "Line.names" sLNames fLN dLN) (FLL : Fun K "__len__" "Line.__len__" sLLen fLL dLL) (FLK : Fun K "kinds" "Line.kinds" sLKinds fLK dLK) (FLR : Fun K "asker" "Line.asker" sLAsk fLR dLR) (FLP : Fun K "place" "Line.place" sLPlace fLP dLP) :
    FnOk P w K mg base CX0 6 f fd ["_law_told", "_law_askers"] (spIsLine K CL CA) := by
  have GKindsOf : FnOk P w K mg base CX0 3 fKindsOf dKindsOf ["_law_askers"] (spKindsOf K CA) := ok_kindsOf FKindsOf B TA FAF
  have bKindsOf : Binds K dKindsOf ["_law_askers"] [] := FKindsOf.binds fun _ _ _ _ _ _ us hl => match us, hl with | [_], _ => rfl
  have GAName : FnOk P w K mg base CX0 1 gN dAN ["self"] (spAName CA) := ok_aname FAN TA
  have bAName : Binds K dAN ["self"] [] := FAN.binds fun _ _ _ _ _ _ us hl => match us, hl with | [_], _ => rfl
  have GAEq : FnOk P w K mg base CX0 2 fE dAE ["self", "other"] (spEqB (RA K CA)) := ok_aeq FAE B TA gA
  have bAEq : Binds K dAE ["self", "other"] [] := FAE.binds fun _ _ _ _ _ _ us hl => match us, hl with | [_, _], _ => rfl
  have GLAskers : FnOk P w K mg base CX0 1 fLA dLA ["self"] (spLAskers CL CA) := ok_laskers FLA B T
  have bLAskers : Binds K dLA ["self"] [] := FLA.binds fun _ _ _ _ _ _ us hl => match us, hl with | [_], _ => rfl
  have GLNames : FnOk P w K mg base CX0 3 fLN dLN ["self"] (spLNames CL CA) := ok_lnames FLN TA FAN T
  have bLNames : Binds K dLN ["self"] [] := FLN.binds fun _ _ _ _ _ _ us hl => match us, hl with | [_], _ => rfl
  have GLLen : FnOk P w K mg base CX0 1 fLL dLL ["self"] (spLLen CL CA) := ok_llen FLL B T
  have bLLen : Binds K dLL ["self"] [] := FLL.binds fun _ _ _ _ _ _ us hl => match us, hl with | [_], _ => rfl
  have GLKinds : FnOk P w K mg base CX0 3 fLK dLK ["self"] (spLKinds CL CA) := ok_lkinds FLK B TA FAF T
  have bLKinds : Binds K dLK ["self"] [] := FLK.binds fun _ _ _ _ _ _ us hl => match us, hl with | [_], _ => rfl
  have GLAsk : FnOk P w K mg base CX0 5 fLR dLR ["self", "name"] (spLAsk CL CA) := ok_lask FLR B TA FAN T FLN FLP
  have bLAsk : Binds K dLR ["self", "name"] [] := FLR.binds fun _ _ _ _ _ _ us hl => match us, hl with | [_, _], _ => rfl
  refine F.ok scIsLine (fun vs H Q E h => ?_) (fun cdv A outer s H vs Q E hr h => ?_)
  · obtain ⟨a, l, as, ks, U, rfl, _⟩ := h
    rfl
  · obtain ⟨a, l, as, ks, U, rfl, hL, hS, hz, hnd, hok, hU, q⟩ := h
    obtain ⟨dx, fs, hI⟩ := hL.ins
    have hA := hL.asks
    have hla := hA.len
    have nmw : ∀ y ∈ ks.map Ask.nm, IsWord y := fun y hy => by
      obtain ⟨c, hc, rfl⟩ := List.mem_map.mp hy
      exact (hok c hc).1.nm
    refine ⟨_, (pss_cons (ps_if (PW.pt (pw_or (pt_cmpR (op_neId hr.units0) (pe_meth0 (pv 0) T.ins.cl T.mA GLAskers (hr.mono (by decide)) bLAskers .nil pass0) (pv 1) (nomark _)) (pw_or1 (pt_cmpR (op_neD hr.units) (pe_meth0 (pv 0) T.ins.cl T.mN GLNames (hr.mono (by decide)) bLNames .nil pass0) (pe_lc (own := [("_law_asker_here", 2)]) (g := gName 2) (tt := tYes) rfl scIsLine.nd (pi_list (pv 1)) (blkOk_by (own := [("_law_asker_here", 2)]) (N := NIsLine) (sc := defScope sIsLine) (by decide +kernel)) (fun _ _ _ _ _ => pg_name (i := 2) scIsLine.nd rfl (.inl rfl)) (fun _ _ _ _ _ => pts_nil) (fun _ _ _ _ _ => (pe_prop (pv 2) TA.ins.cl TA.pN GAName (hr.mono (by decide)) bAName .nil pass0 rfl))) (nomark _))))) (pss_one (ps_ret pe_bl)) pss_nil)
      (pss_cons (ps_if (pt_cmpR op_ne (pe_callB (call_lenOwn T.len T.lfn GLLen (hr.mono (by decide)) bLLen pass0) (by rfl) B.len PySem.boot_len (pa_cons (pv 0) pa_nil)) (pe_callB call_len_seq (by rfl) B.len PySem.boot_len (pa_cons (pv 1) pa_nil)) (nomark _)) (pss_one (ps_ret pe_bl)) pss_nil)
      (pss_cons (ps_if (pt_cmpR (op_neD hr.units) (pe_lc (own := [("_law_asker_here", 2)]) (g := gName 2) (tt := tTest (tOp (rEqB (fun x y H b => DIn K CA (RA K CA) x y H (!b))) (tMeth CL "asker" (spLAsk CL CA) [] (fun _ _ _ => False) (tVar 0) (tCons (tProp CA (spAName CA) [] (fun _ _ _ => False) (tVar 2)) tNil)) (tVar 2))) rfl scIsLine.nd (pi_list (pv 1)) (blkOk_by (own := [("_law_asker_here", 2)]) (N := NIsLine) (sc := defScope sIsLine) (by decide +kernel)) (fun _ _ _ _ _ => pg_name (i := 2) scIsLine.nd rfl (.inl rfl)) (fun _ _ _ _ _ => pts_one (pt_cmpR (op_rcB (rcB_ownNe GAEq TA.own bAEq pass0) (hr.mono (by decide))) (pe_meth (pv 0) T.ins.cl T.mR GLAsk (hr.mono (by decide)) bLAsk .nil pass0 (pa_cons (pe_prop (pv 2) TA.ins.cl TA.pN GAName (hr.mono (by decide)) bAName .nil pass0 rfl) pa_nil)) (pv 2) (nomark _))) (fun _ _ _ _ _ => (pv 2))) (pe_lst pa_nil) (nomark _)) (pss_one (ps_ret pe_bl)) pss_nil)
      (pss_one (ps_ret (pe_cmpR (op_eqD hr.units) (pe_meth0 (pv 0) T.ins.cl T.mK GLKinds (hr.mono (by decide)) bLKinds .nil pass0) (pe_callB (cr_sortedSetS rfl) (by rfl) B.sorted (by decide +kernel) (pa_cons (pe_callTy (cr_setS rfl) (by rfl) B.set (by decide +kernel) (pa_cons (pe_call GKindsOf (hr.mono (by decide)) (by rfl) gKindsOf FKindsOf.kp bKindsOf .nil pass0 (pa_cons (pv 1) pa_nil)) pa_nil)) pa_nil)) (nomark _))))))), ?_⟩
    refine ⟨.ref a, rfl, a, dx, fs, rfl, hI, hL.nofld hI _ (by decide), a, as, ks, rfl, hL, fun p1 n1 => ?_⟩
    have s1 := Same.fresh (o := .lst (as.map V.ref)) n1
    refine ⟨.ref l, rfl, p1, l, as, rfl, rfl, SqL.of upd_same, s1.seq hS, _, rfl, iteF ?_⟩
    refine ⟨.ref a, rfl, a, dx, fs, rfl, s1 _ _ hI, hL.nofld hI _ (by decide), a, as, ks, rfl, hL.same s1, by omega, fun H2 rn s2 nrn en => ?_⟩
    have t2 := s1.trans s2
    refine ⟨.ref l, rfl, l, rfl, ⟨_, t2.seq hS⟩, fun D hD => ?_⟩
    refine lc_names (CA := CA) (as := as) (ks := ks) (by have := walk_refs (K := K) (a := l) (xs := as); exact this) hla (by omega) hD (hA.same t2) (fun G sG => (t2.trans sG).seq hS) (fun b k G hAk R hR => ?_) fun G sG eG => ?_
    · obtain ⟨db, fb, Ib⟩ := hAk.ins
      exact ⟨rfl, .ref b, rfl, b, db, fb, rfl, Ib, b, k, rfl, hAk, hR G (Same.refl _)⟩
    have t3 := t2.trans sG
    have shn := shaped_sts nmw
    refine ⟨_, _, dp_sts (SqL.of (sG _ _ en)), dp_sts (SqL.of eG), shn, shn, _, rfl, ?_⟩
    rw [eqv_same shn]
    refine iteF ⟨.ref a, rfl, a, dx, fs, rfl, t3 _ _ hI, a, as, ks, rfl, hL.same t3, _, rfl, ⟨by omega, by omega⟩, .ref l, rfl, l, _, rfl, .inl (t3.seq hS), rfl, _, rfl, ?_⟩
    rw [List.length_map, hla, decide_eq_true rfl]
    refine iteF ⟨.ref l, rfl, l, rfl, ⟨_, t3.seq hS⟩, fun D2 hD2 => ?_⟩
    refine lc_noneS walk_list hD2 (fun G' s' => (t3.trans s').seq hS) (fun v G' s' hv N M hM => ?_) fun G2 sG2 eG2 => ?_
    · obtain ⟨i, hi⟩ := List.mem_iff_getElem?.mp hv
      obtain ⟨b, hb, rfl⟩ := ref_at hi
      have tG := t3.trans s'
      obtain ⟨k, hk, hAk⟩ := (hA.same tG).get hb
      obtain ⟨db, fb, Ib⟩ := hAk.ins
      refine ⟨rfl, .ref a, rfl, a, dx, fs, rfl, tG _ _ hI, hL.nofld hI _ (by decide), .ref b, rfl, b, db, fb, rfl, Ib, b, k, rfl, hAk, a, as, ks, k.nm, i, k, b, rfl, hL.same tG, by omega, hnd, hk, rfl, hb, fun G4 s4 => ?_⟩
      exact ⟨.ref b, rfl, false, din_ask TA (hAk.same s4) (hAk.same s4) (by simp), _, rfl, iteF (hM _ s4)⟩
    have t4 := t3.trans sG2
    refine ⟨(by show 0 ≤ sizeLine; decide), fun em nem => ?_⟩
    have s5 := Same.fresh (o := .lst []) nem
    have sh0 : SeqAt.shaped (.list []) = true := by decide
    refine ⟨.list [], .list [], .lst (SqL.of (s5 _ _ eG2)) .nil, .lst (SqL.of upd_same) .nil, sh0, sh0, _, rfl, ?_⟩
    rw [eqv_same sh0]
    have t5 := t4.trans s5
    generalize upd G2 em (.lst []) = H5 at s5 t5
    have kU : ∀ k ∈ ks, ∀ x ∈ k.ks, x ∈ U := fun k hk => (hok k hk).2
    refine iteF ⟨.ref a, rfl, a, dx, fs, rfl, t5 _ _ hI, hL.nofld hI _ (by decide), a, as, ks, U, rfl, hL.same t5, hU, kU, fun H6 kp us s6 nkp e6 so6 nd6 m6 => ?_⟩
    have t6 := t5.trans s6
    refine ⟨.ref l, rfl, l, as, ks, U, rfl, t6.seq hS, hA.same t6, fun c hc => ⟨(hok c hc).1.nd, (hok c hc).2⟩, hU, fun H7 kz zs s7 e7 nd7 m7 => ?_⟩
    have zU : ∀ x ∈ zs, x ∈ U := fun x hx => by
      obtain ⟨c, hc, hx'⟩ := (m7 x).mp hx
      exact kU c hc x hx'
    have zl := nodup_le zs U nd7 zU
    refine ⟨kz, zs, rfl, SqL.of e7, by omega, fun sp sm nsp smle smiff => ⟨sp, _, sm, rfl, upd_same, by omega, fun ys yp so ynd ymem ylen nyp => ?_⟩⟩
    have s8 := (Same.fresh (o := SetSO w sp (fun j => decide (j ∈ zs)) sm) nsp).trans (Same.fresh (o := .lst (ys.map V.str)) nyp)
    have ym : ∀ x, x ∈ ys ↔ ∃ c ∈ ks, x ∈ c.ks := fun x => by
      rw [ymem, decide_eq_true_eq, m7]
    have yw : ∀ y ∈ ys, IsWord y := fun y hy => by
      obtain ⟨c, hc, hx⟩ := (ym y).mp hy
      exact (hok c hc).1.ks y hx
    obtain rfl : us = ys := sorted_mem_eq nd6 ynd (fun x => (m6 x).trans (ym x).symm) so6 so
    have shk := shaped_sts yw
    refine ⟨_, _, dp_sts (SqL.of (s8 _ _ (s7 _ _ e6))), dp_sts (SqL.of upd_same), shk, shk, ?_⟩
    rw [eqv_same shk]
    exact q _ (t6.trans (s7.trans s8))
end
end Eld
end L2

set_option Elab.async false
set_option linter.all false
set_option maxRecDepth 100000
set_option maxHeartbeats 8000000
/-! ## _law_one_right -/
namespace L2
namespace Eld
open PySem PySem.Spec PyProof.Rows PySem.EldX
section
variable {P : Program} {w : World} {K : PySem.W.Frag} {mg : Str → Option Value} {base : Heap} {fM fD fO fS fW' : Addr} {dM dD dO dS dW' : FuncData} {CA fI pN gN pF gF pM gM fE CL fLI fLE fLL fLA fLN fLK fLR fLP fW fI2 fM2 fC2 fO2 : Addr}
/-! ### lists -/
theorem ins3_at {α : Type} {xs : List α} {i : Nat} (j : Nat) {y : α} (h : i ≤ xs.length) : (ins3 xs i j y)[i]? = some y := by
  unfold ins3
  rw [List.getElem?_append_right (by rw [List.length_take]; omega), List.length_take, Nat.min_eq_left h, Nat.sub_self]
  rfl
theorem ins3_take {α : Type} {xs : List α} {i : Nat} (j : Nat) {y : α} (h : i ≤ xs.length) : (ins3 xs i j y).take i = xs.take i := by
  unfold ins3
  rw [List.take_append_of_le_length (by rw [List.length_take]; omega), List.take_take, Nat.min_self]
theorem ins3_drop {α : Type} {xs : List α} {i : Nat} (j : Nat) {y : α} (h : i ≤ xs.length) : (ins3 xs i j y).drop (i + 1) = xs.drop j := by
  have l : (xs.take i).length = i := by rw [List.length_take]; omega
  unfold ins3
  rw [List.drop_append, List.drop_eq_nil_of_le (by omega), l]
  have : i + 1 - i = 1 := by omega
  rw [this]
  rfl
theorem ins3_rm {α : Type} {xs : List α} {i : Nat} {y : α} (h : i ≤ xs.length) : (ins3 xs i i y).take i ++ (ins3 xs i i y).drop (i + 1) = xs := by
  rw [ins3_take i h, ins3_drop i h, List.take_append_drop]
theorem rm_len {α : Type} {xs : List α} {j : Nat} (h : j < xs.length) : (xs.take j ++ xs.drop (j + 1)).length + 1 = xs.length := by
  rw [List.length_append, List.length_take, List.length_drop]
  omega
theorem rm_take {α : Type} {xs : List α} {j : Nat} (h : j < xs.length) : (xs.take j ++ xs.drop (j + 1)).take j = xs.take j := by
  rw [List.take_append_of_le_length (by rw [List.length_take]; omega), List.take_take, Nat.min_self]
theorem rm_drop {α : Type} {xs : List α} {j : Nat} (h : j < xs.length) : (xs.take j ++ xs.drop (j + 1)).drop j = xs.drop (j + 1) := by
  rw [List.drop_append_of_le_length (by rw [List.length_take]; omega), List.drop_eq_nil_of_le (by rw [List.length_take]; omega)]
  rfl
theorem rm_ins {α : Type} {xs : List α} {j : Nat} {x : α} (h : xs[j]? = some x) : ins3 (xs.take j ++ xs.drop (j + 1)) j j x = xs := by
  have l := (List.getElem?_eq_some_iff.mp h).1
  unfold ins3
  rw [rm_take l, rm_drop l]
  exact (split_at h).symm
theorem ins3_len {α : Type} {xs : List α} {i : Nat} {y : α} (h : i ≤ xs.length) : (ins3 xs i i y).length = xs.length + 1 := by
  have := (perm_ins xs i y).length_eq
  rw [this, List.length_append]
  rfl
theorem moved_perm {α : Type} {xs : List α} {j : Nat} (i : Nat) {x : α} (h : xs[j]? = some x) : (ins3 (xs.take j ++ xs.drop (j + 1)) i i x).Perm xs := by
  have p := (perm_ins (xs.take j ++ xs.drop (j + 1)) j x).symm
  rw [rm_ins h] at p
  exact (perm_ins _ i x).trans p
theorem set_len {α : Type} {xs : List α} {j : Nat} {y : α} (h : j < xs.length) : (ins3 xs j (j + 1) y).length = xs.length := by
  unfold ins3
  rw [List.length_append, List.length_append, List.length_take, List.length_drop]
  show min j xs.length + (1 + _) = _
  omega
theorem set_back {α : Type} {xs : List α} {j : Nat} {x : α} (y : α) (h : xs[j]? = some x) : ins3 (ins3 xs j (j + 1) y) j (j + 1) x = xs := by
  have l := (List.getElem?_eq_some_iff.mp h).1
  show (ins3 xs j (j + 1) y).take j ++ ([x] ++ (ins3 xs j (j + 1) y).drop (j + 1)) = xs
  rw [ins3_take _ (Nat.le_of_lt l), ins3_drop _ (Nat.le_of_lt l)]
  exact (split_at h).symm
theorem set_same {α : Type} {xs : List α} {j : Nat} {x y : α} (h : xs[j]? = some x) (e : ins3 xs j (j + 1) y = xs) : y = x := by
  have z := ins3_at (y := y) (j + 1) (Nat.le_of_lt (List.getElem?_eq_some_iff.mp h).1)
  rw [e, h] at z
  exact (Option.some.inj z).symm
theorem Kp.line {CL' CA' p a : Addr} {H H' : Hp} {as : List Addr} {ks : List Ask} {n : Nat} (s : Kp p H H') (hp : PurseAt H p n) (h : LineAt CL' CA' H a as ks) : LineAt CL' CA' H' a as ks := by
  obtain ⟨dx, t, h1, h2, h3⟩ := h
  obtain ⟨xs, e⟩ := purse_lst hp
  refine ⟨dx, t, s _ _ (fun z => ?_) h1, s _ _ (fun z => ?_) h2, s.asks hp h3⟩
  · rw [z, e] at h1
    cases h1
  · rw [z, e] at h2
    cases h2
theorem cut_one {ks : List Str} (h : 1 ≤ ks.length) : cutV (ks.map V.str) (some 1) none = (ks.drop 1).map V.str := by
  rw [cutV_map, show (1 : Int) = ((1 : Nat) : Int) from rfl, HT.sIx_nat, HT.sIx_none, Nat.min_eq_left h, List.take_of_length_le (Nat.le_of_eq List.length_drop)]
theorem nodup_more {ks : List Str} {y : Str} (h : ks.Nodup) (n : y ∉ ks) : (ks ++ [y]).Nodup := by
  rw [List.nodup_append]
  exact ⟨h, List.nodup_cons.mpr ⟨List.not_mem_nil, List.nodup_nil⟩, fun u hu v hv e => n (by rw [List.mem_singleton.mp hv] at e; exact e ▸ hu)⟩
/-! ### _law_one_right -/
def spOneRight (K : PySem.W.Frag) (CL CA : Addr) : Sp := fun vs H Q _ => ∃ (p a l sp : Addr) (as : List Addr) (ks : List Ask) (ksp : Ask) (U : List Str) (n : Nat), vs = [.ref p, .ref a, .ref l, .ref sp] ∧ PurseAt H p n ∧ n ≤ 50000000000 ∧ LineAt CL CA H a as ks ∧ SqL K H l (as.map V.ref) ∧ l ≠ p ∧ AskAt CA H sp ksp ∧ AskOk ksp ∧
  ksp.nm ∉ ks.map Ask.nm ∧ (ks.map Ask.nm).Nodup ∧ 1 ≤ ks.length ∧ ks.length ≤ 9 ∧ (∀ c ∈ ks, AskOk c ∧ ∀ x ∈ c.ks, x ∈ U) ∧ (∀ x ∈ ksp.ks, x ∈ U) ∧ U.length ≤ 5 ∧ ∀ H' : Hp, Kp p H H' → PurseAt H' p (n + 120) → Q (.bl true) H'
theorem ok_oneRight {f fLawMoved fIsLine fFree fKindsOf : Addr} {fd dLawMoved dIsLine dFree dKindsOf dAN dAF dAM dAE dAI dLI dLE dLA dLN dLL dLK dLR dLP dW dI2 dM2 dC2 : FuncData} (F : Fun K "_law_one_right" "_law_one_right" sOneRight f fd) (L : Drw K mg fM fD fO fS fW' dM dD dO dS dW') (B : Blt mg)
    (FLawMoved : Fun K "_law_moved" "_law_moved" sMoved fLawMoved dLawMoved) (gLawMoved : mg "_law_moved" = some (.ref fLawMoved)) (FIsLine : Fun K "_law_is_line" "_law_is_line" sIsLine fIsLine dIsLine) (gIsLine : mg "_law_is_line" = some (.ref fIsLine))
    (FFree : Fun K "_law_free" "_law_free" sFree fFree dFree) (gFree : mg "_law_free" = some (.ref fFree)) (FKindsOf : Fun K "_law_kinds_of" "_law_kinds_of" sKindsOf fKindsOf dKindsOf) (gKindsOf : mg "_law_kinds_of" = some (.ref fKindsOf))
    (TA : ACls K CA fI pN gN pF gF pM gM fE) (gA : mg "Asker" = some (.ref CA)) (FAN : Fun K "name" "Asker.name" sAName gN dAN) (FAF : Fun K "fits" "Asker.fits" sAFits gF dAF) (FAM : Fun K "most" "Asker.most" sAMost gM dAM) (FAE : Fun K "__eq__" "Asker.__eq__" sAEq fE dAE)
    (GAInit : FnOk P w K mg base CX0 3 fI dAI ["self", "name", "fits", "most"] (spAInit K CA)) (bAInit : Binds K dAI ["self", "name", "fits", "most"] [])
    (T : LCls K CL fLI fLE fLL fLA fLN fLK fLR fLP) (T2 : LCls2 K CL fW fI2 fM2 fC2 fO2) (gL : mg "Line" = some (.ref CL)) (FLE : Fun K "__eq__" "Line.__eq__" sLEq fLE dLE) (GLInit : FnOk P w K mg base CX0 4 fLI dLI ["self", "askers"] (spLInit K CL CA)) (bLInit : Binds K dLI ["self", "askers"] [])
    (FLA : Fun K "askers" "Line.askers" sLAskers fLA dLA) (FLN : Fun K "names" "Line.names" sLNames fLN dLN) (FLL : Fun K "__len__" "Line.__len__" sLLen fLL dLL) (FLK : Fun K "kinds" "Line.kinds" sLKinds fLK dLK) (FLR : Fun K "asker" "Line.asker" sLAsk fLR dLR) (FLP : Fun K "place" "Line.place" sLPlace fLP dLP)
    (GWithout : FnOk P w K mg base CX0 6 fW dW ["self", "name"] (spWithout CL CA)) (bWithout : Binds K dW ["self", "name"] []) (GPutIn : FnOk P w K mg base CX0 6 fI2 dI2 ["self", "asker", "place"] (spPutIn CL CA)) (bPutIn : Binds K dI2 ["self", "asker", "place"] [])
    (GMoved : FnOk P w K mg base CX0 7 fM2 dM2 ["self", "name", "place"] (spMoved CL CA)) (bMoved : Binds K dM2 ["self", "name", "place"] []) (GChanged : FnOk P w K mg base CX0 6 fC2 dC2 ["self", "asker"] (spChanged CL CA)) (bChanged : Binds K dC2 ["self", "asker"] []) :
    FnOk P w K mg base CX0 8 f fd ["_law_purse_here", "_law_line_here", "_law_askers", "_law_spare"] (spOneRight K CL CA) := by
  have GDraw : FnOk P w K mg base CX0 2 fD dD ["_law_purse_here", "_law_many"] spDraw := L.okDraw B
  have GLawMoved : FnOk P w K mg base CX0 3 fLawMoved dLawMoved ["_law_askers", "_law_name", "_law_place"] (spMovedL K CA) := ok_lawMoved FLawMoved B TA FAN
  have bLawMoved : Binds K dLawMoved ["_law_askers", "_law_name", "_law_place"] [] := FLawMoved.binds fun _ _ _ _ _ _ us hl => match us, hl with | [_, _, _], _ => rfl
  have GIsLine : FnOk P w K mg base CX0 6 fIsLine dIsLine ["_law_told", "_law_askers"] (spIsLine K CL CA) := ok_isLine FIsLine B FKindsOf gKindsOf TA gA FAN FAF FAE T FLA FLN FLL FLK FLR FLP
  have bIsLine : Binds K dIsLine ["_law_told", "_law_askers"] [] := FIsLine.binds fun _ _ _ _ _ _ us hl => match us, hl with | [_, _], _ => rfl
  have GFree : FnOk P w K mg base CX0 1 fFree dFree ["_law_known"] (spFree K) := ok_free FFree B
  have bFree : Binds K dFree ["_law_known"] [] := FFree.binds fun _ _ _ _ _ _ us hl => match us, hl with | [_], _ => rfl
  have GAName : FnOk P w K mg base CX0 1 gN dAN ["self"] (spAName CA) := ok_aname FAN TA
  have bAName : Binds K dAN ["self"] [] := FAN.binds fun _ _ _ _ _ _ us hl => match us, hl with | [_], _ => rfl
  have GAFits : FnOk P w K mg base CX0 1 gF dAF ["self"] (spAFits CA) := ok_afits FAF B TA
  have bAFits : Binds K dAF ["self"] [] := FAF.binds fun _ _ _ _ _ _ us hl => match us, hl with | [_], _ => rfl
  have GAMost : FnOk P w K mg base CX0 1 gM dAM ["self"] (spAMost CA) := ok_amost FAM TA
  have bAMost : Binds K dAM ["self"] [] := FAM.binds fun _ _ _ _ _ _ us hl => match us, hl with | [_], _ => rfl
  have GLEq : FnOk P w K mg base CX0 4 fLE dLE ["self", "other"] (spEqB (RL K CL CA)) := ok_leq FLE B TA gA FAE T gL
  have bLEq : Binds K dLE ["self", "other"] [] := FLE.binds fun _ _ _ _ _ _ us hl => match us, hl with | [_, _], _ => rfl
  have GLPlace : FnOk P w K mg base CX0 4 fLP dLP ["self", "name"] (spLPlace CL CA) := ok_lplace FLP B TA FAN T FLN
  have bLPlace : Binds K dLP ["self", "name"] [] := FLP.binds fun _ _ _ _ _ _ us hl => match us, hl with | [_, _], _ => rfl
  refine F.ok scOneRight (fun vs H Q E h => ?_) (fun cdv A outer s H vs Q E hr h => ?_)
  · obtain ⟨p, a, l, sp, as, ks, ksp, U, n, rfl, _⟩ := h
    rfl
  · obtain ⟨p, a, l, sp, as, ks, ksp, U, n, rfl, hP, hn, hL, hS, nlp, hSp, oSp, nSp, hnd, h1, h9, hok, hUsp, hU, q⟩ := h
    have hla := hL.asks.len
    have hlm : (as.map V.ref).length = ks.length := by rw [List.length_map]; exact hla
    have okU : ∀ c ∈ ks, AskOk c ∧ ∀ x ∈ c.ks, x ∈ ("zzzzz" : Str) :: ("zz" : Str) :: U := fun c hc => ⟨(hok c hc).1, fun x hx => List.mem_cons_of_mem _ (List.mem_cons_of_mem _ ((hok c hc).2 x hx))⟩
    have lU : (("zzzzz" : Str) :: "zz" :: U).length < 64 := by show U.length + 1 + 1 < 64; omega
    have few : ∀ c ∈ ks, c.ks.length ≤ 5 := fun c hc => Nat.le_trans (nodup_le c.ks U (hok c hc).1.nd (hok c hc).2) hU
    refine ⟨_, (pss_cons (ps_set (i := 4) scOneRight.nd rfl (.inl rfl) (pe_call GDraw (hr.mono (by decide)) (by rfl) L.gDraw L.Draw.kp L.bDraw .nil pass0 (pa_cons (pv 0) (pa_cons (pe_callB call_len_seq (by rfl) B.len PySem.boot_len (pa_cons (pv 2) pa_nil)) pa_nil))))
      (pss_cons (ps_par (i := 5) (j := 6) rfl scOneRight.nd rfl rfl (by decide) rfl rfl (pa_cons (pe_prop (pe_ix ix_list (pv 2) (pv 4) (fun _ _ => rfl)) TA.ins.cl TA.pN GAName (hr.mono (by decide)) bAName .nil pass0 rfl) (pa_cons (pe_call GDraw (hr.mono (by decide)) (by rfl) L.gDraw L.Draw.kp L.bDraw .nil pass0 (pa_cons (pv 0) (pa_cons (pe_callB call_len_seq (by rfl) B.len PySem.boot_len (pa_cons (pv 2) pa_nil)) pa_nil))) pa_nil)) rfl)
      (pss_cons (ps_if (PW.pt (pw_or (pt_cmpR (op_rcB (rcB_ownNe GLEq T.own bLEq pass0) (hr.mono (by decide))) (pe_meth (pv 1) T.ins.cl T2.mW GWithout (hr.mono (by decide)) bWithout .nil pass0 (pa_cons (pv 5) pa_nil)) (pe_make T.make GLInit (hr.mono (by decide)) (by rfl) gL bLInit .nil pass0 (pa_cons (pe_op op_cat (pe_slice sl_list (pv 2) po_none (po_some (pv 4))) (pe_slice sl_list (pv 2) (po_some (pe_op op_add (pv 4) pe_int)) po_none)) pa_nil)) (nomark _)) (pw_or1 (pt_cmpR (op_rcB (rcB_ownNe GLEq T.own bLEq pass0) (hr.mono (by decide))) (pe_meth (pv 1) T.ins.cl T2.mM GMoved (hr.mono (by decide)) bMoved .nil pass0 (pa_cons (pv 5) (pa_cons (pv 4) pa_nil))) (pv 1) (nomark _))))) (pss_one (ps_ret pe_bl)) pss_nil)
      (pss_cons (ps_set (i := 7) scOneRight.nd rfl (.inl rfl) (pe_meth (pv 1) T.ins.cl T2.mM GMoved (hr.mono (by decide)) bMoved .nil pass0 (pa_cons (pv 5) (pa_cons (pv 6) pa_nil))))
      (pss_cons (ps_if (PW.pt (pw_or (pt_not (pt_val (pe_call GIsLine (hr.mono (by decide)) (by rfl) gIsLine FIsLine.kp bIsLine .nil pass0 (pa_cons (pv 7) (pa_cons (pe_call GLawMoved (hr.mono (by decide)) (by rfl) gLawMoved FLawMoved.kp bLawMoved .nil pass0 (pa_cons (pv 2) (pa_cons (pv 5) (pa_cons (pv 6) pa_nil)))) pa_nil))))) (pw_or1 (pt_cmpR (op_rcB (rcB_ownNe GLEq T.own bLEq pass0) (hr.mono (by decide))) (pe_meth (pv 7) T.ins.cl T2.mM GMoved (hr.mono (by decide)) bMoved .nil pass0 (pa_cons (pv 5) (pa_cons (pv 4) pa_nil))) (pv 1) (nomark _))))) (pss_one (ps_ret pe_bl)) pss_nil)
      (pss_cons (ps_if (pt_not (pt_val (pe_call GIsLine (hr.mono (by decide)) (by rfl) gIsLine FIsLine.kp bIsLine .nil pass0 (pa_cons (pe_meth (pv 1) T.ins.cl T2.mW GWithout (hr.mono (by decide)) bWithout .nil pass0 (pa_cons (pv 5) pa_nil)) (pa_cons (pe_op op_cat (pe_slice sl_list (pv 2) po_none (po_some (pv 4))) (pe_slice sl_list (pv 2) (po_some (pe_op op_add (pv 4) pe_int)) po_none)) pa_nil))))) (pss_one (ps_ret pe_bl)) pss_nil)
      (pss_cons (ps_if (pt_cmpR op_ne (pe_meth (pv 7) T.ins.cl T.mP GLPlace (hr.mono (by decide)) bLPlace .nil pass0 (pa_cons (pv 5) pa_nil)) (pv 6) (nomark _)) (pss_one (ps_ret pe_bl)) pss_nil)
      (pss_cons (ps_set (i := 8) scOneRight.nd rfl (.inl rfl) (pe_call GDraw (hr.mono (by decide)) (by rfl) L.gDraw L.Draw.kp L.bDraw .nil pass0 (pa_cons (pv 0) (pa_cons (pe_op op_add (pe_callB call_len_seq (by rfl) B.len PySem.boot_len (pa_cons (pv 2) pa_nil)) pe_int) pa_nil))))
      (pss_cons (ps_set (i := 9) scOneRight.nd rfl (.inl rfl) (pe_meth (pv 1) T.ins.cl T2.mI GPutIn (hr.mono (by decide)) bPutIn .nil pass0 (pa_cons (pv 3) (pa_cons (pv 8) pa_nil))))
      (pss_cons (ps_if (pt_not (pt_val (pe_call GIsLine (hr.mono (by decide)) (by rfl) gIsLine FIsLine.kp bIsLine .nil pass0 (pa_cons (pv 9) (pa_cons (pe_op op_cat (pe_op op_cat (pe_slice sl_list (pv 2) po_none (po_some (pv 8))) (pe_lst (pa_cons (pv 3) pa_nil))) (pe_slice sl_list (pv 2) (po_some (pv 8)) po_none)) pa_nil))))) (pss_one (ps_ret pe_bl)) pss_nil)
      (pss_cons (ps_if (pt_cmpR (op_rcB (rcB_ownNe GLEq T.own bLEq pass0) (hr.mono (by decide))) (pe_meth (pv 9) T.ins.cl T2.mW GWithout (hr.mono (by decide)) bWithout .nil pass0 (pa_cons (pe_prop (pv 3) TA.ins.cl TA.pN GAName (hr.mono (by decide)) bAName .nil pass0 rfl) pa_nil)) (pv 1) (nomark _)) (pss_one (ps_ret pe_bl)) pss_nil)
      (pss_cons (ps_set (i := 10) scOneRight.nd rfl (.inl rfl) (pe_make TA.make GAInit (hr.mono (by decide)) (by rfl) gA bAInit .nil pass0 (pa_cons (pv 5) (pa_cons (pe_lst (pa_cons pe_str (pa_cons pe_str pa_nil))) (pa_cons (pe_op op_add pe_int (pe_prop (pe_ix ix_list (pv 2) (pv 4) (fun _ _ => rfl)) TA.ins.cl TA.pM GAMost (hr.mono (by decide)) bAMost .nil pass0 rfl)) pa_nil)))))
      (pss_cons (ps_set (i := 7) scOneRight.nd rfl (.inl rfl) (pe_meth (pv 1) T.ins.cl T2.mC GChanged (hr.mono (by decide)) bChanged .nil pass0 (pa_cons (pv 10) pa_nil)))
      (pss_cons (ps_if (pt_not (pt_val (pe_call GIsLine (hr.mono (by decide)) (by rfl) gIsLine FIsLine.kp bIsLine .nil pass0 (pa_cons (pv 7) (pa_cons (pe_op op_cat (pe_op op_cat (pe_slice sl_list (pv 2) po_none (po_some (pv 4))) (pe_lst (pa_cons (pv 10) pa_nil))) (pe_slice sl_list (pv 2) (po_some (pe_op op_add (pv 4) pe_int)) po_none)) pa_nil))))) (pss_one (ps_ret pe_bl)) pss_nil)
      (pss_cons (ps_if (pt_cmpR (op_rcB (rcB_ownNe GLEq T.own bLEq pass0) (hr.mono (by decide))) (pe_meth (pv 7) T.ins.cl T2.mC GChanged (hr.mono (by decide)) bChanged .nil pass0 (pa_cons (pe_ix ix_list (pv 2) (pv 4) (fun _ _ => rfl)) pa_nil)) (pv 1) (nomark _)) (pss_one (ps_ret pe_bl)) pss_nil)
      (pss_cons (ps_set (i := 11) scOneRight.nd rfl (.inl rfl) (pe_prop (pe_ix ix_list (pv 2) (pv 4) (fun _ _ => rfl)) TA.ins.cl TA.pF GAFits (hr.mono (by decide)) bAFits .nil pass0 rfl))
      (pss_cons (ps_if (pt_cmpR (op_rcB (rcB_own GLEq T.own bLEq pass0) (hr.mono (by decide))) (pe_meth (pv 1) T.ins.cl T2.mC GChanged (hr.mono (by decide)) bChanged .nil pass0 (pa_cons (pe_make TA.make GAInit (hr.mono (by decide)) (by rfl) gA bAInit .nil pass0 (pa_cons (pv 5) (pa_cons (pe_op op_cat (pe_slice sl_list (pv 11) (po_some pe_int) po_none) (pe_lst (pa_cons (pe_call GFree (hr.mono (by decide)) (by rfl) gFree FFree.kp bFree .nil pass0 (pa_cons (pv 11) pa_nil)) pa_nil))) (pa_cons (pe_prop (pe_ix ix_list (pv 2) (pv 4) (fun _ _ => rfl)) TA.ins.cl TA.pM GAMost (hr.mono (by decide)) bAMost .nil pass0 rfl) pa_nil)))) pa_nil)) (pv 1) (nomark _)) (pss_one (ps_ret pe_bl)) pss_nil)
      (pss_cons (ps_if (pt_cmpR (op_rcB (rcB_own GLEq T.own bLEq pass0) (hr.mono (by decide))) (pe_meth (pv 1) T.ins.cl T2.mC GChanged (hr.mono (by decide)) bChanged .nil pass0 (pa_cons (pe_make TA.make GAInit (hr.mono (by decide)) (by rfl) gA bAInit .nil pass0 (pa_cons (pv 5) (pa_cons (pe_prop (pe_ix ix_list (pv 2) (pv 4) (fun _ _ => rfl)) TA.ins.cl TA.pF GAFits (hr.mono (by decide)) bAFits .nil pass0 rfl) (pa_cons (pe_op op_add pe_int (pe_prop (pe_ix ix_list (pv 2) (pv 4) (fun _ _ => rfl)) TA.ins.cl TA.pM GAMost (hr.mono (by decide)) bAMost .nil pass0 rfl)) pa_nil)))) pa_nil)) (pv 1) (nomark _)) (pss_one (ps_ret pe_bl)) pss_nil)
      (pss_cons (ps_if (pt_cmpR (op_rcB (rcB_own GLEq T.own bLEq pass0) (hr.mono (by decide))) (pe_meth (pv 1) T.ins.cl T2.mC GChanged (hr.mono (by decide)) bChanged .nil pass0 (pa_cons (pe_make TA.make GAInit (hr.mono (by decide)) (by rfl) gA bAInit .nil pass0 (pa_cons (pv 5) (pa_cons (pe_op op_cat (pe_prop (pe_ix ix_list (pv 2) (pv 4) (fun _ _ => rfl)) TA.ins.cl TA.pF GAFits (hr.mono (by decide)) bAFits .nil pass0 rfl) (pe_lst (pa_cons (pe_call GFree (hr.mono (by decide)) (by rfl) gFree FFree.kp bFree .nil pass0 (pa_cons (pe_prop (pe_ix ix_list (pv 2) (pv 4) (fun _ _ => rfl)) TA.ins.cl TA.pF GAFits (hr.mono (by decide)) bAFits .nil pass0 rfl) pa_nil)) pa_nil))) (pa_cons (pe_prop (pe_ix ix_list (pv 2) (pv 4) (fun _ _ => rfl)) TA.ins.cl TA.pM GAMost (hr.mono (by decide)) bAMost .nil pass0 rfl) pa_nil)))) pa_nil)) (pv 1) (nomark _)) (pss_one (ps_ret pe_bl)) pss_nil)
      (pss_one (ps_ret (pe_cmpR (op_rcB (rcB_own GLEq T.own bLEq pass0) (hr.mono (by decide))) (pe_meth (pe_meth (pv 1) T.ins.cl T2.mW GWithout (hr.mono (by decide)) bWithout .nil pass0 (pa_cons (pv 5) pa_nil)) T.ins.cl T2.mI GPutIn (hr.mono (by decide)) bPutIn .nil pass0 (pa_cons (pe_ix ix_list (pv 2) (pv 4) (fun _ _ => rfl)) (pa_cons (pv 4) pa_nil))) (pv 1) (nomark _))))))))))))))))))))))), ?_⟩
    -- a place
    refine ⟨.ref p, rfl, .ref l, rfl, l, _, rfl, .inl hS, p, _, n, rfl, hP, by omega, by omega, small_bits (n := (as.map V.ref).length) (by omega), fun H1 r b1 p1 r0 r1 => ?_⟩
    obtain ⟨j, rfl⟩ : ∃ j : Nat, r = (j : Int) := ⟨r.toNat, by omega⟩
    have hj : j < ks.length := by omega
    obtain ⟨k, hk⟩ : ∃ k, ks[j]? = some k := ⟨_, List.getElem?_eq_getElem hj⟩
    obtain ⟨b, hb⟩ : ∃ b, as[j]? = some b := ⟨_, List.getElem?_eq_getElem (by omega)⟩
    have hrf : (as.map V.ref)[j]? = some (.ref b) := by rw [List.getElem?_map, hb] <;> rfl
    have hkm := List.mem_of_getElem? hk
    have kOk := (hok k hkm).1
    have kFew := few k hkm
    have askB : ∀ {G : Hp}, LineAt CL CA G a as ks → AskAt CA G b k := fun h => by
      obtain ⟨k', hk', A⟩ := h.asks.get hb
      rw [hk] at hk'
      cases hk'
      exact A
    have k1 := Kp.of_but b1
    have L1 := k1.line hP hL
    have S1 := k1.sql nlp hS
    have Sp1 := k1.ask hP hSp
    obtain ⟨db, fb, Ib⟩ := (askB L1).ins
    refine ⟨.ref l, rfl, .int j, rfl, l, _, _, .ref b, rfl, rfl, S1, atI_nat hrf, b, db, fb, rfl, Ib, b, k, rfl, askB L1, ?_⟩
    refine ⟨.ref p, rfl, .ref l, rfl, l, _, rfl, .inl S1, p, _, _, rfl, p1, by omega, by omega, small_bits (n := (as.map V.ref).length) (by omega), fun H2 r2 b2 p2 r20 r21 => ⟨_, _, rfl, ?_⟩⟩
    obtain ⟨i, rfl⟩ : ∃ i : Nat, r2 = (i : Int) := ⟨r2.toNat, by omega⟩
    have hi : i < ks.length := by omega
    have k2 := Kp.of_but b2
    have L2 := k2.line p1 L1
    have S2 := k2.sql nlp S1
    have Sp2 := k2.ask p1 Sp1
    clear Ib
    obtain ⟨dx, xf, I2⟩ := L2.ins
    have nofl : ∀ m : Str, ("_askers" : Str) ≠ m → xf.lookup m = none := fun m => L2.nofld I2 m
    have lrm := rm_len (xs := as) (j := j) (by omega)
    have lrk := rm_len (xs := ks) (j := j) hj
    have ndrm : ((ks.take j ++ ks.drop (j + 1)).map Ask.nm).Nodup := hnd.sublist ((drop_sub ks j).map _)
    have crm : ∀ c ∈ ks.take j ++ ks.drop (j + 1), c ∈ ks := fun c hc => (drop_sub ks j).subset hc
    have e1j : ((j : Int) + 1) = ((j + 1 : Nat) : Int) := by omega
    -- without it; moved to where it is
    refine ⟨.ref a, rfl, a, dx, xf, rfl, I2, nofl _ (by decide), .str k.nm, rfl, a, as, ks, j, k, rfl, L2, by omega, hnd, hk, fun H3 c3 s3 LC3 => ?_⟩
    refine ⟨.ref l, rfl, .int j, rfl, j, rfl, l, _, rfl, s3.seq S2, fun q1 n1 => ?_⟩
    rw [cut_to (by omega)]
    have g1 := Same.fresh (o := .lst ((as.take j).map V.ref)) n1
    refine ⟨.ref l, rfl, .int j, rfl, j, 1, rfl, rfl, _, rfl, l, _, rfl, (s3.trans g1).seq S2, fun q2 n2 => ?_⟩
    rw [e1j, cut_from (by omega)]
    have g2 := Same.fresh (o := .lst ((as.drop (j + 1)).map V.ref)) n2
    refine ⟨q1, q2, _, _, rfl, rfl, g2 _ _ upd_same, upd_same, by rw [List.length_map, List.length_map, List.length_take, List.length_drop, sizeLine_eq]; omega, fun q3 n3 => ?_⟩
    have g3 := Same.fresh (o := .lst ((as.take j).map V.ref ++ (as.drop (j + 1)).map V.ref)) n3
    have t3 := s3.trans (g1.trans (g2.trans g3))
    have A3 := (L2.same t3).asks
    refine made_line (as := as.take j ++ as.drop (j + 1)) (ks := ks.take j ++ ks.drop (j + 1)) (by rw [List.map_append]; exact SqL.of upd_same) ((A3.take j).append (A3.drop (j + 1))) (by omega) ndrm fun H4 d4 s4 nd4 LD4 => ?_
    refine ⟨false, dil_line T (LC3.same (g1.trans (g2.trans (g3.trans s4)))) LD4 (by simp), _, rfl, iteF ?_⟩
    have t4 := t3.trans s4
    clear t3 A3 g1 g2 g3 s3 LC3 LD4 n1 n2 n3
    refine ⟨.ref a, rfl, a, dx, xf, rfl, t4 _ _ I2, nofl _ (by decide), .str k.nm, rfl, .int j, rfl, a, b, as, ks, j, k, j, rfl, L2.same t4, by omega, hnd, hk, hb, hj, fun H5 c5 s5 LC5 => ?_⟩
    have t5 := t4.trans s5
    refine ⟨.ref a, rfl, false, dil_line T LC5 (L2.same t5) (by rw [rm_ins hk]; simp), _, rfl, iteF ?_⟩
    clear LC5
    -- moved elsewhere
    refine ⟨.ref a, rfl, a, dx, xf, rfl, t5 _ _ I2, nofl _ (by decide), .str k.nm, rfl, .int i, rfl, a, b, as, ks, j, k, i, rfl, L2.same t5, by omega, hnd, hk, hb, hi, fun H6 td s6 LT => ?_⟩
    have t6 := t5.trans s6
    have pmv := moved_perm i hk
    have ndm : ((ins3 (ks.take j ++ ks.drop (j + 1)) i i k).map Ask.nm).Nodup := (pmv.map _).nodup_iff.mpr hnd
    have lmk : (ins3 (ks.take j ++ ks.drop (j + 1)) i i k).length = ks.length := pmv.length_eq
    have hmk : (ins3 (ks.take j ++ ks.drop (j + 1)) i i k)[i]? = some k := ins3_at i (by omega)
    have hmb : (ins3 (as.take j ++ as.drop (j + 1)) i i b)[i]? = some b := ins3_at i (by omega)
    obtain ⟨dt, tf, It⟩ := LT.ins
    have noft : ∀ m : Str, ("_askers" : Str) ≠ m → tf.lookup m = none := fun m => LT.nofld It m
    refine ⟨.ref td, rfl, .ref l, rfl, .str k.nm, rfl, .int i, rfl, l, b, as, ks, j, k, i, rfl, t6.seq S2, (L2.same t6).asks, by omega, hnd, hk, hb, hi, fun H7 lq s7 eq7 => ?_⟩
    refine ⟨td, lq, _, _, _, rfl, LT.same s7, SqL.of eq7, by omega, ndm, fun c hc => okU c (pmv.mem_iff.mp hc), lU, fun H8 s8 => ⟨true, rfl, iteF ?_⟩⟩
    have t78 := s7.trans s8
    refine ⟨.ref td, rfl, td, dt, tf, rfl, t78 _ _ It, noft _ (by decide), .str k.nm, rfl, .int j, rfl, td, b, _, _, i, k, j, rfl, LT.same t78, by omega, ndm, hmk, hmb, by omega, fun H9 c9 s9 LC9 => ?_⟩
    have t9 := t6.trans (t78.trans s9)
    refine ⟨.ref a, rfl, false, dil_line T LC9 (L2.same t9) (by rw [ins3_rm (by omega), rm_ins hk]; simp), _, rfl, iteF ?_⟩
    clear LC9 eq7
    -- without it, looked at
    refine ⟨.ref a, rfl, a, dx, xf, rfl, t9 _ _ I2, nofl _ (by decide), .str k.nm, rfl, a, as, ks, j, k, rfl, L2.same t9, by omega, hnd, hk, fun H10 c10 s10 LC10 => ?_⟩
    have t10 := t9.trans s10
    refine ⟨.ref l, rfl, .int j, rfl, j, rfl, l, _, rfl, t10.seq S2, fun q1 n1 => ?_⟩
    rw [cut_to (by omega)]
    have g1 := Same.fresh (o := .lst ((as.take j).map V.ref)) n1
    refine ⟨.ref l, rfl, .int j, rfl, j, 1, rfl, rfl, _, rfl, l, _, rfl, (t10.trans g1).seq S2, fun q2 n2 => ?_⟩
    rw [e1j, cut_from (by omega)]
    have g2 := Same.fresh (o := .lst ((as.drop (j + 1)).map V.ref)) n2
    refine ⟨q1, q2, _, _, rfl, rfl, g2 _ _ upd_same, upd_same, by rw [List.length_map, List.length_map, List.length_take, List.length_drop, sizeLine_eq]; omega, fun q3 n3 => ?_⟩
    have g3 := Same.fresh (o := .lst ((as.take j).map V.ref ++ (as.drop (j + 1)).map V.ref)) n3
    refine ⟨c10, q3, _, _, _, rfl, LC10.same (g1.trans (g2.trans g3)), by rw [List.map_append]; exact SqL.of upd_same, by omega, ndrm, fun c hc => okU c (crm c hc), lU, fun H11 s11 => ⟨true, rfl, iteF ?_⟩⟩
    have g11 := g1.trans (g2.trans (g3.trans s11))
    have t11 := t10.trans g11
    have t611 := t78.trans (s9.trans (s10.trans g11))
    clear g11 g1 g2 g3 LC10 n1 n2 n3 s10 s11
    -- its place
    refine ⟨.ref td, rfl, td, dt, tf, rfl, t611 _ _ It, noft _ (by decide), .str k.nm, rfl, td, _, _, k.nm, i, k, rfl, LT.same t611, by omega, ndm, hmk, rfl, fun H12 s12 => ⟨.int i, rfl, rfl, _, rfl, ?_⟩⟩
    rw [decide_eq_true rfl]
    have t12 := t11.trans s12
    have L12 := L2.same t12
    have S12 := t12.seq S2
    have Sp12 := Sp2.same t12
    have P12 := p2.same t12
    clear LT It noft t611 t78 s9 t9 t6 t5 t4
    -- a further one put in
    refine iteF ⟨.ref p, rfl, .ref l, rfl, l, _, rfl, .inl S12, _, _, rfl, rfl, p, _, _, rfl, P12, by omega, by omega, small_bits (n := (as.map V.ref).length + 1) (by omega), fun H13 r3 b3 p3 r30 r31 => ?_⟩
    obtain ⟨e, rfl⟩ : ∃ e : Nat, r3 = (e : Int) := ⟨r3.toNat, by omega⟩
    have he : e ≤ ks.length := by omega
    have k3 := Kp.of_but b3
    have L13 := k3.line P12 L12
    have S13 := k3.sql nlp S12
    have Sp13 := k3.ask P12 Sp12
    have kAll : Kp p H H13 := k1.trans (k2.trans ((Kp.same t12).trans k3))
    clear L12 S12 Sp12 t12 L2 S2 Sp2 L1 S1 Sp1 I2 nofl
    obtain ⟨dx, xf, I3⟩ := L13.ins
    have nofl : ∀ m : Str, ("_askers" : Str) ≠ m → xf.lookup m = none := fun m => L13.nofld I3 m
    refine ⟨.ref a, rfl, a, dx, xf, rfl, I3, nofl _ (by decide), .ref sp, rfl, .int e, rfl, a, sp, as, ks, ksp, e, rfl, L13, Sp13, by omega, hnd, nSp, he, fun H14 mo s14 LM => ?_⟩
    have pmi := perm_ins ks e ksp
    have ndi : ((ins3 ks e e ksp).map Ask.nm).Nodup := by
      refine (pmi.map _).nodup_iff.mpr ?_
      rw [List.map_append]
      exact nodup_more hnd nSp
    have oki : ∀ c ∈ ins3 ks e e ksp, AskOk c ∧ ∀ x ∈ c.ks, x ∈ ("zzzzz" : Str) :: ("zz" : Str) :: U := fun c hc => by
      rcases List.mem_append.mp (pmi.mem_iff.mp hc) with z | z
      · exact okU c z
      · rw [List.mem_singleton.mp z]
        exact ⟨oSp, fun x hx => List.mem_cons_of_mem _ (List.mem_cons_of_mem _ (hUsp x hx))⟩
    have lmi := ins3_len (xs := ks) (y := ksp) he
    obtain ⟨dm, mf, Im⟩ := LM.ins
    have nofm : ∀ m : Str, ("_askers" : Str) ≠ m → mf.lookup m = none := fun m => LM.nofld Im m
    refine ⟨.ref mo, rfl, .ref l, rfl, .int e, rfl, e, rfl, l, _, rfl, s14.seq S13, fun q1 n1 => ?_⟩
    rw [cut_to (by omega)]
    have g1 := Same.fresh (o := .lst ((as.take e).map V.ref)) n1
    refine ⟨.ref sp, rfl, (by show 1 ≤ sizeLine; decide), fun q2 n2 => ?_⟩
    have g2 := Same.fresh (o := .lst [.ref sp]) n2
    refine ⟨q1, q2, _, _, rfl, rfl, g2 _ _ upd_same, upd_same, by rw [List.length_map, List.length_take, sizeLine_eq]; show min e _ + 1 ≤ _; omega, fun q3 n3 => ?_⟩
    have g3 := Same.fresh (o := .lst ((as.take e).map V.ref ++ [.ref sp])) n3
    refine ⟨.ref l, rfl, .int e, rfl, e, rfl, l, _, rfl, (s14.trans (g1.trans (g2.trans g3))).seq S13, fun q4 n4 => ?_⟩
    rw [cut_from (by omega)]
    have g4 := Same.fresh (o := .lst ((as.drop e).map V.ref)) n4
    refine ⟨q3, q4, _, _, rfl, rfl, g4 _ _ upd_same, upd_same, by rw [List.length_append, List.length_map, List.length_map, List.length_take, List.length_drop, sizeLine_eq]; show min e _ + 1 + _ ≤ _; omega, fun q5 n5 => ?_⟩
    have g5 := Same.fresh (o := .lst ((as.take e).map V.ref ++ [.ref sp] ++ (as.drop e).map V.ref)) n5
    have g15 := g1.trans (g2.trans (g3.trans (g4.trans g5)))
    refine ⟨mo, q5, ins3 as e e sp, ins3 ks e e ksp, _, rfl, LM.same g15, by rw [List.map_append, List.map_append, ← List.append_assoc]; exact SqL.of upd_same, by omega, ndi, oki, lU, fun H15 s15 => ⟨true, rfl, iteF ?_⟩⟩
    have g15 := g15.trans s15
    have t15 := s14.trans g15
    clear g1 g2 g3 g4 g5 n1 n2 n3 n4 n5 s15
    obtain ⟨ds, sf, Is⟩ := (Sp13.same t15).ins
    refine ⟨.ref mo, rfl, mo, dm, mf, rfl, g15 _ _ Im, nofm _ (by decide), .ref sp, rfl, sp, ds, sf, rfl, Is, sp, ksp, rfl, Sp13.same t15, mo, _, _, e, ksp, rfl, LM.same g15, by omega, ndi, ins3_at e he, fun H16 c16 s16 LC16 => ?_⟩
    have t16 := t15.trans s16
    refine ⟨.ref a, rfl, false, dil_line T LC16 (L13.same t16) (by rw [ins3_rm he]; simp), _, rfl, iteF ?_⟩
    clear LC16 LM Im nofm g15 Is
    -- another asker of its name
    obtain ⟨db, fb, Ib⟩ := (askB L13).ins
    refine ⟨.str k.nm, rfl, (by show 2 ≤ sizeLine; decide), fun lz nz => ?_⟩
    have g1 := Same.fresh (o := .lst [.str "zzzzz", .str "zz"]) nz
    have t17 := t16.trans g1
    refine ⟨.ref l, rfl, .int j, rfl, l, _, _, .ref b, rfl, rfl, t17.seq S13, atI_nat hrf, b, db, fb, rfl, t17 _ _ Ib, b, k, rfl, askB (L13.same t17), 1, _, rfl, rfl, ?_⟩
    have zok : (∀ y ∈ (["zzzzz", "zz"] : List Str), IsWord y) ∧ (["zzzzz", "zz"] : List Str).Nodup := by decide +kernel
    refine made_asker (ys := ["zzzzz", "zz"]) kOk.nm (SqL.of upd_same) zok.1 zok.2 (by simp) (by decide) (by have := kOk.m; omega) fun H17 o zs s17 no AO pz so => ?_
    have t18 := t17.trans s17
    clear t17 g1
    have oko : AskOk ⟨k.nm, zs, 1 + k.m⟩ := ⟨kOk.nm, fun y hy => zok.1 y (pz.mem_iff.mp hy), pz.nodup_iff.mpr zok.2, fun z => by have := pz.length_eq; rw [show zs = [] from z] at this; simp at this, by show zs.length < 64; rw [pz.length_eq]; decide, so, by have := kOk.m; show 1 ≤ 1 + k.m; omega⟩
    refine ⟨.ref a, rfl, a, dx, xf, rfl, t18 _ _ I3, nofl _ (by decide), .ref o, rfl, a, o, as, ks, j, k, ⟨k.nm, zs, 1 + k.m⟩, rfl, L13.same t18, AO, by omega, hnd, hk, rfl, fun H18 t2 s18 LT2 => ?_⟩
    have t19 := t18.trans s18
    have lsk := set_len (xs := ks) (y := (⟨k.nm, zs, 1 + k.m⟩ : Ask)) hj
    have nds : ((ins3 ks j (j + 1) (⟨k.nm, zs, 1 + k.m⟩ : Ask)).map Ask.nm).Nodup := by rw [names_kept (k := (⟨k.nm, zs, 1 + k.m⟩ : Ask)) hk rfl]; exact hnd
    have oks : ∀ c ∈ ins3 ks j (j + 1) (⟨k.nm, zs, 1 + k.m⟩ : Ask), AskOk c ∧ ∀ x ∈ c.ks, x ∈ ("zzzzz" : Str) :: ("zz" : Str) :: U := fun c hc => by
      rcases List.mem_append.mp hc with z | z
      · exact okU c (List.mem_of_mem_take z)
      rcases List.mem_append.mp z with z | z
      · rw [List.mem_singleton.mp z]
        refine ⟨oko, fun x hx => ?_⟩
        have := pz.mem_iff.mp hx
        simp only [List.mem_cons, List.not_mem_nil, or_false] at this
        rcases this with rfl | rfl <;> simp
      · exact okU c (List.mem_of_mem_drop z)
    obtain ⟨d2, f2, It2⟩ := LT2.ins
    have nof2 : ∀ m : Str, ("_askers" : Str) ≠ m → f2.lookup m = none := fun m => LT2.nofld It2 m
    refine ⟨.ref t2, rfl, .ref l, rfl, .int j, rfl, j, rfl, l, _, rfl, t19.seq S13, fun q1 n1 => ?_⟩
    rw [cut_to (by omega)]
    have g1 := Same.fresh (o := .lst ((as.take j).map V.ref)) n1
    refine ⟨.ref o, rfl, (by show 1 ≤ sizeLine; decide), fun q2 n2 => ?_⟩
    have g2 := Same.fresh (o := .lst [.ref o]) n2
    refine ⟨q1, q2, _, _, rfl, rfl, g2 _ _ upd_same, upd_same, by rw [List.length_map, List.length_take, sizeLine_eq]; show min j _ + 1 ≤ _; omega, fun q3 n3 => ?_⟩
    have g3 := Same.fresh (o := .lst ((as.take j).map V.ref ++ [.ref o])) n3
    refine ⟨.ref l, rfl, .int j, rfl, j, 1, rfl, rfl, _, rfl, l, _, rfl, (t19.trans (g1.trans (g2.trans g3))).seq S13, fun q4 n4 => ?_⟩
    rw [e1j, cut_from (by omega)]
    have g4 := Same.fresh (o := .lst ((as.drop (j + 1)).map V.ref)) n4
    refine ⟨q3, q4, _, _, rfl, rfl, g4 _ _ upd_same, upd_same, by rw [List.length_append, List.length_map, List.length_map, List.length_take, List.length_drop, sizeLine_eq]; show min j _ + 1 + _ ≤ _; omega, fun q5 n5 => ?_⟩
    have g5 := Same.fresh (o := .lst ((as.take j).map V.ref ++ [.ref o] ++ (as.drop (j + 1)).map V.ref)) n5
    have g15 := g1.trans (g2.trans (g3.trans (g4.trans g5)))
    refine ⟨t2, q5, ins3 as j (j + 1) o, ins3 ks j (j + 1) ⟨k.nm, zs, 1 + k.m⟩, _, rfl, LT2.same g15, by rw [List.map_append, List.map_append, ← List.append_assoc]; exact SqL.of upd_same, by omega, nds, oks, lU, fun H19 s19 => ⟨true, rfl, iteF ?_⟩⟩
    have g15 := g15.trans s19
    have t20 := t19.trans g15
    clear g1 g2 g3 g4 g5 n1 n2 n3 n4 n5 s19
    refine ⟨.ref t2, rfl, t2, d2, f2, rfl, g15 _ _ It2, nof2 _ (by decide), .ref l, rfl, .int j, rfl, l, _, _, .ref b, rfl, rfl, t20.seq S13, atI_nat hrf, t2, b, _, _, j, ⟨k.nm, zs, 1 + k.m⟩, k, rfl, LT2.same g15, askB (L13.same t20), by omega, nds, ins3_at (j + 1) (by omega), rfl, fun H20 c20 s20 LC20 => ?_⟩
    have t21 := t20.trans s20
    refine ⟨.ref a, rfl, false, dil_line T LC20 (L13.same t21) (by rw [set_back _ hk]; simp), _, rfl, iteF ?_⟩
    clear LC20 LT2 It2 nof2 g15 AO
    -- its fits
    refine ⟨.ref l, rfl, .int j, rfl, l, _, _, .ref b, rfl, rfl, t21.seq S13, atI_nat hrf, b, db, fb, rfl, t21 _ _ Ib, b, k, rfl, askB (L13.same t21), fun pf nf => ?_⟩
    have t22 := t21.trans (Same.fresh (o := .lst (k.ks.map V.str)) nf)
    have e22 : upd H20 pf (.lst (k.ks.map V.str)) pf = some (.lst (k.ks.map V.str)) := upd_same
    generalize upd H20 pf (.lst (k.ks.map V.str)) = H21 at t22 e22
    have kl1 : 1 ≤ k.ks.length := by
      cases e : k.ks with
      | nil => exact absurd e kOk.ne
      | cons _ _ => exact Nat.succ_pos _
    -- another kind in the place of one
    refine ⟨.ref a, rfl, a, dx, xf, rfl, t22 _ _ I3, nofl _ (by decide), .str k.nm, rfl, .ref pf, rfl, _, rfl, pf, _, rfl, SqL.of e22, fun q1 n1 => ?_⟩
    rw [cut_one kl1]
    have g1 := Same.fresh (o := .lst ((k.ks.drop 1).map V.str)) n1
    have e1 : upd H21 q1 (.lst ((k.ks.drop 1).map V.str)) q1 = some (.lst ((k.ks.drop 1).map V.str)) := upd_same
    generalize upd H21 q1 (.lst ((k.ks.drop 1).map V.str)) = G1 at g1 e1
    refine ⟨.ref pf, rfl, pf, k.ks, rfl, SqL.of (g1 _ _ e22), free_few (by omega), fun G2 x g2 xw xn _ => ⟨(by show 1 ≤ sizeLine; decide), fun q2 n2 => ?_⟩⟩
    have g3 := Same.fresh (o := .lst [.str x]) n2
    refine ⟨q1, q2, _, _, rfl, rfl, (g2.trans g3) _ _ e1, upd_same, by rw [List.length_map, List.length_drop, sizeLine_eq]; show k.ks.length - 1 + 1 ≤ _; omega, fun q3 n3 => ?_⟩
    have g4 := Same.fresh (o := .lst ((k.ks.drop 1).map V.str ++ [.str x])) n3
    have t23 := t22.trans (g1.trans (g2.trans (g3.trans g4)))
    have dn : (k.ks.drop 1 ++ [x]).Nodup := nodup_more (kOk.nd.sublist (List.drop_sublist _ _)) fun z => xn (List.mem_of_mem_drop z)
    refine ⟨.ref l, rfl, .int j, rfl, l, _, _, .ref b, rfl, rfl, t23.seq S13, atI_nat hrf, b, db, fb, rfl, t23 _ _ Ib, b, k, rfl, askB (L13.same t23), ?_⟩
    refine made_asker (ys := k.ks.drop 1 ++ [x]) kOk.nm (by rw [List.map_append]; exact SqL.of upd_same) (fun y hy => (List.mem_append.mp hy).elim (fun z => kOk.ks y (List.mem_of_mem_drop z)) fun z => by rw [List.mem_singleton.mp z]; exact xw) dn (by simp) (by rw [List.length_append, List.length_drop]; show k.ks.length - 1 + 1 < 64; omega) kOk.m fun G5 o5 z5 s5 no5 A5 pz5 so5 => ?_
    have t24 := t23.trans s5
    refine ⟨a, o5, as, ks, j, k, ⟨k.nm, z5, k.m⟩, rfl, L13.same t24, A5, by omega, hnd, hk, rfl, fun G6 c6 s6 LC6 => ?_⟩
    have t25 := t24.trans s6
    refine ⟨.ref a, rfl, false, dil_line T LC6 (L13.same t25) (decide_eq_false fun z => ?_).symm, _, rfl, iteF ?_⟩
    · have z := congrArg Ask.ks (set_same hk z)
      have m : x ∈ z5 := pz5.mem_iff.mpr (List.mem_append_right _ (List.mem_singleton.mpr rfl))
      rw [show z5 = k.ks from z] at m
      exact xn m
    clear LC6 A5 t24 t23 g1 g2 g3 g4 e1
    -- another most
    refine ⟨.ref a, rfl, a, dx, xf, rfl, t25 _ _ I3, nofl _ (by decide), .str k.nm, rfl, .ref l, rfl, .int j, rfl, l, _, _, .ref b, rfl, rfl, t25.seq S13, atI_nat hrf, b, db, fb, rfl, t25 _ _ Ib, b, k, rfl, askB (L13.same t25), fun pg ng => ?_⟩
    have t26 := t25.trans (Same.fresh (o := .lst (k.ks.map V.str)) ng)
    refine ⟨.ref l, rfl, .int j, rfl, l, _, _, .ref b, rfl, rfl, t26.seq S13, atI_nat hrf, b, db, fb, rfl, t26 _ _ Ib, b, k, rfl, askB (L13.same t26), 1, _, rfl, rfl, ?_⟩
    refine made_asker (ys := k.ks) kOk.nm (SqL.of upd_same) kOk.ks kOk.nd kOk.ne kOk.lt (by have := kOk.m; omega) fun G7 o7 z7 s7 no7 A7 pz7 so7 => ?_
    have t27 := t26.trans s7
    refine ⟨a, o7, as, ks, j, k, ⟨k.nm, z7, 1 + k.m⟩, rfl, L13.same t27, A7, by omega, hnd, hk, rfl, fun G8 c8 s8 LC8 => ?_⟩
    have t28 := t27.trans s8
    refine ⟨.ref a, rfl, false, dil_line T LC8 (L13.same t28) (decide_eq_false fun z => ?_).symm, _, rfl, iteF ?_⟩
    · have z : 1 + k.m = k.m := congrArg Ask.m (set_same hk z)
      omega
    clear LC8 A7 t27 t26
    -- one kind more
    refine ⟨.ref a, rfl, a, dx, xf, rfl, t28 _ _ I3, nofl _ (by decide), .str k.nm, rfl, .ref l, rfl, .int j, rfl, l, _, _, .ref b, rfl, rfl, t28.seq S13, atI_nat hrf, b, db, fb, rfl, t28 _ _ Ib, b, k, rfl, askB (L13.same t28), fun ph nh => ?_⟩
    have t29 := t28.trans (Same.fresh (o := .lst (k.ks.map V.str)) nh)
    have e29 : upd G8 ph (.lst (k.ks.map V.str)) ph = some (.lst (k.ks.map V.str)) := upd_same
    generalize upd G8 ph (.lst (k.ks.map V.str)) = G9 at t29 e29
    refine ⟨.ref l, rfl, .int j, rfl, l, _, _, .ref b, rfl, rfl, t29.seq S13, atI_nat hrf, b, db, fb, rfl, t29 _ _ Ib, b, k, rfl, askB (L13.same t29), fun pi ni => ?_⟩
    have g1 := Same.fresh (o := .lst (k.ks.map V.str)) ni
    refine ⟨pi, k.ks, rfl, SqL.of upd_same, free_few (by omega), fun G10 x g2 xw xn _ => ⟨(by show 1 ≤ sizeLine; decide), fun q2 n2 => ?_⟩⟩
    have g3 := Same.fresh (o := .lst [.str x]) n2
    refine ⟨ph, q2, _, _, rfl, rfl, (g1.trans (g2.trans g3)) _ _ e29, upd_same, by rw [List.length_map, sizeLine_eq]; show k.ks.length + 1 ≤ _; omega, fun q3 n3 => ?_⟩
    have g4 := Same.fresh (o := .lst (k.ks.map V.str ++ [.str x])) n3
    have t30 := t29.trans (g1.trans (g2.trans (g3.trans g4)))
    refine ⟨.ref l, rfl, .int j, rfl, l, _, _, .ref b, rfl, rfl, t30.seq S13, atI_nat hrf, b, db, fb, rfl, t30 _ _ Ib, b, k, rfl, askB (L13.same t30), ?_⟩
    refine made_asker (ys := k.ks ++ [x]) kOk.nm (by rw [List.map_append]; exact SqL.of upd_same) (fun y hy => (List.mem_append.mp hy).elim (fun z => kOk.ks y z) fun z => by rw [List.mem_singleton.mp z]; exact xw) (nodup_more kOk.nd xn) (by simp) (by rw [List.length_append]; show k.ks.length + 1 < 64; omega) kOk.m fun G11 o11 z11 s11 no11 A11 pz11 so11 => ?_
    have t31 := t30.trans s11
    refine ⟨a, o11, as, ks, j, k, ⟨k.nm, z11, k.m⟩, rfl, L13.same t31, A11, by omega, hnd, hk, rfl, fun G12 c12 s12 LC12 => ?_⟩
    have t32 := t31.trans s12
    refine ⟨.ref a, rfl, false, dil_line T LC12 (L13.same t32) (decide_eq_false fun z => ?_).symm, _, rfl, iteF ?_⟩
    · have z := congrArg Ask.ks (set_same hk z)
      have m : x ∈ z11 := pz11.mem_iff.mpr (List.mem_append_right _ (List.mem_singleton.mpr rfl))
      rw [show z11 = k.ks from z] at m
      exact xn m
    clear LC12 A11 t31 t30 t29 g1 g2 g3 g4 e29
    -- out and in again
    refine ⟨.ref a, rfl, a, dx, xf, rfl, t32 _ _ I3, nofl _ (by decide), .str k.nm, rfl, a, as, ks, j, k, rfl, L13.same t32, by omega, hnd, hk, fun G13 c13 s13 LC13 => ?_⟩
    have t33 := t32.trans s13
    obtain ⟨dc, cf, Ic⟩ := LC13.ins
    refine ⟨c13, dc, cf, rfl, Ic, LC13.nofld Ic _ (by decide), .ref l, rfl, .int j, rfl, l, _, _, .ref b, rfl, rfl, t33.seq S13, atI_nat hrf, .int j, rfl, c13, b, _, _, k, j, rfl, LC13, askB (L13.same t33), by omega, ndrm, not_in_rest hnd hk, by omega, fun G14 c14 s14 LC14 => ?_⟩
    have t34 := t33.trans s14
    refine ⟨.ref a, rfl, true, dil_line T LC14 (L13.same t34) (by rw [rm_ins hk]; simp), ?_⟩
    exact q G14 (kAll.trans (Kp.same t34)) ((p3.same t34).mono (by omega))
end
end Eld
end L2

set_option Elab.async false
set_option linter.all false
set_option maxRecDepth 100000
set_option maxHeartbeats 8000000
/-! ## the law's own def -/
namespace L2
namespace Eld
open PySem PySem.Spec PyProof.Rows PySem.EldX
def spLaw (K : PySem.W.Frag) : Sp := fun vs H Q _ => ∃ (a : Addr) (ns : List Int), vs = [.ref a] ∧ SqL K H a (ns.map V.int) ∧ ns.length ≤ 63 ∧ ∀ H' : Hp, Q (.bl true) H'
theorem purse_kp {p q : Addr} {H H' : Hp} {n : Nat} (h : PurseAt H q n) (k : Kp p H H') (ne : q ≠ p) : PurseAt H' q n := by
  obtain ⟨o, e⟩ := h.some
  exact h.of_eq ((k q o ne e).trans e.symm)
/-! ### askers in another order -/
def PairOf (as : List Addr) (cs : List Ask) (bs : List Addr) (ls : List Ask) : Prop := bs.length = ls.length ∧ ∀ (i : Nat) (b : Addr), bs[i]? = some b → ∃ (j : Nat) (k : Ask), cs[j]? = some k ∧ as[j]? = some b ∧ ls[i]? = some k
theorem perm_zip {α β : Type} {as bs : List α} (p : as.Perm bs) : ∀ {ks : List β}, as.length = ks.length → ∃ ls, ls.length = bs.length ∧ (as.zip ks).Perm (bs.zip ls) := by
  induction p with
  | nil =>
    intro ks h
    exact ⟨[], rfl, by simp⟩
  | cons x p ih =>
    intro ks h
    match ks, h with
    | k :: ks, h =>
      obtain ⟨ls, l, q⟩ := ih (ks := ks) (by simpa using h)
      exact ⟨k :: ls, by simpa using l, by simpa using q.cons (x, k)⟩
  | swap x y l =>
    intro ks h
    match ks, h with
    | k1 :: k2 :: ks, h => exact ⟨k2 :: k1 :: ks, by simpa using h.symm, by simpa using List.Perm.swap (x, k2) (y, k1) (l.zip ks)⟩
  | trans p1 p2 ih1 ih2 =>
    intro ks h
    obtain ⟨ls, l1, q1⟩ := ih1 h
    obtain ⟨ms, l2, q2⟩ := ih2 l1.symm
    exact ⟨ms, l2, q1.trans q2⟩
theorem perm_refs {ys : List V} {xs : List Addr} (h : ys.Perm (xs.map V.ref)) : ∃ zs : List Addr, ys = zs.map V.ref ∧ xs.Perm zs := by
  obtain ⟨ls, l, q⟩ := perm_zip (β := Addr) h.symm (ks := xs) (by rw [List.length_map])
  have m : ∀ p ∈ (xs.map V.ref).zip xs, p.1 = V.ref p.2 := fun p hp => by
    obtain ⟨i, hi⟩ := List.mem_iff_getElem?.mp hp
    obtain ⟨h1, h2⟩ := List.getElem?_zip_eq_some.mp hi
    rw [List.getElem?_map, h2] at h1
    exact (Option.some.inj h1).symm
  refine ⟨ls, eq_map_of l.symm fun i y e => ?_, ?_⟩
  · have hi : i < ls.length := by
      rw [l]
      exact (List.getElem?_eq_some_iff.mp e).1
    refine ⟨ls[i], List.getElem?_eq_getElem hi, ?_⟩
    have hz : (ys.zip ls)[i]? = some (y, ls[i]) := List.getElem?_zip_eq_some.mpr ⟨e, List.getElem?_eq_getElem hi⟩
    exact m (y, ls[i]) (q.mem_iff.mpr (List.mem_of_getElem? hz))
  · have := q.map Prod.snd
    rwa [List.map_snd_zip (Nat.le_of_eq (by rw [List.length_map])), List.map_snd_zip (Nat.le_of_eq l)] at this
theorem pair_perm {as bs : List Addr} {cs : List Ask} (p : as.Perm bs) (h : as.length = cs.length) : ∃ ls, PairOf as cs bs ls ∧ cs.Perm ls := by
  obtain ⟨ls, l, q⟩ := perm_zip p h
  refine ⟨ls, ⟨l.symm, fun i b e => ?_⟩, ?_⟩
  · have hi : i < ls.length := by
      rw [l]
      exact (List.getElem?_eq_some_iff.mp e).1
    have hz : (bs.zip ls)[i]? = some (b, ls[i]) := List.getElem?_zip_eq_some.mpr ⟨e, List.getElem?_eq_getElem hi⟩
    have m := q.mem_iff.mpr (List.mem_of_getElem? hz)
    obtain ⟨j, hj⟩ := List.mem_iff_getElem?.mp m
    obtain ⟨h1, h2⟩ := List.getElem?_zip_eq_some.mp hj
    exact ⟨j, ls[i], h2, h1, List.getElem?_eq_getElem hi⟩
  · have := q.map Prod.snd
    rwa [List.map_snd_zip (Nat.le_of_eq h.symm), List.map_snd_zip (Nat.le_of_eq l)] at this
theorem pair_id {as : List Addr} {cs : List Ask} (h : as.length = cs.length) : PairOf as cs as cs := ⟨h, fun i b e => by
  have hi : i < cs.length := by
    rw [← h]
    exact (List.getElem?_eq_some_iff.mp e).1
  exact ⟨i, cs[i], List.getElem?_eq_getElem hi, e, List.getElem?_eq_getElem hi⟩⟩
theorem pair_rev {as bs : List Addr} {cs ls : List Ask} (h : PairOf as cs bs ls) : PairOf as cs bs.reverse ls.reverse := by
  refine ⟨by rw [List.length_reverse, List.length_reverse]; exact h.1, fun i b e => ?_⟩
  have hi : i < bs.length := by
    have := (List.getElem?_eq_some_iff.mp e).1
    rwa [List.length_reverse] at this
  rw [List.getElem?_reverse hi] at e
  obtain ⟨j, k, h1, h2, h3⟩ := h.2 _ b e
  exact ⟨j, k, h1, h2, by rw [List.getElem?_reverse (by rw [← h.1]; exact hi), ← h.1]; exact h3⟩
theorem pair_asks {C : Addr} {H : Hp} {as bs : List Addr} {cs ls : List Ask} (hA : Asks C H as cs) (h : PairOf as cs bs ls) : Asks C H bs ls := asks_of h.1 fun i b e => by
  obtain ⟨j, k, h1, h2, h3⟩ := h.2 i b e
  obtain ⟨k', e', A⟩ := hA.get h2
  rw [h1] at e'
  cases e'
  exact ⟨k, h3, A⟩
theorem nodup_at {xs : List Str} (h : xs.Nodup) {i j : Nat} {x : Str} (hi : xs[i]? = some x) (hj : xs[j]? = some x) : i = j := by
  obtain ⟨l1, e1⟩ := List.getElem?_eq_some_iff.mp hi
  obtain ⟨l2, e2⟩ := List.getElem?_eq_some_iff.mp hj
  have p := List.pairwise_iff_getElem.mp h
  rcases Nat.lt_trichotomy i j with q | q | q
  · exact absurd (e1.trans e2.symm) (p i j l1 l2 q)
  · exact q
  · exact absurd (e2.trans e1.symm) (p j i l2 l1 q)
theorem pair_unique {as bs bs' : List Addr} {cs ls ls' : List Ask} (hnd : (cs.map Ask.nm).Nodup) (h : PairOf as cs bs ls) (h' : PairOf as cs bs' ls') (e : ls.map Ask.nm = ls'.map Ask.nm) : bs = bs' ∧ ls = ls' := by
  have le : ls.length = ls'.length := by
    have := congrArg List.length e
    rwa [List.length_map, List.length_map] at this
  have key : ∀ i, i < bs.length → bs[i]? = bs'[i]? ∧ ls[i]? = ls'[i]? := fun i hi => by
    have hb : bs[i]? = some bs[i] := List.getElem?_eq_getElem hi
    have hi' : i < bs'.length := by
      rw [h'.1, ← le, ← h.1]
      exact hi
    have hb' : bs'[i]? = some bs'[i] := List.getElem?_eq_getElem hi'
    obtain ⟨j, k, h1, h2, h3⟩ := h.2 i _ hb
    obtain ⟨j', k', h1', h2', h3'⟩ := h'.2 i _ hb'
    have en : (ls.map Ask.nm)[i]? = some k.nm := by rw [List.getElem?_map, h3] <;> rfl
    have en' : (ls'.map Ask.nm)[i]? = some k'.nm := by rw [List.getElem?_map, h3'] <;> rfl
    rw [e, en'] at en
    have nn : k'.nm = k.nm := Option.some.inj en
    have c1 : (cs.map Ask.nm)[j]? = some k.nm := by rw [List.getElem?_map, h1] <;> rfl
    have c2 : (cs.map Ask.nm)[j']? = some k.nm := by rw [List.getElem?_map, h1', ← nn] <;> rfl
    obtain rfl := nodup_at hnd c1 c2
    rw [h1] at h1'
    rw [h2] at h2'
    cases h1'
    exact ⟨by rw [hb, hb']; exact h2', by rw [h3, h3']⟩
  constructor
  · refine List.ext_getElem? fun i => ?_
    rcases Nat.lt_or_ge i bs.length with q | q
    · exact (key i q).1
    · rw [List.getElem?_eq_none q, List.getElem?_eq_none (by rw [h'.1, ← le, ← h.1]; exact q)]
  · refine List.ext_getElem? fun i => ?_
    rcases Nat.lt_or_ge i bs.length with q | q
    · exact (key i q).2
    · rw [List.getElem?_eq_none (by rw [← h.1]; exact q), List.getElem?_eq_none (by rw [← le, ← h.1]; exact q)]
theorem cut_few {ks : List Str} {j : Nat} : cutV (ks.map V.str) none (some (j : Int)) = (ks.take (min j ks.length)).map V.str := by
  rw [cutV_map, HT.sIx_none, HT.sIx_nat]
  simp
theorem words_of {cs : List Ask} (h : ∀ c ∈ cs, AskOk c) : ∀ y ∈ cs.map Ask.nm, IsWord y := fun y hy => by
  obtain ⟨c, hc, rfl⟩ := List.mem_map.mp hy
  exact (h c hc).nm
section
variable {P : Program} {w : World} {K : PySem.W.Frag} {mg : Str → Option Value} {base : Heap} {fM fD fO fS fW' : Addr} {dM dD dO dS dW' : FuncData} {CA fI pN gN pF gF pM gM fE CL fLI fLE fLL fLA fLN fLK fLR fLP fW fI2 fM2 fC2 fO2 : Addr}
/-- the defs, where they stand -/
structure Defs (K : PySem.W.Frag) (mg : Str → Option Value) (fPurse fPurses fNames fKinds fMost fLAsker fLLine fKindsOf fFree fLawMoved fIsLine fOneRight fAreAskers fNeedAsker fCount : Addr) (dPurse dPurses dNames dKinds dMost dLAsker dLLine dKindsOf dFree dLawMoved dIsLine dOneRight dAreAskers dNeedAsker dCount : FuncData) : Prop where
  Purse : Fun K "_law_purse" "_law_purse" sPurse fPurse dPurse
  Purses : Fun K "_law_purses" "_law_purses" sPurses fPurses dPurses
  Names : Fun K "_law_names" "_law_names" sNames fNames dNames
  Kinds : Fun K "_law_kinds" "_law_kinds" sKinds fKinds dKinds
  Most : Fun K "_law_most" "_law_most" sMost fMost dMost
  LAsker : Fun K "_law_asker" "_law_asker" sLAsker fLAsker dLAsker
  LLine : Fun K "_law_line" "_law_line" sLLine fLLine dLLine
  KindsOf : Fun K "_law_kinds_of" "_law_kinds_of" sKindsOf fKindsOf dKindsOf
  Free : Fun K "_law_free" "_law_free" sFree fFree dFree
  LawMoved : Fun K "_law_moved" "_law_moved" sMoved fLawMoved dLawMoved
  IsLine : Fun K "_law_is_line" "_law_is_line" sIsLine fIsLine dIsLine
  OneRight : Fun K "_law_one_right" "_law_one_right" sOneRight fOneRight dOneRight
  AreAskers : Fun K "_are_askers" "_are_askers" sAreAskers fAreAskers dAreAskers
  NeedAsker : Fun K "need_asker" "need_asker" sNeedAsker fNeedAsker dNeedAsker
  Count : Fun K "is_count" "is_count" sCount fCount dCount
  gPurse : mg "_law_purse" = some (.ref fPurse)
  gPurses : mg "_law_purses" = some (.ref fPurses)
  gNames : mg "_law_names" = some (.ref fNames)
  gKinds : mg "_law_kinds" = some (.ref fKinds)
  gMost : mg "_law_most" = some (.ref fMost)
  gLAsker : mg "_law_asker" = some (.ref fLAsker)
  gLLine : mg "_law_line" = some (.ref fLLine)
  gKindsOf : mg "_law_kinds_of" = some (.ref fKindsOf)
  gFree : mg "_law_free" = some (.ref fFree)
  gLawMoved : mg "_law_moved" = some (.ref fLawMoved)
  gIsLine : mg "_law_is_line" = some (.ref fIsLine)
  gOneRight : mg "_law_one_right" = some (.ref fOneRight)
  gAreAskers : mg "_are_askers" = some (.ref fAreAskers)
  gNeedAsker : mg "need_asker" = some (.ref fNeedAsker)
  gCount : mg "is_count" = some (.ref fCount)
theorem ok_law {f f1 f2 f3 f4 fPurse fPurses fNames fKinds fMost fLAsker fLLine fKindsOf fFree fLawMoved fIsLine fOneRight fAreAskers fNeedAsker fCount : Addr} {fd d1 d2 d3 d4 dPurse dPurses dNames dKinds dMost dLAsker dLLine dKindsOf dFree dLawMoved dIsLine dOneRight dAreAskers dNeedAsker dCount dAN dAF dAM dAE dAI dLI dLE dLA dLN dLL dLK dLR dLP dW dI2 dM2 dC2 dO2 : FuncData}
    (F : Fun K "law" "law" sLaw f fd) (L : Drw K mg fM fD fO fS fW' dM dD dO dS dW') (C1 : Chk K mg f1 f2 d1 d2) (C2 : Chk2 K mg f3 f4 d3 d4) (B : Blt mg)
    (D : Defs K mg fPurse fPurses fNames fKinds fMost fLAsker fLLine fKindsOf fFree fLawMoved fIsLine fOneRight fAreAskers fNeedAsker fCount dPurse dPurses dNames dKinds dMost dLAsker dLLine dKindsOf dFree dLawMoved dIsLine dOneRight dAreAskers dNeedAsker dCount)
    (TA : ACls K CA fI pN gN pF gF pM gM fE) (gA : mg "Asker" = some (.ref CA)) (FAI : Fun K "__init__" "Asker.__init__" sAInit fI dAI) (FAN : Fun K "name" "Asker.name" sAName gN dAN) (FAF : Fun K "fits" "Asker.fits" sAFits gF dAF) (FAM : Fun K "most" "Asker.most" sAMost gM dAM) (FAE : Fun K "__eq__" "Asker.__eq__" sAEq fE dAE)
    (T : LCls K CL fLI fLE fLL fLA fLN fLK fLR fLP) (T2 : LCls2 K CL fW fI2 fM2 fC2 fO2) (gL : mg "Line" = some (.ref CL)) (ne : CL ≠ CA) (FLI : Fun K "__init__" "Line.__init__" sLInit fLI dLI) (FLE : Fun K "__eq__" "Line.__eq__" sLEq fLE dLE)
    (FLA : Fun K "askers" "Line.askers" sLAskers fLA dLA) (FLN : Fun K "names" "Line.names" sLNames fLN dLN) (FLL : Fun K "__len__" "Line.__len__" sLLen fLL dLL) (FLK : Fun K "kinds" "Line.kinds" sLKinds fLK dLK) (FLR : Fun K "asker" "Line.asker" sLAsk fLR dLR) (FLP : Fun K "place" "Line.place" sLPlace fLP dLP)
    (FLW : Fun K "without" "Line.without" sLWithout fW dW) (FLI2 : Fun K "put_in" "Line.put_in" sLPutIn fI2 dI2) (FLM : Fun K "moved" "Line.moved" sLMoved fM2 dM2) (FLC : Fun K "changed" "Line.changed" sLChanged fC2 dC2) (FLO : Fun K "ordered" "Line.ordered" sLOrdered fO2 dO2) :
    FnOk P w K mg base CX0 9 f fd ["_law_script"] (spLaw K) := by
  have GShuffled : FnOk P w K mg base CX0 3 fS dS ["_law_purse_here", "_law_some"] (spShuffled K) := L.okShuffled B
  have GAInit : FnOk P w K mg base CX0 3 fI dAI ["self", "name", "fits", "most"] (spAInit K CA) := ok_ainit FAI C1 C2 B TA
  have bAInit : Binds K dAI ["self", "name", "fits", "most"] [] := FAI.binds fun _ _ _ _ _ _ us hl => match us, hl with | [_, _, _, _], _ => rfl
  have GLInit : FnOk P w K mg base CX0 4 fLI dLI ["self", "askers"] (spLInit K CL CA) := ok_linit FLI D.AreAskers D.gAreAskers C1 B TA gA FAN T ne
  have bLInit : Binds K dLI ["self", "askers"] [] := FLI.binds fun _ _ _ _ _ _ us hl => match us, hl with | [_, _], _ => rfl
  have GAName : FnOk P w K mg base CX0 1 gN dAN ["self"] (spAName CA) := ok_aname FAN TA
  have bAName : Binds K dAN ["self"] [] := FAN.binds fun _ _ _ _ _ _ us hl => match us, hl with | [_], _ => rfl
  have GWithout : FnOk P w K mg base CX0 6 fW dW ["self", "name"] (spWithout CL CA) := ok_without FLW B TA FAN T gL FLN FLP GLInit bLInit
  have bWithout : Binds K dW ["self", "name"] [] := FLW.binds fun _ _ _ _ _ _ us hl => match us, hl with | [_, _], _ => rfl
  have GPutIn : FnOk P w K mg base CX0 6 fI2 dI2 ["self", "asker", "place"] (spPutIn CL CA) := ok_putIn FLI2 B C2 D.NeedAsker D.gNeedAsker D.Count D.gCount TA gA FAN T gL FLN GLInit bLInit
  have bPutIn : Binds K dI2 ["self", "asker", "place"] [] := FLI2.binds fun _ _ _ _ _ _ us hl => match us, hl with | [_, _, _], _ => rfl
  have GMoved : FnOk P w K mg base CX0 7 fM2 dM2 ["self", "name", "place"] (spMoved CL CA) := ok_moved FLM B TA FAN T T2 FLN FLP FLR GWithout bWithout GPutIn bPutIn
  have bMoved : Binds K dM2 ["self", "name", "place"] [] := FLM.binds fun _ _ _ _ _ _ us hl => match us, hl with | [_, _, _], _ => rfl
  have GChanged : FnOk P w K mg base CX0 6 fC2 dC2 ["self", "asker"] (spChanged CL CA) := ok_changed FLC B D.NeedAsker D.gNeedAsker TA gA FAN T gL FLN FLP GLInit bLInit
  have bChanged : Binds K dC2 ["self", "asker"] [] := FLC.binds fun _ _ _ _ _ _ us hl => match us, hl with | [_, _], _ => rfl
  have GOrdered : FnOk P w K mg base CX0 6 fO2 dO2 ["self", "names"] (spOrdered K CL CA) := ok_ordered FLO C1 C2 B TA FAN T gL FLN FLP FLR GLInit bLInit
  have bOrdered : Binds K dO2 ["self", "names"] [] := FLO.binds fun _ _ _ _ _ _ us hl => match us, hl with | [_, _], _ => rfl
  have GPurses : FnOk P w K mg base CX0 2 fPurses dPurses ["_law_script", "_law_few"] (spPurses K) := ok_purses D.Purses D.Purse D.gPurse B.range B.max B.min B.len B.sum
  have bPurses : Binds K dPurses ["_law_script", "_law_few"] [] := D.Purses.binds fun _ _ _ _ _ _ us hl => match us, hl with | [_, _], _ => rfl
  have gPurses := D.gPurses
  have FPurses := D.Purses
  have GKinds : FnOk P w K mg base CX0 4 fKinds dKinds ["_law_purse_here", "_law_many"] spPick := ok_lawKinds D.Kinds L B
  have bKinds : Binds K dKinds ["_law_purse_here", "_law_many"] [] := D.Kinds.binds fun _ _ _ _ _ _ us hl => match us, hl with | [_, _], _ => rfl
  have gKinds := D.gKinds
  have FKinds := D.Kinds
  have GLAsker : FnOk P w K mg base CX0 5 fLAsker dLAsker ["_law_purse_here", "_law_name", "_law_kinds_here"] (spLAsker K CA) := ok_lawAsker D.LAsker L B D.Most D.gMost TA gA GAInit bAInit
  have GLLine : FnOk P w K mg base CX0 6 fLLine dLLine ["_law_purse_here", "_law_kinds_here", "_law_most_here"] (spLLine K CL CA) := ok_lawLine (fMost := fMost) (dMost := dMost) D.LLine L B D.Names D.gNames D.LAsker D.gLAsker GLAsker T gL GLInit bLInit
  have bLLine : Binds K dLLine ["_law_purse_here", "_law_kinds_here", "_law_most_here"] [] := D.LLine.binds fun _ _ _ _ _ _ us hl => match us, hl with | [_, _, _], _ => rfl
  have gLLine := D.gLLine
  have FLLine := D.LLine
  have GFree : FnOk P w K mg base CX0 1 fFree dFree ["_law_known"] (spFree K) := ok_free D.Free B
  have bFree : Binds K dFree ["_law_known"] [] := D.Free.binds fun _ _ _ _ _ _ us hl => match us, hl with | [_], _ => rfl
  have gFree := D.gFree
  have FFree := D.Free
  have GIsLine : FnOk P w K mg base CX0 6 fIsLine dIsLine ["_law_told", "_law_askers"] (spIsLine K CL CA) := ok_isLine D.IsLine B D.KindsOf D.gKindsOf TA gA FAN FAF FAE T FLA FLN FLL FLK FLR FLP
  have bIsLine : Binds K dIsLine ["_law_told", "_law_askers"] [] := D.IsLine.binds fun _ _ _ _ _ _ us hl => match us, hl with | [_, _], _ => rfl
  have gIsLine := D.gIsLine
  have FIsLine := D.IsLine
  have GOneRight : FnOk P w K mg base CX0 8 fOneRight dOneRight ["_law_purse_here", "_law_line_here", "_law_askers", "_law_spare"] (spOneRight K CL CA) :=
    ok_oneRight D.OneRight L B D.LawMoved D.gLawMoved D.IsLine D.gIsLine D.Free D.gFree D.KindsOf D.gKindsOf TA gA FAN FAF FAM FAE GAInit bAInit T T2 gL FLE GLInit bLInit FLA FLN FLL FLK FLR FLP GWithout bWithout GPutIn bPutIn GMoved bMoved GChanged bChanged
  have bOneRight : Binds K dOneRight ["_law_purse_here", "_law_line_here", "_law_askers", "_law_spare"] [] := D.OneRight.binds fun _ _ _ _ _ _ us hl => match us, hl with | [_, _, _, _], _ => rfl
  have gOneRight := D.gOneRight
  have FOneRight := D.OneRight
  have GLEq : FnOk P w K mg base CX0 4 fLE dLE ["self", "other"] (spEqB (RL K CL CA)) := ok_leq FLE B TA gA FAE T gL
  have bLEq : Binds K dLE ["self", "other"] [] := FLE.binds fun _ _ _ _ _ _ us hl => match us, hl with | [_, _], _ => rfl
  have GLAskers : FnOk P w K mg base CX0 1 fLA dLA ["self"] (spLAskers CL CA) := ok_laskers FLA B T
  have bLAskers : Binds K dLA ["self"] [] := FLA.binds fun _ _ _ _ _ _ us hl => match us, hl with | [_], _ => rfl
  have GLNames : FnOk P w K mg base CX0 3 fLN dLN ["self"] (spLNames CL CA) := ok_lnames FLN TA FAN T
  have bLNames : Binds K dLN ["self"] [] := FLN.binds fun _ _ _ _ _ _ us hl => match us, hl with | [_], _ => rfl
  refine F.ok scLaw (fun vs H Q E h => ?_) (fun cdv A outer s H vs Q E hr h => ?_)
  · obtain ⟨a, ns, rfl, _⟩ := h
    rfl
  · obtain ⟨a, ns, rfl, hS, h63, q⟩ := h
    refine ⟨_, (pss_cons (ps_for PassesOwn.never rfl (pi_list (pe_call GPurses (hr.mono (by decide)) (by rfl) gPurses FPurses.kp bPurses .nil pass0 (pa_cons (pv 0) (pa_cons pe_int pa_nil)))) (pg_name (i := 1) scLaw.nd rfl (.inl rfl))
        (pss_cons (ps_set (i := 2) scLaw.nd rfl (.inl rfl) (pe_call GKinds (hr.mono (by decide)) (by rfl) gKinds FKinds.kp bKinds .nil pass0 (pa_cons (pv 1) (pa_cons pe_int pa_nil))))
      (pss_cons (ps_set (i := 3) scLaw.nd rfl (.inl rfl) (pe_call GLLine (hr.mono (by decide)) (by rfl) gLLine FLLine.kp bLLine .nil pass0 (pa_cons (pv 1) (pa_cons (pv 2) (pa_cons pe_int pa_nil)))))
      (pss_cons (ps_set (i := 4) scLaw.nd rfl (.inl rfl) (pe_meth0 (pv 3) T.ins.cl T.mA GLAskers (hr.mono (by decide)) bLAskers .nil pass0))
      (pss_cons (ps_set (i := 5) scLaw.nd rfl (.inl rfl) (pe_make TA.make GAInit (hr.mono (by decide)) (by rfl) gA bAInit .nil pass0 (pa_cons (pe_call GFree (hr.mono (by decide)) (by rfl) gFree FFree.kp bFree .nil pass0 (pa_cons (pe_meth0 (pv 3) T.ins.cl T.mN GLNames (hr.mono (by decide)) bLNames .nil pass0) pa_nil)) (pa_cons (pe_slice sl_list (pv 2) po_none (po_some pe_int)) (pa_cons pe_int pa_nil)))))
      (pss_cons (ps_for PassesOwn.never rfl (pi_range1 rfl B.range (pa_cons pe_int pa_nil)) (pg_name (i := 6) scLaw.nd rfl (.inl rfl))
        (pss_one (ps_if (pt_not (pt_val (pe_call GOneRight (hr.mono (by decide)) (by rfl) gOneRight FOneRight.kp bOneRight .nil pass0 (pa_cons (pv 1) (pa_cons (pv 3) (pa_cons (pv 4) (pa_cons (pv 5) pa_nil))))))) (pss_one (ps_ret pe_bl)) pss_nil)))
      (pss_cons (ps_set (i := 7) scLaw.nd rfl (.inl rfl) (pe_call GShuffled (hr.mono (by decide)) (by rfl) L.gShuffled L.Shuffled.kp L.bShuffled .nil pass0 (pa_cons (pv 1) (pa_cons (pv 4) pa_nil))))
      (pss_cons (ps_setLc (i := 8) (own := [("_law_asker_here", 10)]) (g := gName 10) (tt := tYes) rfl scLaw.nd rfl rfl (sw_true rfl rfl rfl (by decide +kernel)) (pi_list (pv 7)) (blkOk_by (own := [("_law_asker_here", 10)]) (N := NLaw) (sc := defScope sLaw) (by decide +kernel)) (fun _ _ _ _ _ => pg_name (i := 10) scLaw.nd rfl (.inl rfl)) (fun _ _ _ _ _ => pts_nil) (fun _ _ _ _ _ => (pe_prop (pv 10) TA.ins.cl TA.pN GAName (hr.mono (by decide)) bAName .nil pass0 rfl)))
      (pss_cons (ps_set (i := 9) scLaw.nd rfl (.inl rfl) (pe_callTy call_list_of (by rfl) B.list (by decide +kernel) (pa_cons (pv 8) pa_nil)))
      (pss_cons (ps_if (PW.pt (pw_or (pt_cmpR (op_rcB (rcB_ownNe GLEq T.own bLEq pass0) (hr.mono (by decide))) (pe_meth (pv 3) T.ins.cl T2.mO GOrdered (hr.mono (by decide)) bOrdered .nil pass0 (pa_cons (pv 9) pa_nil)) (pe_make T.make GLInit (hr.mono (by decide)) (by rfl) gL bLInit .nil pass0 (pa_cons (pv 7) pa_nil)) (nomark _)) (pw_or1 (pt_cmpR (op_neD hr.units) (pv 9) (pv 8) (nomark _))))) (pss_one (ps_ret pe_bl)) pss_nil)
      (pss_cons (ps_if (pt_not (pt_val (pe_call GIsLine (hr.mono (by decide)) (by rfl) gIsLine FIsLine.kp bIsLine .nil pass0 (pa_cons (pe_meth (pv 3) T.ins.cl T2.mO GOrdered (hr.mono (by decide)) bOrdered .nil pass0 (pa_cons (pv 9) pa_nil)) (pa_cons (pv 7) pa_nil))))) (pss_one (ps_ret pe_bl)) pss_nil)
      (pss_cons (ps_if (pt_cmpR (op_rcB (rcB_ownNe GLEq T.own bLEq pass0) (hr.mono (by decide))) (pe_meth (pe_meth (pv 3) T.ins.cl T2.mO GOrdered (hr.mono (by decide)) bOrdered .nil pass0 (pa_cons (pv 8) pa_nil)) T.ins.cl T2.mO GOrdered (hr.mono (by decide)) bOrdered .nil pass0 (pa_cons (pe_meth0 (pv 3) T.ins.cl T.mN GLNames (hr.mono (by decide)) bLNames .nil pass0) pa_nil)) (pv 3) (nomark _)) (pss_one (ps_ret pe_bl)) pss_nil)
      (pss_cons (ps_expr (pe_bm0 PySem.F.plainAttrs_list PySem.F.slot_list_reverse PySem.F.type_list_reverse mt_reverse (pv 9)))
      (pss_one (ps_if (PW.pt (pw_or (pt_cmpR (op_neId hr.units0) (pe_meth0 (pe_meth (pv 3) T.ins.cl T2.mO GOrdered (hr.mono (by decide)) bOrdered .nil pass0 (pa_cons (pv 9) pa_nil)) T.ins.cl T.mA GLAskers (hr.mono (by decide)) bLAskers .nil pass0) (pe_revL (pv 7)) (nomark _)) (pw_or1 (pt_cmpR (op_neId hr.units0) (pe_meth0 (pv 3) T.ins.cl T.mA GLAskers (hr.mono (by decide)) bLAskers .nil pass0) (pv 4) (nomark _))))) (pss_one (ps_ret pe_bl)) pss_nil)))))))))))))))
      (pss_one (ps_ret (pe_and (pe_cmpR (op_rcB (rcB_own GLEq T.own bLEq pass0) (hr.mono (by decide))) (pe_meth (pe_make T.make GLInit (hr.mono (by decide)) (by rfl) gL bLInit .nil pass0 (pa_cons (pe_lst pa_nil) pa_nil)) T.ins.cl T2.mO GOrdered (hr.mono (by decide)) bOrdered .nil pass0 (pa_cons (pe_lst pa_nil) pa_nil)) (pe_make T.make GLInit (hr.mono (by decide)) (by rfl) gL bLInit .nil pass0 (pa_cons (pe_lst pa_nil) pa_nil)) (nomark _)) (pe_one (pe_cmpR (op_rcB (rcB_own GLEq T.own bLEq pass0) (hr.mono (by decide))) (pe_meth (pe_make T.make GLInit (hr.mono (by decide)) (by rfl) gL bLInit .nil pass0 (pa_cons (pe_lst pa_nil) pa_nil)) T.ins.cl T2.mI GPutIn (hr.mono (by decide)) bPutIn .nil pass0 (pa_cons (pe_make TA.make GAInit (hr.mono (by decide)) (by rfl) gA bAInit .nil pass0 (pa_cons pe_str (pa_cons (pe_lst (pa_cons pe_str pa_nil)) (pa_cons pe_int pa_nil)))) (pa_cons pe_int pa_nil))) (pe_make T.make GLInit (hr.mono (by decide)) (by rfl) gL bLInit .nil pass0 (pa_cons (pe_lst (pa_cons (pe_make TA.make GAInit (hr.mono (by decide)) (by rfl) gA bAInit .nil pass0 (pa_cons pe_str (pa_cons (pe_lst (pa_cons pe_str pa_nil)) (pa_cons pe_int pa_nil)))) pa_nil)) pa_nil)) (nomark _))))))), ?_⟩
    refine ⟨.ref a, rfl, a, ns, 3, rfl, hS, h63, ⟨by decide, by decide⟩, fun H1 pl ps s1 npl epl hps pnd pl63 => ⟨pl, rfl, ⟨_, SqL.of epl⟩, ?_⟩⟩
    refine for_list (K := K) (a := pl) (xs := ps.map V.ref) (fun i σ H' => ∃ (v1 v2 v3 v4 v5 v6 v7 v8 v9 : Option V), σ = [some (.ref a), v1, v2, v3, v4, v5, v6, v7, v8, v9, none] ∧ H' pl = some (.lst (ps.map V.ref)) ∧ ∀ (j : Nat) x, i ≤ j → ps[j]? = some x → PurseAt H' x 0)
      ⟨none, none, none, none, none, none, none, none, none, rfl, epl, fun j x _ hx => (hps x (List.mem_of_getElem? hx)).2.2⟩ (fun i σ H' _ ⟨_, _, _, _, _, _, _, _, _, _, e, _⟩ => SqL.of e) ?_ ?_
    · rintro i v σ G0 hi ⟨v1, v2, v3, v4, v5, v6, v7, v8, v9, rfl, e0, pu⟩
      obtain ⟨p, hp, rfl⟩ := ref_at hi
      have hP := pu i p (Nat.le_refl _) hp
      have npp : pl ≠ p := fun z => (hps p (List.mem_of_getElem? hp)).2.1 z.symm
      refine ⟨.ref p, rfl, p, 4, 0, rfl, hP, by omega, by decide, fun G1 kl ys k1 p1 nk ek yw ynd y1 y9 ym yz => ?_⟩
      have nkp : kl ≠ p := Kp.ne hP nk
      refine ⟨.ref p, rfl, .ref kl, rfl, p, kl, ys, 8, _, rfl, p1, by omega, SqL.of ek, nkp, yw, ynd, y1, by omega, by decide, by decide, fun G2 ln as cs k2 p2 nl LA cnd c1 c9 cok cmm clm cz => ?_⟩
      have hla := LA.asks.len
      have ek2 := k2 _ _ nkp ek
      obtain ⟨dx, xf, I2⟩ := LA.ins
      have nofl : ∀ m : Str, ("_askers" : Str) ≠ m → xf.lookup m = none := fun m => LA.nofld I2 m
      refine ⟨.ref ln, rfl, ln, dx, xf, rfl, I2, nofl _ (by decide), ln, as, cs, rfl, LA, fun la nla => ?_⟩
      have nlap : la ≠ p := Kp.ne p2 nla
      have t3 := Same.fresh (o := .lst (as.map V.ref)) nla
      have e3 : upd G2 la (.lst (as.map V.ref)) la = some (.lst (as.map V.ref)) := upd_same
      generalize upd G2 la (.lst (as.map V.ref)) = G3 at t3 e3
      -- a spare one
      refine ⟨.ref ln, rfl, ln, dx, xf, rfl, t3 _ _ I2, nofl _ (by decide), ln, as, cs, rfl, LA.same t3, by omega, fun G4 nmL s4 nn4 en4 => ?_⟩
      have t4 := t3.trans s4
      have cz' : ∃ z, ∀ y ∈ cs.map Ask.nm, y ∈ baseNames ++ baseKinds ∨ y = z := cz.elim fun z hz => ⟨z, fun y hy => by
        obtain ⟨c, hc, rfl⟩ := List.mem_map.mp hy
        exact hz c hc⟩
      refine ⟨nmL, cs.map Ask.nm, rfl, SqL.of en4, free_drawn cz', fun G5 x s5 xw xn xb => ?_⟩
      have t5 := t4.trans s5
      refine ⟨.ref kl, rfl, ((2 : Nat) : Int), rfl, kl, _, rfl, SqL.of (t5 _ _ ek2), fun q1 n1 => ?_⟩
      rw [cut_few]
      have tk : ∀ y ∈ ys.take (min 2 ys.length), y ∈ ys := fun y hy => List.mem_of_mem_take hy
      have tkl : (ys.take (min 2 ys.length)).length = min 2 ys.length := by rw [List.length_take]; omega
      refine made_asker (ys := ys.take (min 2 ys.length)) xw (SqL.of upd_same) (fun y hy => yw y (tk y hy)) (ynd.sublist (List.take_sublist _ _)) (fun z => by rw [z] at tkl; simp at tkl; omega) (by omega) (by decide) fun G6 sp zs s6 nsp ASp pz so => ?_
      have t6 := t5.trans ((Same.fresh (o := .lst ((ys.take (min 2 ys.length)).map V.str)) n1).trans s6)
      have oSp : AskOk ⟨x, zs, 3⟩ := ⟨xw, fun y hy => yw y (tk y (pz.mem_iff.mp hy)), pz.nodup_iff.mpr (ynd.sublist (List.take_sublist _ _)), fun z => by have := pz.length_eq; rw [show zs = [] from z, tkl] at this; simp at this; omega, by show zs.length < 64; rw [pz.length_eq, tkl]; omega, so, by show (1 : Int) ≤ 3; decide⟩
      have L6 := LA.same t6
      have P6 := p2.same t6
      have e6 := t6.trans (Same.refl _) |> fun _ => (s4.trans (s5.trans ((Same.fresh (o := .lst ((ys.take (min 2 ys.length)).map V.str)) n1).trans s6))) _ _ e3
      have k6 : Kp p G0 G6 := k1.trans (k2.trans (Kp.same t6))
      have I6 := t6 _ _ I2
      clear t3 e3 s4 t4 s5 t5 t6 n1 s6 en4 ek2 LA I2
      -- three times
      refine ⟨3, rfl, by decide, by decide, ?_⟩
      refine for_range (lo := 0) (n := 3) (fun t σ H' => ∃ v6 : Option V, σ = [some (.ref a), some (.ref p), some (.ref kl), some (.ref ln), some (.ref la), some (.ref sp), v6, v7, v8, v9, none] ∧ Kp p G6 H' ∧ PurseAt H' p (0 + 840 + 26000 + 120 * t)) ⟨_, rfl, Kept.refl, P6⟩ ?_ ?_
      · rintro t σ H' ht ⟨v6, rfl, kH, pH⟩
        refine ⟨.ref p, rfl, .ref ln, rfl, .ref la, rfl, .ref sp, rfl, p, ln, la, sp, as, cs, ⟨x, zs, 3⟩, ys, _, rfl, pH, by omega, kH.line P6 L6, kH.sql nlap (SqL.of e6), nlap, kH.ask P6 ASp, oSp, xn, cnd, c1, c9, cok, fun y hy => tk y (pz.mem_iff.mp hy), by omega, fun H'' k'' p'' => ⟨true, rfl, iteF ?_⟩⟩
        exact ⟨_, rfl, kH.trans k'', p''.mono (by omega)⟩
      · rintro σ G7 ⟨v6, rfl, k7, p7⟩
        have L7 := k7.line P6 L6
        have S7 : SqL K G7 la (as.map V.ref) := k7.sql nlap (SqL.of e6)
        clear hi
        -- another order
        refine ⟨.ref p, rfl, .ref la, rfl, p, la, _, _, rfl, p7, by omega, S7, nlap, by rw [List.length_map]; omega, fun G8 ol ys8 k8 p8 nol eo pm => ?_⟩
        obtain ⟨bs, rfl, pb⟩ := perm_refs pm
        have L8 := k8.line p7 L7
        have S8 : SqL K G8 la (as.map V.ref) := k8.sql nlap S7
        obtain ⟨ls, pr, pc⟩ := pair_perm pb hla
        have A8 := pair_asks L8.asks pr
        have lls := pc.length_eq
        have lb : bs.length = ls.length := pr.1
        have lnd : (ls.map Ask.nm).Nodup := (pc.map Ask.nm).nodup_iff.mp cnd
        have lok : ∀ c ∈ ls, AskOk c ∧ ∀ y ∈ c.ks, y ∈ ys := fun c hc => cok c (pc.mem_iff.mpr hc)
        have lw : ∀ y ∈ ls.map Ask.nm, IsWord y := words_of fun c hc => (lok c hc).1
        have cw : ∀ y ∈ cs.map Ask.nm, IsWord y := words_of fun c hc => (cok c hc).1
        obtain ⟨dx, xf, I8⟩ := L8.ins
        have nofl : ∀ m : Str, ("_askers" : Str) ≠ m → xf.lookup m = none := fun m => L8.nofld I8 m
        refine ⟨.ref ol, rfl, ol, rfl, ⟨_, SqL.of eo⟩, fun D hD => ?_⟩
        refine lc_names (CA := CA) (as := bs) (ks := ls) (by have := walk_refs (K := K) (a := ol) (xs := bs); exact this) lb (by omega) hD A8 (fun G sG => SqL.of (sG _ _ eo)) (fun b k G hAk R hR => ?_) fun G9 s9 e9 => ?_
        · obtain ⟨db, fb, Ib⟩ := hAk.ins
          exact ⟨rfl, .ref b, rfl, b, db, fb, rfl, Ib, b, k, rfl, hAk, hR G (Same.refl _)⟩
        refine ⟨.ref D, rfl, D, _, rfl, .inl (SqL.of e9), fun gv ng => ?_⟩
        have g10 := Same.fresh (o := .lst ((ls.map Ask.nm).map V.str)) ng
        have e10 : upd G9 gv (.lst ((ls.map Ask.nm).map V.str)) gv = some (.lst ((ls.map Ask.nm).map V.str)) := upd_same
        generalize upd G9 gv (.lst ((ls.map Ask.nm).map V.str)) = G10 at g10 e10
        have t10 := s9.trans g10
        -- ordered
        refine ⟨.ref ln, rfl, ln, dx, xf, rfl, t10 _ _ I8, nofl _ (by decide), .ref gv, rfl, ln, gv, as, cs, ls.map Ask.nm, rfl, L8.same t10, SqL.of e10, by omega, cnd, lw, (pc.map Ask.nm).symm, fun G11 o1 bs1 ls1 s11 LO1 lb1 en1 pr1 => ?_⟩
        obtain ⟨rfl, rfl⟩ := pair_unique cnd ⟨by rw [lb1, ← en1, List.length_map], pr1⟩ pr en1
        have t11 := t10.trans s11
        refine ⟨.ref ol, rfl, made_line (SqL.of (t11 _ _ eo)) (A8.same t11) (by omega) lnd fun G12 o2 s12 no2 LO2 => ?_⟩
        have t12 := t11.trans s12
        refine ⟨false, dil_line T (LO1.same s12) LO2 (by simp), _, rfl, iteF ?_⟩
        have shn := shaped_sts lw
        have g12 := s11.trans s12
        refine ⟨.ref gv, rfl, .ref D, rfl, _, _, dp_sts (SqL.of (g12 _ _ e10)), dp_sts (SqL.of ((g10.trans g12) _ _ e9)), shn, shn, _, rfl, ?_⟩
        rw [eqv_same shn]
        refine iteF ⟨.ref ln, rfl, ln, dx, xf, rfl, t12 _ _ I8, nofl _ (by decide), .ref gv, rfl, ln, gv, as, cs, ls1.map Ask.nm, rfl, L8.same t12, SqL.of (g12 _ _ e10), by omega, cnd, lw, (pc.map Ask.nm).symm, fun G13 o3 bs3 ls3 s13 LO3 lb3 en3 pr3 => ?_⟩
        obtain ⟨rfl, rfl⟩ := pair_unique cnd ⟨by rw [lb3, ← en3, List.length_map], pr3⟩ pr en3
        have t13 := t12.trans s13
        refine ⟨.ref ol, rfl, o3, ol, _, _, ys, rfl, LO3, SqL.of (t13 _ _ eo), by omega, lnd, lok, by omega, fun G14 s14 => ⟨true, rfl, iteF ?_⟩⟩
        have t14 := t13.trans s14
        have g14 := g12.trans (s13.trans s14)
        -- and back
        refine ⟨.ref ln, rfl, ln, dx, xf, rfl, t14 _ _ I8, nofl _ (by decide), .ref D, rfl, ln, D, as, cs, ls3.map Ask.nm, rfl, L8.same t14, SqL.of ((g10.trans g14) _ _ e9), by omega, cnd, lw, (pc.map Ask.nm).symm, fun G15 o5 bs5 ls5 s15 LO5 lb5 en5 pr5 => ?_⟩
        obtain ⟨rfl, rfl⟩ := pair_unique cnd ⟨by rw [lb5, ← en5, List.length_map], pr5⟩ pr en5
        have t15 := t14.trans s15
        obtain ⟨d5, f5, I5⟩ := LO5.ins
        refine ⟨o5, d5, f5, rfl, I5, LO5.nofld I5 _ (by decide), .ref ln, rfl, ln, dx, xf, rfl, t15 _ _ I8, nofl _ (by decide), ln, as, cs, rfl, L8.same t15, by omega, fun G16 nm6 s16 nn6 en6 => ?_⟩
        have t16 := t15.trans s16
        refine ⟨o5, nm6, _, _, cs.map Ask.nm, rfl, LO5.same s16, SqL.of en6, by omega, lnd, cw, pc.map Ask.nm, fun G17 o7 bs7 ls7 s17 LO7 lb7 en7 pr7 => ?_⟩
        have t17 := t16.trans s17
        have e77 : ls7 = cs := (pair_unique (as := as) cnd (bs := bs7) (bs' := as) ⟨by rw [lb7, ← en7, List.length_map], fun i b e => by
          obtain ⟨j, k, h1, h2, h3⟩ := pr7 i b e
          obtain ⟨j', k', h1', h2', h3'⟩ := pr.2 j b h2
          rw [h1] at h3'
          cases h3'
          exact ⟨j', k, h1', h2', h3⟩⟩ (pair_id hla) en7).2
        refine ⟨.ref ln, rfl, false, dil_line T LO7 (L8.same t17) (by rw [e77]; simp), _, rfl, iteF ?_⟩
        -- turned about
        have g17 := g14.trans (s15.trans (s16.trans s17))
        have e17 := g17 _ _ e10
        refine ⟨.ref gv, rfl, .inl ⟨rfl, _, SqL.of e17⟩, gv, _, rfl, rfl, e17, ?_⟩
        have t18 : Same G9 (upd G17 gv (.lst ((ls5.map Ask.nm).map V.str).reverse)) := (g10.trans g17).put ng
        have e18 : upd G17 gv (.lst ((ls5.map Ask.nm).map V.str).reverse) gv = some (.lst (((ls5.map Ask.nm).reverse).map V.str)) := by rw [upd_same, List.map_reverse]
        generalize upd G17 gv (.lst ((ls5.map Ask.nm).map V.str).reverse) = G18 at t18 e18
        have t18 := s9.trans t18
        have prv := pair_rev pr
        refine ⟨.ref ln, rfl, ln, dx, xf, rfl, t18 _ _ I8, nofl _ (by decide), .ref gv, rfl, ln, gv, as, cs, (ls5.map Ask.nm).reverse, rfl, L8.same t18, SqL.of e18, by omega, cnd, (fun y hy => lw y (List.mem_reverse.mp hy)), (List.reverse_perm _).trans (pc.map Ask.nm).symm, fun G19 o8 bs8 ls8 s19 LO8 lb8 en8 pr8 => ?_⟩
        obtain ⟨rfl, rfl⟩ := pair_unique cnd ⟨by rw [lb8, ← en8, List.length_map], pr8⟩ prv (by rw [en8, List.map_reverse])
        have t19 := t18.trans s19
        obtain ⟨d8, f8, I9⟩ := LO8.ins
        refine ⟨o8, d8, f8, rfl, I9, LO8.nofld I9 _ (by decide), o8, _, _, rfl, LO8, fun q1 n1 => ?_⟩
        have g1 := Same.fresh (o := .lst (bs5.reverse.map V.ref)) n1
        refine ⟨.ref ol, rfl, ol, _, rfl, SqL.of ((t19.trans g1) _ _ eo), fun q2 n2 => ?_⟩
        have g2 := Same.fresh (o := .lst (bs5.map V.ref).reverse) n2
        refine ⟨q1, q2, bs5.reverse, rfl, rfl, SqL.of (g2 _ _ upd_same), by rw [List.map_reverse]; exact SqL.of upd_same, _, rfl, iteF ?_⟩
        have t20 := t19.trans (g1.trans g2)
        refine ⟨.ref ln, rfl, ln, dx, xf, rfl, t20 _ _ I8, nofl _ (by decide), ln, as, cs, rfl, L8.same t20, fun q3 n3 => ?_⟩
        have t21 := t20.trans (Same.fresh (o := .lst (as.map V.ref)) n3)
        refine ⟨.ref la, rfl, q3, la, as, rfl, rfl, SqL.of upd_same, t21.seq S8, _, rfl, iteF ?_⟩
        have kAll : Kp p G0 (upd _ q3 (.lst (as.map V.ref))) := k6.trans (k7.trans (k8.trans (Kp.same t21)))
        refine ⟨_, _, _, _, _, _, _, _, _, rfl, kAll _ _ npp e0, fun j x hj hx => purse_kp (pu j x (by omega) hx) kAll fun z => ?_⟩
        subst z
        obtain ⟨m1, e1⟩ := List.getElem?_eq_some_iff.mp hx
        obtain ⟨m2, e2⟩ := List.getElem?_eq_some_iff.mp hp
        exact List.pairwise_iff_getElem.mp pnd i j m2 m1 (by omega) (e2.trans e1.symm)
    · rintro σ G ⟨v1, v2, v3, v4, v5, v6, v7, v8, v9, rfl, e0, _⟩
      -- the empty line
      refine ⟨(by show 0 ≤ sizeLine; decide), fun el nel => made_line (as := []) (ks := []) (SqL.of upd_same) .nil (by decide) (by decide) fun G1 em s1 nem LE => ?_⟩
      obtain ⟨dx, xf, hI⟩ := LE.ins
      refine ⟨em, dx, xf, rfl, hI, LE.nofld hI _ (by decide), (by show 0 ≤ sizeLine; decide), fun l2 n2 => ⟨em, l2, [], [], [], rfl, LE.same (Same.fresh n2), SqL.of upd_same, by decide, by decide, (fun y hy => by cases hy), .refl _, fun G2 c2 bs2 ls2 s2 LC2 lb en pr => ?_⟩⟩
      obtain rfl : ls2 = [] := List.map_eq_nil_iff.mp en
      refine ⟨(by show 0 ≤ sizeLine; decide), fun l3 n3 => made_line (as := []) (ks := []) (SqL.of upd_same) .nil (by decide) (by decide) fun G3 e3 s3 ne3 L3 => ?_⟩
      refine ⟨true, dil_line T ((LC2.same (Same.fresh n3)).same s3) L3 (by simp), true, rfl, iteT ?_⟩
      refine ⟨(by show 0 ≤ sizeLine; decide), fun l4 n4 => made_line (as := []) (ks := []) (SqL.of upd_same) .nil (by decide) (by decide) fun G4 e4 s4 ne4 L4 => ?_⟩
      obtain ⟨d4, f4, I4⟩ := L4.ins
      have aok : IsWord "a" ∧ (∀ y ∈ (["a"] : List Str), IsWord y) ∧ (["a"] : List Str).Nodup := by decide +kernel
      refine ⟨e4, d4, f4, rfl, I4, L4.nofld I4 _ (by decide), (by show 1 ≤ sizeLine; decide), fun l5 n5 => made_asker (ys := ["a"]) aok.1 (SqL.of upd_same) aok.2.1 aok.2.2 (by simp) (by decide) (by decide) fun G5 x5 z5 s5 nx5 A5 pz5 so5 => ?_⟩
      obtain rfl : z5 = (["a"] : List Str) := List.perm_singleton.mp pz5
      refine ⟨e4, x5, [], [], ⟨"a", ["a"], 1⟩, 0, rfl, (L4.same (Same.fresh n5)).same s5, A5, by decide, by decide, by simp, by decide, fun G6 c6 s6 L6 => ?_⟩
      refine ⟨(by show 1 ≤ sizeLine; decide), fun l7 n7 => made_asker (ys := ["a"]) aok.1 (SqL.of upd_same) aok.2.1 aok.2.2 (by simp) (by decide) (by decide) fun G7 x7 z7 s7 nx7 A7 pz7 so7 => ?_⟩
      obtain rfl : z7 = (["a"] : List Str) := List.perm_singleton.mp pz7
      refine ⟨(by show 1 ≤ sizeLine; decide), fun l8 n8 => made_line (as := [x7]) (ks := [⟨"a", ["a"], 1⟩]) (SqL.of upd_same) (.cons (A7.same (Same.fresh n8)) .nil) (by decide) (by simp) fun G8 c8 s8 nc8 L8 => ?_⟩
      exact ⟨true, dil_line T (L6.same ((Same.fresh n7).trans (s7.trans ((Same.fresh n8).trans s8)))) L8 (decide_eq_true rfl).symm, q _⟩
end
end Eld
end L2

set_option Elab.async false
set_option linter.all false
set_option maxRecDepth 100000
set_option maxHeartbeats 8000000
/-! ## what the top has written; the end -/
namespace L2
namespace Eld
open PySem PySem.Spec PyProof.Rows PySem.EldX
def insB (K : PySem.W.Frag) (C : Addr) : Bool :=
  PySem.W.plainGet K C Str.empty && (PySem.W.hasDictIn K C && (PySem.W.plainOver K C && (PySem.W.findIn K (.ref C) "__setattr__" == some (some (.builtin "object.__setattr__")) && (PySem.W.findIn K (.ref C) "__class__" == some (some (.builtin "object.__class__")) &&
    (PySem.W.specialIn K (.builtin "object.__class__") "__get__" == some (some (.builtin "getset_descriptor.__get__")) && (PySem.W.takesIn K (.builtin "object.__class__") == some true && (PySem.W.mroIn K C (.type "object") == some true && PySem.W.kitOne K (.ref C) (.ref C) == some true)))))))
theorem insB_ok {K : PySem.W.Frag} {C : Addr} (q : insB K C = true) : InsC K C := by
  unfold insB at q
  simp only [Bool.and_eq_true, beq_iff_eq] at q
  obtain ⟨h1, h2, h3, h4, h5, h6, h7, h8, h9⟩ := q
  exact ⟨⟨h1, h2, h3, h4⟩, h5, h6, h7, h8, h9⟩
def propB (K : PySem.W.Frag) (C : Addr) (f : Str) (p g : Addr) : Bool :=
  PySem.W.findIn K (.ref C) f == some (some (.ref p)) && (PySem.W.specialIn K (.ref p) "__get__" == some (some (.builtin "property.__get__")) && (PySem.W.takesIn K (.ref p) == some true &&
    (match PySem.W.recIn K p "property" with | some (.ref g' :: _) => g' == g | _ => false)))
theorem propB_ok {K : PySem.W.Frag} {C : Addr} {f : Str} {p g : Addr} (q : propB K C f p g = true) : PropOf K C f p g := by
  unfold propB at q
  simp only [Bool.and_eq_true, beq_iff_eq] at q
  obtain ⟨h1, h2, h3, h4⟩ := q
  refine ⟨h1, h2, h3, ?_⟩
  split at h4
  · rename_i g' rest e
    rw [beq_iff_eq] at h4
    subst h4
    exact ⟨rest, e⟩
  · cases h4
def ownB (K : PySem.W.Frag) (C f : Addr) : Bool := PySem.W.findIn K (.ref C) "__eq__" == some (some (.ref f)) && (PySem.W.isFn K (.ref f) && (PySem.W.findIn K (.ref C) "__ne__" == some (some (.builtin "object.__ne__")) && PySem.W.subIn K (.ref C) (.type "object") == some true))
theorem ownB_ok {K : PySem.W.Frag} {C f : Addr} (q : ownB K C f = true) : OwnE K C f := by
  unfold ownB at q
  simp only [Bool.and_eq_true, beq_iff_eq] at q
  obtain ⟨h1, h2, h3, h4⟩ := q
  exact ⟨h1, h2, h3, h4⟩
def makeB (K : PySem.W.Frag) (C f : Addr) : Bool := PySem.W.makesIn K C && (PySem.W.findIn K (.ref C) "__init__" == some (some (.ref f)) && (PySem.W.isFn K (.ref f) && PySem.W.keepIn K (.ref C)))
theorem makeB_ok {K : PySem.W.Frag} {C f : Addr} (q : makeB K C f = true) : Mk K C f := by
  unfold makeB at q
  simp only [Bool.and_eq_true, beq_iff_eq] at q
  obtain ⟨h1, h2, h3, h4⟩ := q
  exact ⟨h1, h2, h3, h4⟩
def methB (K : PySem.W.Frag) (C : Addr) (m : Str) (f : Addr) : Bool := PySem.W.findIn K (.ref C) m == some (some (.ref f)) && (PySem.W.isFn K (.ref f) && PySem.W.keepIn K (.ref f))
theorem methB_ok {K : PySem.W.Frag} {C : Addr} {m : Str} {f : Addr} (q : methB K C m f = true) : PySem.W.findIn K (.ref C) m = some (some (.ref f)) ∧ PySem.W.isFn K (.ref f) = true ∧ PySem.W.keepIn K (.ref f) = true := by
  unfold methB at q
  simpa only [Bool.and_eq_true, beq_iff_eq] using q
def clsAB (K : PySem.W.Frag) (C fI pN gN pF gF pM gM fE : Addr) : Bool :=
  insB K C && (PySem.W.findIn K (.ref C) "_name" == some none && (PySem.W.findIn K (.ref C) "_fits" == some none && (PySem.W.findIn K (.ref C) "_most" == some none && (makeB K C fI && (propB K C "name" pN gN && (propB K C "fits" pF gF && (propB K C "most" pM gM && ownB K C fE)))))))
theorem clsAB_ok {K : PySem.W.Frag} {C fI pN gN pF gF pM gM fE : Addr} (q : clsAB K C fI pN gN pF gF pM gM fE = true) : ACls K C fI pN gN pF gF pM gM fE := by
  unfold clsAB at q
  simp only [Bool.and_eq_true, beq_iff_eq] at q
  obtain ⟨h1, h2, h3, h4, h5, h6, h7, h8, h9⟩ := q
  exact ⟨insB_ok h1, h2, h3, h4, makeB_ok h5, propB_ok h6, propB_ok h7, propB_ok h8, ownB_ok h9⟩
def clsLB (K : PySem.W.Frag) (C fI fE fL fA fN fK fR fP : Addr) : Bool :=
  insB K C && (PySem.W.findIn K (.ref C) "_askers" == some none && (makeB K C fI && (ownB K C fE && (methB K C "__len__" fL && (methB K C "askers" fA && (methB K C "names" fN && (methB K C "kinds" fK && (methB K C "asker" fR && methB K C "place" fP))))))))
theorem clsLB_ok {K : PySem.W.Frag} {C fI fE fL fA fN fK fR fP : Addr} (q : clsLB K C fI fE fL fA fN fK fR fP = true) : LCls K C fI fE fL fA fN fK fR fP := by
  unfold clsLB at q
  simp only [Bool.and_eq_true, beq_iff_eq] at q
  obtain ⟨h1, h2, h3, h4, h5, h6, h7, h8, h9, h10⟩ := q
  exact ⟨insB_ok h1, h2, makeB_ok h3, ownB_ok h4, (methB_ok h5).1, (methB_ok h5).2.1, ⟨(methB_ok h6).1, (methB_ok h6).2.1, (methB_ok h6).2.2⟩, ⟨(methB_ok h7).1, (methB_ok h7).2.1, (methB_ok h7).2.2⟩, ⟨(methB_ok h8).1, (methB_ok h8).2.1, (methB_ok h8).2.2⟩, ⟨(methB_ok h9).1, (methB_ok h9).2.1, (methB_ok h9).2.2⟩, ⟨(methB_ok h10).1, (methB_ok h10).2.1, (methB_ok h10).2.2⟩⟩
def othB (K : PySem.W.Frag) (CA CL : Addr) : Bool :=
  (["tuple", "str", "NoneType", "list"] : List String).all (fun T => PySem.W.kitOne K (.type T) (.ref CA) == some false && PySem.W.notFirst K CA (.type T)) &&
  ((["tuple", "str", "NoneType", "list"] : List String).all (fun T => PySem.W.kitOne K (.type T) (.ref CL) == some false && PySem.W.notFirst K CL (.type T)) &&
  (PySem.W.kitOne K (.ref CA) (.ref CL) == some false && PySem.W.notFirst K CL (.ref CA)))
theorem othB_ok {K : PySem.W.Frag} {CA CL : Addr} (q : othB K CA CL = true) : Oth K CA CL := by
  unfold othB at q
  simp only [Bool.and_eq_true, List.all_eq_true, beq_iff_eq] at q
  obtain ⟨h1, h2, h3⟩ := q
  exact ⟨fun T hT => h1 T hT, fun T hT => h2 T hT, h3⟩
def clsLB2 (K : PySem.W.Frag) (C fW fI fM fC fO : Addr) : Bool := methB K C "without" fW && (methB K C "put_in" fI && (methB K C "moved" fM && (methB K C "changed" fC && methB K C "ordered" fO)))
theorem clsLB2_ok {K : PySem.W.Frag} {C fW fI fM fC fO : Addr} (q : clsLB2 K C fW fI fM fC fO = true) : LCls2 K C fW fI fM fC fO := by
  unfold clsLB2 at q
  simp only [Bool.and_eq_true] at q
  obtain ⟨h1, h2, h3, h4, h5⟩ := q
  exact ⟨⟨(methB_ok h1).1, (methB_ok h1).2.1, (methB_ok h1).2.2⟩, ⟨(methB_ok h2).1, (methB_ok h2).2.1, (methB_ok h2).2.2⟩, ⟨(methB_ok h3).1, (methB_ok h3).2.1, (methB_ok h3).2.2⟩, ⟨(methB_ok h4).1, (methB_ok h4).2.1, (methB_ok h4).2.2⟩, ⟨(methB_ok h5).1, (methB_ok h5).2.1, (methB_ok h5).2.2⟩⟩
theorem all_mk {l : PySem.W.OpenLaw} {w : World} {K : PySem.W.Frag} {h : Heap} {mg : Str → Option Value} {fa : Addr} (X : K.In h) (G : h.Ns mainGlobals mg) (hfa : mg "law" = some (.ref fa)) {CA CL pAName pAFits pAMost : Addr}
    {fWhole fCount fIsName fUnlike fAreNames fAreAskers fNeedAsker fPurse fMixed fDraw fPurses fOneOf fShuffled fWord fNames fKinds fMost fLAsker fLLine fKindsOf fFree fMoved fIsLine fOneRight fLaw fAInit fAEq fLInit fLEq fLLen fLAskers fLNames fLKinds fLAsk fLPlace fLWithout fLPutIn fLMoved fLChanged fLOrdered fAName fAFits fAMost : Addr} {odWhole anWhole odCount anCount odIsName anIsName odUnlike anUnlike odAreNames anAreNames odAreAskers anAreAskers odNeedAsker anNeedAsker odPurse anPurse odMixed anMixed odDraw anDraw odPurses anPurses odOneOf anOneOf odShuffled anShuffled odWord anWord odNames anNames odKinds anKinds odMost anMost odLAsker anLAsker odLLine anLLine odKindsOf anKindsOf odFree anFree odMoved anMoved odIsLine anIsLine odOneRight anOneRight odLaw anLaw odAInit anAInit odAEq anAEq odLInit anLInit odLEq anLEq odLLen anLLen odLAskers anLAskers odLNames anLNames odLKinds anLKinds odLAsk anLAsk odLPlace anLPlace odLWithout anLWithout odLPutIn anLPutIn odLMoved anLMoved odLChanged anLChanged odLOrdered anLOrdered odAName anAName odAFits anAFits odAMost anAMost : Option Addr} {slWhole slCount slIsName slUnlike slAreNames slAreAskers slNeedAsker slPurse slMixed slDraw slPurses slOneOf slShuffled slWord slNames slKinds slMost slLAsker slLLine slKindsOf slFree slMoved slIsLine slOneRight slLaw slAInit slAEq slLInit slLEq slLLen slLAskers slLNames slLKinds slLAsk slLPlace slLWithout slLPutIn slLMoved slLChanged slLOrdered slAName slAFits slAMost : Array (Option Value)}
    {ocWhole kVWhole dcWhole pmWhole cdWhole ctWhole ocCount kVCount dcCount pmCount cdCount ctCount ocIsName kVIsName dcIsName pmIsName cdIsName ctIsName ocUnlike kVUnlike dcUnlike pmUnlike cdUnlike ctUnlike ocAreNames kVAreNames dcAreNames pmAreNames cdAreNames ctAreNames ocAreAskers kVAreAskers dcAreAskers pmAreAskers cdAreAskers ctAreAskers ocNeedAsker kVNeedAsker dcNeedAsker pmNeedAsker cdNeedAsker ctNeedAsker ocPurse kVPurse dcPurse pmPurse cdPurse ctPurse ocMixed kVMixed dcMixed pmMixed cdMixed ctMixed ocDraw kVDraw dcDraw pmDraw cdDraw ctDraw ocPurses kVPurses dcPurses pmPurses cdPurses ctPurses ocOneOf kVOneOf dcOneOf pmOneOf cdOneOf ctOneOf ocShuffled kVShuffled dcShuffled pmShuffled cdShuffled ctShuffled ocWord kVWord dcWord pmWord cdWord ctWord ocNames kVNames dcNames pmNames cdNames ctNames ocKinds kVKinds dcKinds pmKinds cdKinds ctKinds ocMost kVMost dcMost pmMost cdMost ctMost ocLAsker kVLAsker dcLAsker pmLAsker cdLAsker ctLAsker ocLLine kVLLine dcLLine pmLLine cdLLine ctLLine ocKindsOf kVKindsOf dcKindsOf pmKindsOf cdKindsOf ctKindsOf ocFree kVFree dcFree pmFree cdFree ctFree ocMoved kVMoved dcMoved pmMoved cdMoved ctMoved ocIsLine kVIsLine dcIsLine pmIsLine cdIsLine ctIsLine ocOneRight kVOneRight dcOneRight pmOneRight cdOneRight ctOneRight ocLaw kVLaw dcLaw pmLaw cdLaw ctLaw ocAInit kVAInit dcAInit pmAInit cdAInit ctAInit ocAEq kVAEq dcAEq pmAEq cdAEq ctAEq ocLInit kVLInit dcLInit pmLInit cdLInit ctLInit ocLEq kVLEq dcLEq pmLEq cdLEq ctLEq ocLLen kVLLen dcLLen pmLLen cdLLen ctLLen ocLAskers kVLAskers dcLAskers pmLAskers cdLAskers ctLAskers ocLNames kVLNames dcLNames pmLNames cdLNames ctLNames ocLKinds kVLKinds dcLKinds pmLKinds cdLKinds ctLKinds ocLAsk kVLAsk dcLAsk pmLAsk cdLAsk ctLAsk ocLPlace kVLPlace dcLPlace pmLPlace cdLPlace ctLPlace ocLWithout kVLWithout dcLWithout pmLWithout cdLWithout ctLWithout ocLPutIn kVLPutIn dcLPutIn pmLPutIn cdLPutIn ctLPutIn ocLMoved kVLMoved dcLMoved pmLMoved cdLMoved ctLMoved ocLChanged kVLChanged dcLChanged pmLChanged cdLChanged ctLChanged ocLOrdered kVLOrdered dcLOrdered pmLOrdered cdLOrdered ctLOrdered ocAName kVAName dcAName pmAName cdAName ctAName ocAFits kVAFits dcAFits pmAFits cdAFits ctAFits ocAMost kVAMost dcAMost pmAMost cdAMost ctAMost : Value}
    (aA : PySem.W.nsIn K mainGlobals "Asker" = some (some (.ref CA))) (aL : PySem.W.nsIn K mainGlobals "Line" = some (some (.ref CL)))
    (aWhole : PySem.W.nsIn K mainGlobals "is_whole" = some (some (.ref fWhole))) (lWhole : K.lookup fWhole = some ⟨ocWhole, odWhole, .func (PySem.W.fnOf "is_whole" "is_whole" (defArgs sWhole) (defBody sWhole) (defScope sWhole) .none kVWhole dcWhole pmWhole anWhole cdWhole ctWhole), slWhole⟩)
    (cWhole : PySem.W.codeIn K cdWhole "is_whole" = true) (kWhole : PySem.W.keepIn K (.ref fWhole) = true)
    (aCount : PySem.W.nsIn K mainGlobals "is_count" = some (some (.ref fCount))) (lCount : K.lookup fCount = some ⟨ocCount, odCount, .func (PySem.W.fnOf "is_count" "is_count" (defArgs sCount) (defBody sCount) (defScope sCount) .none kVCount dcCount pmCount anCount cdCount ctCount), slCount⟩)
    (cCount : PySem.W.codeIn K cdCount "is_count" = true) (kCount : PySem.W.keepIn K (.ref fCount) = true)
    (aIsName : PySem.W.nsIn K mainGlobals "is_name" = some (some (.ref fIsName))) (lIsName : K.lookup fIsName = some ⟨ocIsName, odIsName, .func (PySem.W.fnOf "is_name" "is_name" (defArgs sIsName) (defBody sIsName) (defScope sIsName) .none kVIsName dcIsName pmIsName anIsName cdIsName ctIsName), slIsName⟩)
    (cIsName : PySem.W.codeIn K cdIsName "is_name" = true) (kIsName : PySem.W.keepIn K (.ref fIsName) = true)
    (aUnlike : PySem.W.nsIn K mainGlobals "are_unlike" = some (some (.ref fUnlike))) (lUnlike : K.lookup fUnlike = some ⟨ocUnlike, odUnlike, .func (PySem.W.fnOf "are_unlike" "are_unlike" (defArgs sUnlike) (defBody sUnlike) (defScope sUnlike) .none kVUnlike dcUnlike pmUnlike anUnlike cdUnlike ctUnlike), slUnlike⟩)
    (cUnlike : PySem.W.codeIn K cdUnlike "are_unlike" = true) (kUnlike : PySem.W.keepIn K (.ref fUnlike) = true)
    (aAreNames : PySem.W.nsIn K mainGlobals "are_names" = some (some (.ref fAreNames))) (lAreNames : K.lookup fAreNames = some ⟨ocAreNames, odAreNames, .func (PySem.W.fnOf "are_names" "are_names" (defArgs sAreNames) (defBody sAreNames) (defScope sAreNames) .none kVAreNames dcAreNames pmAreNames anAreNames cdAreNames ctAreNames), slAreNames⟩)
    (cAreNames : PySem.W.codeIn K cdAreNames "are_names" = true) (kAreNames : PySem.W.keepIn K (.ref fAreNames) = true)
    (aAreAskers : PySem.W.nsIn K mainGlobals "_are_askers" = some (some (.ref fAreAskers))) (lAreAskers : K.lookup fAreAskers = some ⟨ocAreAskers, odAreAskers, .func (PySem.W.fnOf "_are_askers" "_are_askers" (defArgs sAreAskers) (defBody sAreAskers) (defScope sAreAskers) .none kVAreAskers dcAreAskers pmAreAskers anAreAskers cdAreAskers ctAreAskers), slAreAskers⟩)
    (cAreAskers : PySem.W.codeIn K cdAreAskers "_are_askers" = true) (kAreAskers : PySem.W.keepIn K (.ref fAreAskers) = true)
    (aNeedAsker : PySem.W.nsIn K mainGlobals "need_asker" = some (some (.ref fNeedAsker))) (lNeedAsker : K.lookup fNeedAsker = some ⟨ocNeedAsker, odNeedAsker, .func (PySem.W.fnOf "need_asker" "need_asker" (defArgs sNeedAsker) (defBody sNeedAsker) (defScope sNeedAsker) .none kVNeedAsker dcNeedAsker pmNeedAsker anNeedAsker cdNeedAsker ctNeedAsker), slNeedAsker⟩)
    (cNeedAsker : PySem.W.codeIn K cdNeedAsker "need_asker" = true) (kNeedAsker : PySem.W.keepIn K (.ref fNeedAsker) = true)
    (aPurse : PySem.W.nsIn K mainGlobals "_law_purse" = some (some (.ref fPurse))) (lPurse : K.lookup fPurse = some ⟨ocPurse, odPurse, .func (PySem.W.fnOf "_law_purse" "_law_purse" (defArgs sPurse) (defBody sPurse) (defScope sPurse) .none kVPurse dcPurse pmPurse anPurse cdPurse ctPurse), slPurse⟩)
    (cPurse : PySem.W.codeIn K cdPurse "_law_purse" = true) (kPurse : PySem.W.keepIn K (.ref fPurse) = true)
    (aMixed : PySem.W.nsIn K mainGlobals "_law_mixed" = some (some (.ref fMixed))) (lMixed : K.lookup fMixed = some ⟨ocMixed, odMixed, .func (PySem.W.fnOf "_law_mixed" "_law_mixed" (defArgs sMixed) (defBody sMixed) (defScope sMixed) .none kVMixed dcMixed pmMixed anMixed cdMixed ctMixed), slMixed⟩)
    (cMixed : PySem.W.codeIn K cdMixed "_law_mixed" = true) (kMixed : PySem.W.keepIn K (.ref fMixed) = true)
    (aDraw : PySem.W.nsIn K mainGlobals "_law_draw" = some (some (.ref fDraw))) (lDraw : K.lookup fDraw = some ⟨ocDraw, odDraw, .func (PySem.W.fnOf "_law_draw" "_law_draw" (defArgs sDraw) (defBody sDraw) (defScope sDraw) .none kVDraw dcDraw pmDraw anDraw cdDraw ctDraw), slDraw⟩)
    (cDraw : PySem.W.codeIn K cdDraw "_law_draw" = true) (kDraw : PySem.W.keepIn K (.ref fDraw) = true)
    (aPurses : PySem.W.nsIn K mainGlobals "_law_purses" = some (some (.ref fPurses))) (lPurses : K.lookup fPurses = some ⟨ocPurses, odPurses, .func (PySem.W.fnOf "_law_purses" "_law_purses" (defArgs sPurses) (defBody sPurses) (defScope sPurses) .none kVPurses dcPurses pmPurses anPurses cdPurses ctPurses), slPurses⟩)
    (cPurses : PySem.W.codeIn K cdPurses "_law_purses" = true) (kPurses : PySem.W.keepIn K (.ref fPurses) = true)
    (aOneOf : PySem.W.nsIn K mainGlobals "_law_one_of" = some (some (.ref fOneOf))) (lOneOf : K.lookup fOneOf = some ⟨ocOneOf, odOneOf, .func (PySem.W.fnOf "_law_one_of" "_law_one_of" (defArgs sOneOf) (defBody sOneOf) (defScope sOneOf) .none kVOneOf dcOneOf pmOneOf anOneOf cdOneOf ctOneOf), slOneOf⟩)
    (cOneOf : PySem.W.codeIn K cdOneOf "_law_one_of" = true) (kOneOf : PySem.W.keepIn K (.ref fOneOf) = true)
    (aShuffled : PySem.W.nsIn K mainGlobals "_law_shuffled" = some (some (.ref fShuffled))) (lShuffled : K.lookup fShuffled = some ⟨ocShuffled, odShuffled, .func (PySem.W.fnOf "_law_shuffled" "_law_shuffled" (defArgs sShuffled) (defBody sShuffled) (defScope sShuffled) .none kVShuffled dcShuffled pmShuffled anShuffled cdShuffled ctShuffled), slShuffled⟩)
    (cShuffled : PySem.W.codeIn K cdShuffled "_law_shuffled" = true) (kShuffled : PySem.W.keepIn K (.ref fShuffled) = true)
    (aWord : PySem.W.nsIn K mainGlobals "_law_word" = some (some (.ref fWord))) (lWord : K.lookup fWord = some ⟨ocWord, odWord, .func (PySem.W.fnOf "_law_word" "_law_word" (defArgs sWord) (defBody sWord) (defScope sWord) .none kVWord dcWord pmWord anWord cdWord ctWord), slWord⟩)
    (cWord : PySem.W.codeIn K cdWord "_law_word" = true) (kWord : PySem.W.keepIn K (.ref fWord) = true)
    (aNames : PySem.W.nsIn K mainGlobals "_law_names" = some (some (.ref fNames))) (lNames : K.lookup fNames = some ⟨ocNames, odNames, .func (PySem.W.fnOf "_law_names" "_law_names" (defArgs sNames) (defBody sNames) (defScope sNames) .none kVNames dcNames pmNames anNames cdNames ctNames), slNames⟩)
    (cNames : PySem.W.codeIn K cdNames "_law_names" = true) (kNames : PySem.W.keepIn K (.ref fNames) = true)
    (aKinds : PySem.W.nsIn K mainGlobals "_law_kinds" = some (some (.ref fKinds))) (lKinds : K.lookup fKinds = some ⟨ocKinds, odKinds, .func (PySem.W.fnOf "_law_kinds" "_law_kinds" (defArgs sKinds) (defBody sKinds) (defScope sKinds) .none kVKinds dcKinds pmKinds anKinds cdKinds ctKinds), slKinds⟩)
    (cKinds : PySem.W.codeIn K cdKinds "_law_kinds" = true) (kKinds : PySem.W.keepIn K (.ref fKinds) = true)
    (aMost : PySem.W.nsIn K mainGlobals "_law_most" = some (some (.ref fMost))) (lMost : K.lookup fMost = some ⟨ocMost, odMost, .func (PySem.W.fnOf "_law_most" "_law_most" (defArgs sMost) (defBody sMost) (defScope sMost) .none kVMost dcMost pmMost anMost cdMost ctMost), slMost⟩)
    (cMost : PySem.W.codeIn K cdMost "_law_most" = true) (kMost : PySem.W.keepIn K (.ref fMost) = true)
    (aLAsker : PySem.W.nsIn K mainGlobals "_law_asker" = some (some (.ref fLAsker))) (lLAsker : K.lookup fLAsker = some ⟨ocLAsker, odLAsker, .func (PySem.W.fnOf "_law_asker" "_law_asker" (defArgs sLAsker) (defBody sLAsker) (defScope sLAsker) .none kVLAsker dcLAsker pmLAsker anLAsker cdLAsker ctLAsker), slLAsker⟩)
    (cLAsker : PySem.W.codeIn K cdLAsker "_law_asker" = true) (kLAsker : PySem.W.keepIn K (.ref fLAsker) = true)
    (aLLine : PySem.W.nsIn K mainGlobals "_law_line" = some (some (.ref fLLine))) (lLLine : K.lookup fLLine = some ⟨ocLLine, odLLine, .func (PySem.W.fnOf "_law_line" "_law_line" (defArgs sLLine) (defBody sLLine) (defScope sLLine) .none kVLLine dcLLine pmLLine anLLine cdLLine ctLLine), slLLine⟩)
    (cLLine : PySem.W.codeIn K cdLLine "_law_line" = true) (kLLine : PySem.W.keepIn K (.ref fLLine) = true)
    (aKindsOf : PySem.W.nsIn K mainGlobals "_law_kinds_of" = some (some (.ref fKindsOf))) (lKindsOf : K.lookup fKindsOf = some ⟨ocKindsOf, odKindsOf, .func (PySem.W.fnOf "_law_kinds_of" "_law_kinds_of" (defArgs sKindsOf) (defBody sKindsOf) (defScope sKindsOf) .none kVKindsOf dcKindsOf pmKindsOf anKindsOf cdKindsOf ctKindsOf), slKindsOf⟩)
    (cKindsOf : PySem.W.codeIn K cdKindsOf "_law_kinds_of" = true) (kKindsOf : PySem.W.keepIn K (.ref fKindsOf) = true)
    (aFree : PySem.W.nsIn K mainGlobals "_law_free" = some (some (.ref fFree))) (lFree : K.lookup fFree = some ⟨ocFree, odFree, .func (PySem.W.fnOf "_law_free" "_law_free" (defArgs sFree) (defBody sFree) (defScope sFree) .none kVFree dcFree pmFree anFree cdFree ctFree), slFree⟩)
    (cFree : PySem.W.codeIn K cdFree "_law_free" = true) (kFree : PySem.W.keepIn K (.ref fFree) = true)
    (aMoved : PySem.W.nsIn K mainGlobals "_law_moved" = some (some (.ref fMoved))) (lMoved : K.lookup fMoved = some ⟨ocMoved, odMoved, .func (PySem.W.fnOf "_law_moved" "_law_moved" (defArgs sMoved) (defBody sMoved) (defScope sMoved) .none kVMoved dcMoved pmMoved anMoved cdMoved ctMoved), slMoved⟩)
    (cMoved : PySem.W.codeIn K cdMoved "_law_moved" = true) (kMoved : PySem.W.keepIn K (.ref fMoved) = true)
    (aIsLine : PySem.W.nsIn K mainGlobals "_law_is_line" = some (some (.ref fIsLine))) (lIsLine : K.lookup fIsLine = some ⟨ocIsLine, odIsLine, .func (PySem.W.fnOf "_law_is_line" "_law_is_line" (defArgs sIsLine) (defBody sIsLine) (defScope sIsLine) .none kVIsLine dcIsLine pmIsLine anIsLine cdIsLine ctIsLine), slIsLine⟩)
    (cIsLine : PySem.W.codeIn K cdIsLine "_law_is_line" = true) (kIsLine : PySem.W.keepIn K (.ref fIsLine) = true)
    (aOneRight : PySem.W.nsIn K mainGlobals "_law_one_right" = some (some (.ref fOneRight))) (lOneRight : K.lookup fOneRight = some ⟨ocOneRight, odOneRight, .func (PySem.W.fnOf "_law_one_right" "_law_one_right" (defArgs sOneRight) (defBody sOneRight) (defScope sOneRight) .none kVOneRight dcOneRight pmOneRight anOneRight cdOneRight ctOneRight), slOneRight⟩)
    (cOneRight : PySem.W.codeIn K cdOneRight "_law_one_right" = true) (kOneRight : PySem.W.keepIn K (.ref fOneRight) = true)
    (aLaw : PySem.W.nsIn K mainGlobals "law" = some (some (.ref fLaw))) (lLaw : K.lookup fLaw = some ⟨ocLaw, odLaw, .func (PySem.W.fnOf "law" "law" (defArgs sLaw) (defBody sLaw) (defScope sLaw) .none kVLaw dcLaw pmLaw anLaw cdLaw ctLaw), slLaw⟩)
    (cLaw : PySem.W.codeIn K cdLaw "law" = true) (kLaw : PySem.W.keepIn K (.ref fLaw) = true)
    (aAInit : PySem.W.findIn K (.ref CA) "__init__" = some (some (.ref fAInit))) (lAInit : K.lookup fAInit = some ⟨ocAInit, odAInit, .func (PySem.W.fnOf "__init__" "Asker.__init__" (defArgs sAInit) (defBody sAInit) (defScope sAInit) .none kVAInit dcAInit pmAInit anAInit cdAInit ctAInit), slAInit⟩)
    (cAInit : PySem.W.codeIn K cdAInit "Asker.__init__" = true) (kAInit : PySem.W.keepIn K (.ref fAInit) = true)
    (aAEq : PySem.W.findIn K (.ref CA) "__eq__" = some (some (.ref fAEq))) (lAEq : K.lookup fAEq = some ⟨ocAEq, odAEq, .func (PySem.W.fnOf "__eq__" "Asker.__eq__" (defArgs sAEq) (defBody sAEq) (defScope sAEq) .none kVAEq dcAEq pmAEq anAEq cdAEq ctAEq), slAEq⟩)
    (cAEq : PySem.W.codeIn K cdAEq "Asker.__eq__" = true) (kAEq : PySem.W.keepIn K (.ref fAEq) = true)
    (aLInit : PySem.W.findIn K (.ref CL) "__init__" = some (some (.ref fLInit))) (lLInit : K.lookup fLInit = some ⟨ocLInit, odLInit, .func (PySem.W.fnOf "__init__" "Line.__init__" (defArgs sLInit) (defBody sLInit) (defScope sLInit) .none kVLInit dcLInit pmLInit anLInit cdLInit ctLInit), slLInit⟩)
    (cLInit : PySem.W.codeIn K cdLInit "Line.__init__" = true) (kLInit : PySem.W.keepIn K (.ref fLInit) = true)
    (aLEq : PySem.W.findIn K (.ref CL) "__eq__" = some (some (.ref fLEq))) (lLEq : K.lookup fLEq = some ⟨ocLEq, odLEq, .func (PySem.W.fnOf "__eq__" "Line.__eq__" (defArgs sLEq) (defBody sLEq) (defScope sLEq) .none kVLEq dcLEq pmLEq anLEq cdLEq ctLEq), slLEq⟩)
    (cLEq : PySem.W.codeIn K cdLEq "Line.__eq__" = true) (kLEq : PySem.W.keepIn K (.ref fLEq) = true)
    (aLLen : PySem.W.findIn K (.ref CL) "__len__" = some (some (.ref fLLen))) (lLLen : K.lookup fLLen = some ⟨ocLLen, odLLen, .func (PySem.W.fnOf "__len__" "Line.__len__" (defArgs sLLen) (defBody sLLen) (defScope sLLen) .none kVLLen dcLLen pmLLen anLLen cdLLen ctLLen), slLLen⟩)
    (cLLen : PySem.W.codeIn K cdLLen "Line.__len__" = true) (kLLen : PySem.W.keepIn K (.ref fLLen) = true)
    (aLAskers : PySem.W.findIn K (.ref CL) "askers" = some (some (.ref fLAskers))) (lLAskers : K.lookup fLAskers = some ⟨ocLAskers, odLAskers, .func (PySem.W.fnOf "askers" "Line.askers" (defArgs sLAskers) (defBody sLAskers) (defScope sLAskers) .none kVLAskers dcLAskers pmLAskers anLAskers cdLAskers ctLAskers), slLAskers⟩)
    (cLAskers : PySem.W.codeIn K cdLAskers "Line.askers" = true) (kLAskers : PySem.W.keepIn K (.ref fLAskers) = true)
    (aLNames : PySem.W.findIn K (.ref CL) "names" = some (some (.ref fLNames))) (lLNames : K.lookup fLNames = some ⟨ocLNames, odLNames, .func (PySem.W.fnOf "names" "Line.names" (defArgs sLNames) (defBody sLNames) (defScope sLNames) .none kVLNames dcLNames pmLNames anLNames cdLNames ctLNames), slLNames⟩)
    (cLNames : PySem.W.codeIn K cdLNames "Line.names" = true) (kLNames : PySem.W.keepIn K (.ref fLNames) = true)
    (aLKinds : PySem.W.findIn K (.ref CL) "kinds" = some (some (.ref fLKinds))) (lLKinds : K.lookup fLKinds = some ⟨ocLKinds, odLKinds, .func (PySem.W.fnOf "kinds" "Line.kinds" (defArgs sLKinds) (defBody sLKinds) (defScope sLKinds) .none kVLKinds dcLKinds pmLKinds anLKinds cdLKinds ctLKinds), slLKinds⟩)
    (cLKinds : PySem.W.codeIn K cdLKinds "Line.kinds" = true) (kLKinds : PySem.W.keepIn K (.ref fLKinds) = true)
    (aLAsk : PySem.W.findIn K (.ref CL) "asker" = some (some (.ref fLAsk))) (lLAsk : K.lookup fLAsk = some ⟨ocLAsk, odLAsk, .func (PySem.W.fnOf "asker" "Line.asker" (defArgs sLAsk) (defBody sLAsk) (defScope sLAsk) .none kVLAsk dcLAsk pmLAsk anLAsk cdLAsk ctLAsk), slLAsk⟩)
    (cLAsk : PySem.W.codeIn K cdLAsk "Line.asker" = true) (kLAsk : PySem.W.keepIn K (.ref fLAsk) = true)
    (aLPlace : PySem.W.findIn K (.ref CL) "place" = some (some (.ref fLPlace))) (lLPlace : K.lookup fLPlace = some ⟨ocLPlace, odLPlace, .func (PySem.W.fnOf "place" "Line.place" (defArgs sLPlace) (defBody sLPlace) (defScope sLPlace) .none kVLPlace dcLPlace pmLPlace anLPlace cdLPlace ctLPlace), slLPlace⟩)
    (cLPlace : PySem.W.codeIn K cdLPlace "Line.place" = true) (kLPlace : PySem.W.keepIn K (.ref fLPlace) = true)
    (aLWithout : PySem.W.findIn K (.ref CL) "without" = some (some (.ref fLWithout))) (lLWithout : K.lookup fLWithout = some ⟨ocLWithout, odLWithout, .func (PySem.W.fnOf "without" "Line.without" (defArgs sLWithout) (defBody sLWithout) (defScope sLWithout) .none kVLWithout dcLWithout pmLWithout anLWithout cdLWithout ctLWithout), slLWithout⟩)
    (cLWithout : PySem.W.codeIn K cdLWithout "Line.without" = true) (kLWithout : PySem.W.keepIn K (.ref fLWithout) = true)
    (aLPutIn : PySem.W.findIn K (.ref CL) "put_in" = some (some (.ref fLPutIn))) (lLPutIn : K.lookup fLPutIn = some ⟨ocLPutIn, odLPutIn, .func (PySem.W.fnOf "put_in" "Line.put_in" (defArgs sLPutIn) (defBody sLPutIn) (defScope sLPutIn) .none kVLPutIn dcLPutIn pmLPutIn anLPutIn cdLPutIn ctLPutIn), slLPutIn⟩)
    (cLPutIn : PySem.W.codeIn K cdLPutIn "Line.put_in" = true) (kLPutIn : PySem.W.keepIn K (.ref fLPutIn) = true)
    (aLMoved : PySem.W.findIn K (.ref CL) "moved" = some (some (.ref fLMoved))) (lLMoved : K.lookup fLMoved = some ⟨ocLMoved, odLMoved, .func (PySem.W.fnOf "moved" "Line.moved" (defArgs sLMoved) (defBody sLMoved) (defScope sLMoved) .none kVLMoved dcLMoved pmLMoved anLMoved cdLMoved ctLMoved), slLMoved⟩)
    (cLMoved : PySem.W.codeIn K cdLMoved "Line.moved" = true) (kLMoved : PySem.W.keepIn K (.ref fLMoved) = true)
    (aLChanged : PySem.W.findIn K (.ref CL) "changed" = some (some (.ref fLChanged))) (lLChanged : K.lookup fLChanged = some ⟨ocLChanged, odLChanged, .func (PySem.W.fnOf "changed" "Line.changed" (defArgs sLChanged) (defBody sLChanged) (defScope sLChanged) .none kVLChanged dcLChanged pmLChanged anLChanged cdLChanged ctLChanged), slLChanged⟩)
    (cLChanged : PySem.W.codeIn K cdLChanged "Line.changed" = true) (kLChanged : PySem.W.keepIn K (.ref fLChanged) = true)
    (aLOrdered : PySem.W.findIn K (.ref CL) "ordered" = some (some (.ref fLOrdered))) (lLOrdered : K.lookup fLOrdered = some ⟨ocLOrdered, odLOrdered, .func (PySem.W.fnOf "ordered" "Line.ordered" (defArgs sLOrdered) (defBody sLOrdered) (defScope sLOrdered) .none kVLOrdered dcLOrdered pmLOrdered anLOrdered cdLOrdered ctLOrdered), slLOrdered⟩)
    (cLOrdered : PySem.W.codeIn K cdLOrdered "Line.ordered" = true) (kLOrdered : PySem.W.keepIn K (.ref fLOrdered) = true)
    (qAName : PySem.W.findIn K (.ref CA) "name" = some (some (.ref pAName))) (aAName : ∃ rest, PySem.W.recIn K pAName "property" = some (.ref fAName :: rest)) (lAName : K.lookup fAName = some ⟨ocAName, odAName, .func (PySem.W.fnOf "name" "Asker.name" (defArgs sAName) (defBody sAName) (defScope sAName) .none kVAName dcAName pmAName anAName cdAName ctAName), slAName⟩)
    (cAName : PySem.W.codeIn K cdAName "Asker.name" = true) (kAName : PySem.W.keepIn K (.ref fAName) = true)
    (qAFits : PySem.W.findIn K (.ref CA) "fits" = some (some (.ref pAFits))) (aAFits : ∃ rest, PySem.W.recIn K pAFits "property" = some (.ref fAFits :: rest)) (lAFits : K.lookup fAFits = some ⟨ocAFits, odAFits, .func (PySem.W.fnOf "fits" "Asker.fits" (defArgs sAFits) (defBody sAFits) (defScope sAFits) .none kVAFits dcAFits pmAFits anAFits cdAFits ctAFits), slAFits⟩)
    (cAFits : PySem.W.codeIn K cdAFits "Asker.fits" = true) (kAFits : PySem.W.keepIn K (.ref fAFits) = true)
    (qAMost : PySem.W.findIn K (.ref CA) "most" = some (some (.ref pAMost))) (aAMost : ∃ rest, PySem.W.recIn K pAMost "property" = some (.ref fAMost :: rest)) (lAMost : K.lookup fAMost = some ⟨ocAMost, odAMost, .func (PySem.W.fnOf "most" "Asker.most" (defArgs sAMost) (defBody sAMost) (defScope sAMost) .none kVAMost dcAMost pmAMost anAMost cdAMost ctAMost), slAMost⟩)
    (cAMost : PySem.W.codeIn K cdAMost "Asker.most" = true) (kAMost : PySem.W.keepIn K (.ref fAMost) = true)
    (z0 : PySem.W.nsIn K mainGlobals "len" = some none)
    (z1 : PySem.W.nsIn K mainGlobals "isinstance" = some none)
    (z2 : PySem.W.nsIn K mainGlobals "int" = some none)
    (z3 : PySem.W.nsIn K mainGlobals "bool" = some none)
    (z4 : PySem.W.nsIn K mainGlobals "str" = some none)
    (z5 : PySem.W.nsIn K mainGlobals "list" = some none)
    (z6 : PySem.W.nsIn K mainGlobals "set" = some none)
    (z7 : PySem.W.nsIn K mainGlobals "all" = some none)
    (z8 : PySem.W.nsIn K mainGlobals "sorted" = some none)
    (z9 : PySem.W.nsIn K mainGlobals "tuple" = some none)
    (z10 : PySem.W.nsIn K mainGlobals "range" = some none)
    (z11 : PySem.W.nsIn K mainGlobals "min" = some none)
    (z12 : PySem.W.nsIn K mainGlobals "max" = some none)
    (z13 : PySem.W.nsIn K mainGlobals "sum" = some none)
    (z14 : PySem.W.nsIn K mainGlobals "repr" = some none)
    (hA : clsAB K CA fAInit pAName fAName pAFits fAFits pAMost fAMost fAEq = true) (hL : clsLB K CL fLInit fLEq fLLen fLAskers fLNames fLKinds fLAsk fLPlace = true) (hL2 : clsLB2 K CL fLWithout fLPutIn fLMoved fLChanged fLOrdered = true) (hne : CL ≠ CA) :
    ∃ fd : FuncData, (∀ (s : Shared) (v : Value), BindsTo s fd ⟨[v], []⟩ [("_law_script", v)]) ∧ ∀ base : Heap, K.In base → base.Ns mainGlobals mg → FnG l.prog w K mg base CX0 9 fa fd ["_law_script"] (spLaw K) := by
  have e := hfa.symm.trans (PySem.W.mg_of X G aLaw)
  cases e
  have FWhole := fun_mk (st := sWhole) lWhole cWhole kWhole
  have FCount := fun_mk (st := sCount) lCount cCount kCount
  have FIsName := fun_mk (st := sIsName) lIsName cIsName kIsName
  have FUnlike := fun_mk (st := sUnlike) lUnlike cUnlike kUnlike
  have FAreNames := fun_mk (st := sAreNames) lAreNames cAreNames kAreNames
  have FAreAskers := fun_mk (st := sAreAskers) lAreAskers cAreAskers kAreAskers
  have FNeedAsker := fun_mk (st := sNeedAsker) lNeedAsker cNeedAsker kNeedAsker
  have FPurse := fun_mk (st := sPurse) lPurse cPurse kPurse
  have FMixed := fun_mk (st := sMixed) lMixed cMixed kMixed
  have FDraw := fun_mk (st := sDraw) lDraw cDraw kDraw
  have FPurses := fun_mk (st := sPurses) lPurses cPurses kPurses
  have FOneOf := fun_mk (st := sOneOf) lOneOf cOneOf kOneOf
  have FShuffled := fun_mk (st := sShuffled) lShuffled cShuffled kShuffled
  have FWord := fun_mk (st := sWord) lWord cWord kWord
  have FNames := fun_mk (st := sNames) lNames cNames kNames
  have FKinds := fun_mk (st := sKinds) lKinds cKinds kKinds
  have FMost := fun_mk (st := sMost) lMost cMost kMost
  have FLAsker := fun_mk (st := sLAsker) lLAsker cLAsker kLAsker
  have FLLine := fun_mk (st := sLLine) lLLine cLLine kLLine
  have FKindsOf := fun_mk (st := sKindsOf) lKindsOf cKindsOf kKindsOf
  have FFree := fun_mk (st := sFree) lFree cFree kFree
  have FMoved := fun_mk (st := sMoved) lMoved cMoved kMoved
  have FIsLine := fun_mk (st := sIsLine) lIsLine cIsLine kIsLine
  have FOneRight := fun_mk (st := sOneRight) lOneRight cOneRight kOneRight
  have FLaw := fun_mk (st := sLaw) lLaw cLaw kLaw
  have FAInit := fun_mk (st := sAInit) lAInit cAInit kAInit
  have FAEq := fun_mk (st := sAEq) lAEq cAEq kAEq
  have FLInit := fun_mk (st := sLInit) lLInit cLInit kLInit
  have FLEq := fun_mk (st := sLEq) lLEq cLEq kLEq
  have FLLen := fun_mk (st := sLLen) lLLen cLLen kLLen
  have FLAskers := fun_mk (st := sLAskers) lLAskers cLAskers kLAskers
  have FLNames := fun_mk (st := sLNames) lLNames cLNames kLNames
  have FLKinds := fun_mk (st := sLKinds) lLKinds cLKinds kLKinds
  have FLAsk := fun_mk (st := sLAsk) lLAsk cLAsk kLAsk
  have FLPlace := fun_mk (st := sLPlace) lLPlace cLPlace kLPlace
  have FLWithout := fun_mk (st := sLWithout) lLWithout cLWithout kLWithout
  have FLPutIn := fun_mk (st := sLPutIn) lLPutIn cLPutIn kLPutIn
  have FLMoved := fun_mk (st := sLMoved) lLMoved cLMoved kLMoved
  have FLChanged := fun_mk (st := sLChanged) lLChanged cLChanged kLChanged
  have FLOrdered := fun_mk (st := sLOrdered) lLOrdered cLOrdered kLOrdered
  have FAName := fun_mk (st := sAName) lAName cAName kAName
  have FAFits := fun_mk (st := sAFits) lAFits cAFits kAFits
  have FAMost := fun_mk (st := sAMost) lAMost cAMost kAMost
  have DR : Drw K mg fMixed fDraw fOneOf fShuffled fWord _ _ _ _ _ := ⟨FMixed, FDraw, FOneOf, FShuffled, FWord, PySem.W.mg_of X G aMixed, PySem.W.mg_of X G aDraw, PySem.W.mg_of X G aOneOf, PySem.W.mg_of X G aShuffled, PySem.W.mg_of X G aWord⟩
  have CH : Chk K mg fIsName fUnlike _ _ := ⟨FIsName, FUnlike, PySem.W.mg_of X G aIsName, PySem.W.mg_of X G aUnlike⟩
  have CH2 : Chk2 K mg fWhole fAreNames _ _ := ⟨FWhole, FAreNames, PySem.W.mg_of X G aWhole, PySem.W.mg_of X G aAreNames⟩
  have DF : Defs K mg fPurse fPurses fNames fKinds fMost fLAsker fLLine fKindsOf fFree fMoved fIsLine fOneRight fAreAskers fNeedAsker fCount _ _ _ _ _ _ _ _ _ _ _ _ _ _ _ := ⟨FPurse, FPurses, FNames, FKinds, FMost, FLAsker, FLLine, FKindsOf, FFree, FMoved, FIsLine, FOneRight, FAreAskers, FNeedAsker, FCount, PySem.W.mg_of X G aPurse, PySem.W.mg_of X G aPurses, PySem.W.mg_of X G aNames, PySem.W.mg_of X G aKinds, PySem.W.mg_of X G aMost, PySem.W.mg_of X G aLAsker, PySem.W.mg_of X G aLLine, PySem.W.mg_of X G aKindsOf, PySem.W.mg_of X G aFree, PySem.W.mg_of X G aMoved, PySem.W.mg_of X G aIsLine, PySem.W.mg_of X G aOneRight, PySem.W.mg_of X G aAreAskers, PySem.W.mg_of X G aNeedAsker, PySem.W.mg_of X G aCount⟩
  have B : Blt mg := ⟨PySem.W.mg_none_of X G z0, PySem.W.mg_none_of X G z1, PySem.W.mg_none_of X G z2, PySem.W.mg_none_of X G z3, PySem.W.mg_none_of X G z4, PySem.W.mg_none_of X G z5, PySem.W.mg_none_of X G z6, PySem.W.mg_none_of X G z7, PySem.W.mg_none_of X G z8, PySem.W.mg_none_of X G z9, PySem.W.mg_none_of X G z10, PySem.W.mg_none_of X G z11, PySem.W.mg_none_of X G z12, PySem.W.mg_none_of X G z13, PySem.W.mg_none_of X G z14⟩
  exact ⟨PySem.W.fnOf "law" "law" (defArgs sLaw) (defBody sLaw) (defScope sLaw) .none kVLaw dcLaw pmLaw anLaw cdLaw ctLaw, fun s v => .of_eq rfl, fun base _ _ =>
    .of (ok_law FLaw DR CH CH2 B DF (clsAB_ok hA) (PySem.W.mg_of X G aA) FAInit FAName FAFits FAMost FAEq (clsLB_ok hL) (clsLB2_ok hL2) (PySem.W.mg_of X G aL) hne FLInit FLEq FLAskers FLNames FLLen FLKinds FLAsk FLPlace FLWithout FLPutIn FLMoved FLChanged FLOrdered)⟩
end Eld
end L2
open PySem PySem.W PyProof.Rows
set_option maxHeartbeats 0 in
theorem PySem.Challenge.cw_elderlink_k04_lines_changed_holds : PySem.Challenge.rw_elderlink_k04_lines_changed.Holds := by
  w_on; o_law; k_head; (case hw => w_witness2)
  k_fill
  refine L2.Eld.walkG (l := PySem.Challenge.rw_elderlink_k04_lines_changed) (n := 63) (k := 9) (x := "_law_script") (sp := fun w => L2.Eld.spLaw _) rfl (by decide) rfl ⟨rfl, by decide, by decide⟩ (fun w h Y => PySem.W.kIn_of Y) ?F (fun _ _ a ns hl _ hS => ⟨a, ns, rfl, hS, hl, fun _ => rfl⟩)
  case F =>
    intro w mg fa h KX G hmg
    refine' L2.Eld.all_mk KX G hmg ?aA ?aL ?aWhole ?lWhole ?cWhole ?kWhole ?aCount ?lCount ?cCount ?kCount ?aIsName ?lIsName ?cIsName ?kIsName ?aUnlike ?lUnlike ?cUnlike ?kUnlike ?aAreNames ?lAreNames ?cAreNames ?kAreNames ?aAreAskers ?lAreAskers ?cAreAskers ?kAreAskers ?aNeedAsker ?lNeedAsker ?cNeedAsker ?kNeedAsker ?aPurse ?lPurse ?cPurse ?kPurse ?aMixed ?lMixed ?cMixed ?kMixed ?aDraw ?lDraw ?cDraw ?kDraw ?aPurses ?lPurses ?cPurses ?kPurses ?aOneOf ?lOneOf ?cOneOf ?kOneOf ?aShuffled ?lShuffled ?cShuffled ?kShuffled ?aWord ?lWord ?cWord ?kWord ?aNames ?lNames ?cNames ?kNames ?aKinds ?lKinds ?cKinds ?kKinds ?aMost ?lMost ?cMost ?kMost ?aLAsker ?lLAsker ?cLAsker ?kLAsker ?aLLine ?lLLine ?cLLine ?kLLine ?aKindsOf ?lKindsOf ?cKindsOf ?kKindsOf ?aFree ?lFree ?cFree ?kFree ?aMoved ?lMoved ?cMoved ?kMoved ?aIsLine ?lIsLine ?cIsLine ?kIsLine ?aOneRight ?lOneRight ?cOneRight ?kOneRight ?aLaw ?lLaw ?cLaw ?kLaw ?aAInit ?lAInit ?cAInit ?kAInit ?aAEq ?lAEq ?cAEq ?kAEq ?aLInit ?lLInit ?cLInit ?kLInit ?aLEq ?lLEq ?cLEq ?kLEq ?aLLen ?lLLen ?cLLen ?kLLen ?aLAskers ?lLAskers ?cLAskers ?kLAskers ?aLNames ?lLNames ?cLNames ?kLNames ?aLKinds ?lLKinds ?cLKinds ?kLKinds ?aLAsk ?lLAsk ?cLAsk ?kLAsk ?aLPlace ?lLPlace ?cLPlace ?kLPlace ?aLWithout ?lLWithout ?cLWithout ?kLWithout ?aLPutIn ?lLPutIn ?cLPutIn ?kLPutIn ?aLMoved ?lLMoved ?cLMoved ?kLMoved ?aLChanged ?lLChanged ?cLChanged ?kLChanged ?aLOrdered ?lLOrdered ?cLOrdered ?kLOrdered ?qAName ?aAName ?lAName ?cAName ?kAName ?qAFits ?aAFits ?lAFits ?cAFits ?kAFits ?qAMost ?aAMost ?lAMost ?cAMost ?kAMost ?z0 ?z1 ?z2 ?z3 ?z4 ?z5 ?z6 ?z7 ?z8 ?z9 ?z10 ?z11 ?z12 ?z13 ?z14 ?hA ?hL ?hL2 ?hne
    (case aA => k_is); (case aL => k_is)
    (case aWhole => k_is); (case lWhole => k_is); (case cWhole => k_is); (case kWhole => k_is)
    (case aCount => k_is); (case lCount => k_is); (case cCount => k_is); (case kCount => k_is)
    (case aIsName => k_is); (case lIsName => k_is); (case cIsName => k_is); (case kIsName => k_is)
    (case aUnlike => k_is); (case lUnlike => k_is); (case cUnlike => k_is); (case kUnlike => k_is)
    (case aAreNames => k_is); (case lAreNames => k_is); (case cAreNames => k_is); (case kAreNames => k_is)
    (case aAreAskers => k_is); (case lAreAskers => k_is); (case cAreAskers => k_is); (case kAreAskers => k_is)
    (case aNeedAsker => k_is); (case lNeedAsker => k_is); (case cNeedAsker => k_is); (case kNeedAsker => k_is)
    (case aPurse => k_is); (case lPurse => k_is); (case cPurse => k_is); (case kPurse => k_is)
    (case aMixed => k_is); (case lMixed => k_is); (case cMixed => k_is); (case kMixed => k_is)
    (case aDraw => k_is); (case lDraw => k_is); (case cDraw => k_is); (case kDraw => k_is)
    (case aPurses => k_is); (case lPurses => k_is); (case cPurses => k_is); (case kPurses => k_is)
    (case aOneOf => k_is); (case lOneOf => k_is); (case cOneOf => k_is); (case kOneOf => k_is)
    (case aShuffled => k_is); (case lShuffled => k_is); (case cShuffled => k_is); (case kShuffled => k_is)
    (case aWord => k_is); (case lWord => k_is); (case cWord => k_is); (case kWord => k_is)
    (case aNames => k_is); (case lNames => k_is); (case cNames => k_is); (case kNames => k_is)
    (case aKinds => k_is); (case lKinds => k_is); (case cKinds => k_is); (case kKinds => k_is)
    (case aMost => k_is); (case lMost => k_is); (case cMost => k_is); (case kMost => k_is)
    (case aLAsker => k_is); (case lLAsker => k_is); (case cLAsker => k_is); (case kLAsker => k_is)
    (case aLLine => k_is); (case lLLine => k_is); (case cLLine => k_is); (case kLLine => k_is)
    (case aKindsOf => k_is); (case lKindsOf => k_is); (case cKindsOf => k_is); (case kKindsOf => k_is)
    (case aFree => k_is); (case lFree => k_is); (case cFree => k_is); (case kFree => k_is)
    (case aMoved => k_is); (case lMoved => k_is); (case cMoved => k_is); (case kMoved => k_is)
    (case aIsLine => k_is); (case lIsLine => k_is); (case cIsLine => k_is); (case kIsLine => k_is)
    (case aOneRight => k_is); (case lOneRight => k_is); (case cOneRight => k_is); (case kOneRight => k_is)
    (case aLaw => k_is); (case lLaw => k_is); (case cLaw => k_is); (case kLaw => k_is)
    (case aAInit => k_is); (case lAInit => k_is); (case cAInit => k_is); (case kAInit => k_is)
    (case aAEq => k_is); (case lAEq => k_is); (case cAEq => k_is); (case kAEq => k_is)
    (case aLInit => k_is); (case lLInit => k_is); (case cLInit => k_is); (case kLInit => k_is)
    (case aLEq => k_is); (case lLEq => k_is); (case cLEq => k_is); (case kLEq => k_is)
    (case aLLen => k_is); (case lLLen => k_is); (case cLLen => k_is); (case kLLen => k_is)
    (case aLAskers => k_is); (case lLAskers => k_is); (case cLAskers => k_is); (case kLAskers => k_is)
    (case aLNames => k_is); (case lLNames => k_is); (case cLNames => k_is); (case kLNames => k_is)
    (case aLKinds => k_is); (case lLKinds => k_is); (case cLKinds => k_is); (case kLKinds => k_is)
    (case aLAsk => k_is); (case lLAsk => k_is); (case cLAsk => k_is); (case kLAsk => k_is)
    (case aLPlace => k_is); (case lLPlace => k_is); (case cLPlace => k_is); (case kLPlace => k_is)
    (case aLWithout => k_is); (case lLWithout => k_is); (case cLWithout => k_is); (case kLWithout => k_is)
    (case aLPutIn => k_is); (case lLPutIn => k_is); (case cLPutIn => k_is); (case kLPutIn => k_is)
    (case aLMoved => k_is); (case lLMoved => k_is); (case cLMoved => k_is); (case kLMoved => k_is)
    (case aLChanged => k_is); (case lLChanged => k_is); (case cLChanged => k_is); (case kLChanged => k_is)
    (case aLOrdered => k_is); (case lLOrdered => k_is); (case cLOrdered => k_is); (case kLOrdered => k_is)
    (case qAName => k_is); (case aAName => exact ⟨_, by k_is⟩); (case lAName => k_is); (case cAName => k_is); (case kAName => k_is)
    (case qAFits => k_is); (case aAFits => exact ⟨_, by k_is⟩); (case lAFits => k_is); (case cAFits => k_is); (case kAFits => k_is)
    (case qAMost => k_is); (case aAMost => exact ⟨_, by k_is⟩); (case lAMost => k_is); (case cAMost => k_is); (case kAMost => k_is)
    (case z0 => k_is); (case z1 => k_is); (case z2 => k_is); (case z3 => k_is); (case z4 => k_is); (case z5 => k_is); (case z6 => k_is); (case z7 => k_is); (case z8 => k_is); (case z9 => k_is); (case z10 => k_is); (case z11 => k_is); (case z12 => k_is); (case z13 => k_is); (case z14 => k_is)
    (case hA => kernel_rfl)
    (case hL => kernel_rfl)
    (case hL2 => kernel_rfl)
    (case hne => decide)

