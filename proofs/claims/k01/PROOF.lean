import PyProof.Rows.All
import Wide.All
import OpenK.AllK
import Wide.FinOn
import PyProof.EqAt
import PyProof.EqKinds
import PyProof.TupleCall
import KE.KIsAll
import KE.KTryMore
import HandS.ForMost
import HandS.Exc
import HandS.ExcIs
import HandS.ExcInit
import HandS.ExcField
import HandS.ExcValue
import HandS.Defaults
import HandS.IsInst
import HandS.WideBits
import HandS.Wide
import PyProof.ReprRoads
import PyProof.ReprText
import PySem.Challenge.RW_elderlink_k01_errors_made
set_option Elab.async false
set_option linter.all false
set_option maxRecDepth 100000
set_option maxHeartbeats 4000000
namespace PySem
namespace EldX
open PySem.W PySem.Calls PyProof.Rows PySem.HandSPX
open Builtin Builtin.ObjectAttr
section
variable {prog : Program} {w : World} {A : Around} {E : Value → Shared → Prop} {R : Result → Shared → Prop} {h : Heap} {g : Array GenState} {d : Drawn} {t : Nat} {os : OsState}
variable {nm q : Str} {C N : Addr} {bs bm bmB : List Value} {hdct : Bool} {sn : List Str} {sub : List Value} {ab : Bool} {col : Option Bool} {dd : Option Addr} {k0 k1 k2 k3 k5 : Option Value} {B newId initId : String}
/-- a keyword beside the class is let through by the maker's look -/
theorem chk_kw {M : Model} (F : ExcBaseFacts B newId initId bmB) (hT : ∀ X : String, bm.contains (.type X) = bmB.contains (.type X)) {x : Str} {v : Value} {Q : Unit → Shared → Prop}
    (hC : h.get? C = some (excClassObj nm q C N bs bm hdct sn sub ab col dd k0 k1 k2 k3 k5 newId)) (hq : Q () ⟨h, g, d, t, os⟩) :
    wpAny M A (checkBuiltinCall newId ⟨[.ref C], [(x, v)]⟩) Q E ⟨h, g, d, t, os⟩ := by
  have hB : (Value.ref C :: bm).contains (.type B) = true := by
    rw [List.contains_cons, hT, F.hasB, Bool.or_true]
  have hs := F.noStar
  simp only [checkBuiltinCall, F.newKind, F.newSplit, F.newRow]
  repeat (first
    | refine wpAny_loadPart_at hC ?_
    | (refine wpAny_isSubtype_exc hC ?_; rw [hB])
    | refine wpAny_staticBase_exc hC ?_
    | refine wpAny_madeBy_exc hC ?_
    | simp only [bne_self_eq_false, Bool.false_eq_true, if_false]
    | wp_step)
  exact hq
/-- the maker's own run with one keyword: it sees the class alone -/
theorem new_kw (F : ExcBaseFacts B newId initId bmB) (hT : ∀ X : String, bm.contains (.type X) = bmB.contains (.type X)) {x : Str} {v : Value}
    (hC : h.get? C = some (excClassObj nm q C N bs bm hdct sn sub ab col dd k0 k1 k2 k3 k5 newId))
    (hq : R (.ok (.ret (.ref (h.objs.size + 1)))) ⟨(h.push (W.kdv_tup [])).push (excO C h.objs.size), g, d, t, os⟩) :
    codeAny (model prog w) A (.builtin newId ⟨[.ref C], [(x, v)]⟩) R ⟨h, g, d, t, os⟩ := by
  have he := F.ends
  have cB : (Value.ref C :: bm).contains (.type B) = true := by
    rw [List.contains_cons, hT, F.hasB, Bool.or_true]
  have cA : (Value.ref C :: bm).contains (.type "AttributeError") = false := by
    rw [List.contains_cons, hT, F.noAttr]
    rfl
  have cN : (Value.ref C :: bm).contains (.type "NameError") = false := by
    rw [List.contains_cons, hT, F.noName]
    rfl
  refine codeAny_builtinAt F.entry ?_
  unfold Builtin.«BaseException.__new__»
  refine wpAt_bind ?_
  show wpAt _ _ _ (stack >>= _) _ _ _
  refine wpAt_bind (wpAt_stack fun _ _ => wpAt_of_wpAny ?_)
  wp_walk
  refine wpAt_of_wpAny ?_
  rw [F.owner]
  repeat (first
    | with_reducible refine wpAny_madeHere_exc F.canon hC ?_
    | with_reducible refine wpAny_loadPart_at hC ?_
    | (with_reducible refine wpAny_isSubtype_exc hC ?_; first | rw [cB] | rw [cA] | rw [cN])
    | wp_step)
  show R _ _
  rw [Heap.size_push]
  exact hq
theorem type_call_kw (F : ExcBaseFacts B newId initId bmB) (hT : ∀ X : String, bm.contains (.type X) = bmB.contains (.type X)) {x : Str} {v : Value} {fI : Addr} {Q : Fin → Shared → Prop}
    (hC : h.get? C = some (excClassObj nm q C N bs bm hdct sn sub ab col dd k0 k1 k2 k3 k5 newId))
    (hi : W.Looks (model prog w) h (typeLookup (.ref C) "__init__") (some (.ref fI))) (hb : ∀ self, W.Looks (model prog w) h (bindSpecial (.ref fI) self) (.ref fI, [self]))
    (hq : codeAny (model prog w) A (.call (.ref fI) ⟨[.ref (h.objs.size + 1)], [(x, v)]⟩)
      (fun r s' => match r with | .ok (.ret u) => u = .none ∧ Q (.done (.ret (.ref (h.objs.size + 1)))) s' | .ok _ => False | .error e => E e s')
      ⟨(h.push (W.kdv_tup [])).push (excO C h.objs.size), g, d, t, os⟩) :
    wpAny (model prog w) A (Builtin.«type.__call__» ⟨[.ref C], [(x, v)]⟩) Q E ⟨h, g, d, t, os⟩ := by
  repeat (first
    | with_reducible refine wpAny_loadPart_at hC ?_
    | with_reducible refine wpAny_madeBy_exc hC ?_
    | wp_step)
  refine codeAny_call_builtin_code (Code.quiet_builtin _ F.quiet) (chk_kw F hT hC ?_)
  refine new_kw F hT hC ?_
  show wpAny _ _ _ _ _ _
  have keep : ∀ b o, h.get? b = some o → ((h.push (W.kdv_tup [])).push (excO C h.objs.size)).get? b = some o := fun b o e =>
    Heap.get?_push_of_some _ (Heap.get?_push_of_some _ e)
  have hC' := keep _ _ hC
  have new : ((h.push (W.kdv_tup [])).push (excO C h.objs.size)).get? (h.objs.size + 1) = some (excO C h.objs.size) := by heap_get
  have self : (Value.ref C :: bm).contains (.ref C) = true := by simp
  have i' := hi.keeps keep
  have b' := (hb (.ref (h.objs.size + 1))).keeps keep
  unfold isInstance
  repeat (first
    | with_reducible refine wpAny_loadPart_at new ?_
    | (with_reducible refine wpAny_isSubtype_exc hC' ?_; rw [self])
    | wp_step)
  show wpAny _ _ (typeLookup (.ref C) _) _ _ _
  refine i'.at ?_
  refine wpAny_holding (wpAny_bind (b'.at ?_))
  refine wpAny_bind (wpAny_call (codeAny_mono hq fun r s' z => ?_))
  rcases r with e | (u | _ | _ | _) <;> first | exact z | exact z.elim | skip
  obtain ⟨rfl, z⟩ := z
  first
    | exact wpAny_pure (wpAny_pure z)
    | (wp_walk; exact z)
/-- C(x = v) for an own exception class with its own __init__ -/
theorem call_kw (F : ExcBaseFacts B newId initId bmB) (hT : ∀ X : String, bm.contains (.type X) = bmB.contains (.type X)) {x : Str} {v : Value} {fI : Addr}
    (hC : h.get? C = some (excClassObj nm q C N bs bm hdct sn sub ab col dd k0 k1 k2 k3 k5 newId))
    (hi : W.Looks (model prog w) h (typeLookup (.ref C) "__init__") (some (.ref fI))) (hb : ∀ self, W.Looks (model prog w) h (bindSpecial (.ref fI) self) (.ref fI, [self]))
    (hq : codeAny (model prog w) (A.under (.builtin "type.__call__" ⟨[.ref C], [(x, v)]⟩)) (.call (.ref fI) ⟨[.ref (h.objs.size + 1)], [(x, v)]⟩) (W.InitBack (h.objs.size + 1) R)
      ⟨(h.push (W.kdv_tup [])).push (excO C h.objs.size), g, d, t, os⟩) :
    codeAny (model prog w) A (.call (.ref C) ⟨[], [(x, v)]⟩) R ⟨h, g, d, t, os⟩ := by
  have f1 := tc_lookup
  have f2 := tc_bind (.ref C)
  have ty : (⟨h, g, d, t, os⟩ : Shared).TypeIs (.ref C) "type" := ⟨_, hC, rfl⟩
  refine codeAny_of_tree ?_
  show wpAny _ _ (callAny (.ref C) _) _ _ _
  repeat (any_goals (first
    | assumption
    | with_reducible refine wpAny_loadPart_at hC ?_
    | wp_step))
  refine ⟨rfl, ?_⟩
  refine codeAny_call_builtin_at (Code.quiet_builtin _ (by decide +kernel)) entry_typeCall (wpAny_check_type_call_sub hC (type_call_kw F hT hC hi hb ?_))
  refine codeAny_mono hq fun r s' z => ?_
  rcases r with e | (u | _ | _ | _) <;> exact z
end
end EldX
end PySem

set_option Elab.async false
set_option linter.all false
set_option maxRecDepth 100000
set_option maxHeartbeats 4000000
namespace PySem
namespace EldX
open PySem.W PySem.Calls PyProof.Rows PySem.HandSPX
/-! ### the text of an error's __init__(self, value=None): self.value = value -/
def eA (p1 p2 p3 : Pos) (k : Nat) : Arguments :=
  { posonlyargs := [], args := [{ arg := "self", annotation := none, pos := p1 }, { arg := "value", annotation := none, pos := p2 }],
    vararg := none, kwonlyargs := [], kw_defaults := [], kwarg := none, defaults := [.Constant .none k p3] }
def eB (q1 q2 q3 q4 : Pos) : List Stmt :=
  [.Assign [.Attribute (.Name "self" q1) "value" q2] (.Name "value" q3) q4]
def eS : Scope :=
  { kind := .function, names := [(PySem.Str.ofString "self", .local), (PySem.Str.ofString "value", .local)],
    isGenerator := false, isCoroutine := false, more := [] }
/-- what the written part says of an error's class at C -/
structure ErrC (K : Frag) (C : Addr) : Prop where
  cls : ∃ nm q N bs bm sn sub ab col dd k0 k1 k2 k3 k5,
    K.lookup C = some (excClassObj nm q C N bs bm true sn sub ab col dd k0 k1 k2 k3 k5 "ValueError.__new__") ∧ refsVE bm = true
  sa : findIn K (.ref C) "__setattr__" = some (some (.builtin "object.__setattr__"))
  ga : findIn K (.ref C) "__getattribute__" = some (some (.builtin "BaseException.__getattribute__"))
  gg : findIn K (.ref C) "__getattr__" = some none
  ex : subIn K (.ref C) (.type "BaseException") = some true
  ha : findIn K (.ref C) "__class__" = some (some (.builtin "object.__class__"))
  ob : mroIn K C (.type "object") = some true
  hd : hasDictIn K C = true
  kp : keepIn K (.ref C) = true
/-- .. and of its own __init__ -/
structure ErrI (K : Frag) (C : Addr) : Prop where
  no : findIn K (.ref C) "value" = some none
  fn : ∃ (f : Addr) (q : Str) (oc : Value) (od : Option Addr) (T : Addr) (oT : Obj) (n : Nat) (kV doc pm : Value) (an : Option Addr) (cdv ct : Value) (osl : Array (Option Value)) (p1 p2 p3 q1 q2 q3 q4 : Pos) (kk : Nat),
    findIn K (.ref C) "__init__" = some (some (.ref f)) ∧ typeIn K (.ref f) = some (.type "function") ∧
    K.lookup f = some ⟨oc, od, .func (fnOf "__init__" q (eA p1 p2 p3 kk) (eB q1 q2 q3 q4) eS (.ref T) kV doc pm an cdv ct), osl⟩ ∧
    codeIn K cdv q = true ∧ K.lookup T = some oT ∧ oT.data = .seq #[.none] n
/-- how the two parameters may be bound: by place, by name, not at all -/
inductive Given (v : Value) : List Value → List (Str × Value) → Prop where
  | place : Given v [v] []
  | name : Given v [] [("value", v)]
  | none (h : v = .none) : Given v [] []
section
variable {s : Shared} {K : Frag} {T : Addr} {oT : Obj} {n : Nat} {q : Str} {kV doc pm cdv ct self v : Value} {an : Option Addr} {p1 p2 p3 q1 q2 q3 q4 : Pos} {kk : Nat}
theorem binds_given (X : K.In s.heap) (lT : K.lookup T = some oT) (eT : oT.data = .seq #[.none] n) {us : List Value} {kw : List (Str × Value)} (g : Given v us kw) :
    BindsTo s (fnOf "__init__" q (eA p1 p2 p3 kk) (eB q1 q2 q3 q4) eS (.ref T) kV doc pm an cdv ct) ⟨self :: us, kw⟩ [("self", self), ("value", v)] := by
  refine L2.BindsTo.of_looks fun M => ?_
  cases g with
  | place =>
    have e : ∃ k, bindArgs (fnOf "__init__" q (eA p1 p2 p3 kk) (eB q1 q2 q3 q4) eS (.ref T) kV doc pm an cdv ct) ⟨[self, v], []⟩ = seqItems? (.ref T) >>= k ∧
        k (some #[.none]) = (pure [(("self" : Str), self), ("value", v)] : Sem (List (Str × Value))) := by
      refine ⟨_, rfl, ?_⟩
      first | rfl | with_unfolding_all rfl | kernel_rfl
    obtain ⟨k, e1, e2⟩ := e
    rw [e1]
    exact L2.looks_items X lT eT (.of_pure e2)
  | name =>
    have e : ∃ k, bindArgs (fnOf "__init__" q (eA p1 p2 p3 kk) (eB q1 q2 q3 q4) eS (.ref T) kV doc pm an cdv ct) ⟨[self], [("value", v)]⟩ = seqItems? (.ref T) >>= k ∧
        k (some #[.none]) = (pure [(("self" : Str), self), ("value", v)] : Sem (List (Str × Value))) := by
      refine ⟨_, rfl, ?_⟩
      first | rfl | with_unfolding_all rfl | kernel_rfl
    obtain ⟨k, e1, e2⟩ := e
    rw [e1]
    exact L2.looks_items X lT eT (.of_pure e2)
  | none h =>
    subst h
    have e : ∃ k, bindArgs (fnOf "__init__" q (eA p1 p2 p3 kk) (eB q1 q2 q3 q4) eS (.ref T) kV doc pm an cdv ct) ⟨[self], []⟩ = seqItems? (.ref T) >>= k ∧
        k (some #[.none]) = (pure [(("self" : Str), self), ("value", Value.none)] : Sem (List (Str × Value))) := by
      refine ⟨_, rfl, ?_⟩
      first | rfl | with_unfolding_all rfl | kernel_rfl
    obtain ⟨k, e1, e2⟩ := e
    rw [e1]
    exact L2.looks_items X lT eT (.of_pure e2)
end
/-- what is made: a new error at e, its dict at d -/
structure Made (h h' : Heap) (e C d : Addr) (v : Value) : Prop where
  keep : ∀ b o, h.get? b = some o → h'.get? b = some o
  new : h.get? e = none
  dnew : h.get? d = none
  ne : d ≠ e
  obj : ∃ t, h'.get? e = some { cls := .ref C, dict := some d, data := .fields #[.ref t, .none, .none, .none, .bool false, .none] }
  ns : h'.Ns1 d (fun y => if y = "value" then some v else none)
section
variable {prog : Program} {w : World} {A : Around} {E : Value → Shared → Prop} {R : Result → Shared → Prop} {s : Shared} {K : Frag} {C : Addr}
theorem load_local {M : Model} {s : Shared} {name : Str} {scope : Scope} {L a : Addr} {cd : Value} {m : Str → Option Value} {x : Str} {pos : Pos} {v : Value} {Q : Value → Shared → Prop} {A : Around} {E : Value → Shared → Prop}
    (hn : s.heap.Ns L m) (hv : m x = some v) (h : Q v s) (hk : scope.kind = .function := by rfl) (hl : (envOfC name scope L a cd).kindOf x = some .local := by rfl) (hd : (x == ("__debug__" : Str)) = false := by decide) :
    wpAny M A (eval (.Name x pos) (envOfC name scope L a cd)) Q E s :=
  wpAny_Name (wpAny_loadName_local hk hl hn hv h) hd
/-- __init__ runs on a fresh error at x -/
theorem init_run (T : ErrC K C) {f T0 : Addr} {oT : Obj} {n : Nat} {q : Str} {oc kV doc pm cdv ct : Value} {od an : Option Addr} {osl : Array (Option Value)} {p1 p2 p3 q1 q2 q3 q4 : Pos} {kk : Nat}
    (ho : K.lookup f = some ⟨oc, od, .func (fnOf "__init__" q (eA p1 p2 p3 kk) (eB q1 q2 q3 q4) eS (.ref T0) kV doc pm an cdv ct), osl⟩) (hcd : codeIn K cdv q = true) (lT : K.lookup T0 = some oT) (eT : oT.data = .seq #[.none] n)
    (hno : findIn K (.ref C) "value" = some none) {x t0 : Addr} {v : Value} {us : List Value} {kw : List (Str × Value)} (gv : Given v us kw) (X : K.In s.heap) (hlim : s.heap.NoLimit) (hx : s.heap.get? x = some (excO C t0)) (hroom : A.depth < recursionLimit)
    (hq : ∀ h' tk dx, (∀ b o, b ≠ x → s.heap.get? b = some o → h'.get? b = some o) → s.heap.objs.size ≤ dx → dx ≠ x →
      h'.get? x = some { cls := .ref C, dict := some dx, data := .fields #[.ref t0, .none, .none, .none, .bool false, .none] } → h'.Ns1 dx (fun y => if y = "value" then some v else none) → R (.ok (.ret .none)) { s with heap := h', toks := tk }) :
    codeAny (model prog w) A (.call (.ref f) ⟨.ref x :: us, kw⟩) R s := by
  obtain ⟨nm, qq, N, bs, bm, sn, sub, ab, col, dd, k0, k1, k2, k3, k5, hC, hbm⟩ := T.cls
  have hcl : clsIn K C = some { name := nm, bases := bs, mro := .ref C :: bm, ns := N, qualname := qq, hasDict := true, slotNames := sn, subclasses := sub, abstract := ab, collection := col, hasDel := false } := by
    unfold clsIn
    rw [hC] <;> rfl
  refine Att.call_fn (binds := [("self", .ref x), ("value", v)]) X hlim ho hcd hroom (binds_given X lT eT gv) (by first | rfl | decide | with_unfolding_all rfl) (fun s₁ IC => ?_) rfl rfl rfl
  obtain ⟨h₁, tk₁, rfl⟩ := IC.toInCall.same
  have keep : ∀ b o, s.heap.get? b = some o → h₁.get? b = some o := IC.toInCall.keep
  have hn := IC.toInCall.ns
  have hne : s.heap.objs.size ≠ x := Nat.ne_of_gt (Heap.lt_size hx)
  have X₁ : K.In h₁ := X.keeps keep
  have hx₁ := keep _ _ hx
  show wpAny _ _ (execs _ _) _ _ _
  refine wpAny_execs_cons (plainObj_wpAny_Assign_Attribute ?_)
  refine load_local (v := v) hn (by first | rfl | with_unfolding_all rfl | kernel_rfl) (load_local (v := .ref x) hn (by first | rfl | with_unfolding_all rfl | kernel_rfl) ?_)
  refine set_plain X₁ (ox := excO C t0) (od := none) ⟨hx₁, rfl, rfl, trivial⟩ T.sa ?_
  refine exc_osa X₁ hx₁ hcl (show refsVE (.ref C :: bm) = true from hbm) rfl hno (fun h₃ tk₃ dx k₃ dn dne hx₃ hn₃ => ?_)
  show wpAny _ _ (execs _ _) _ _ _
  have lt : s.heap.objs.size < h₁.objs.size := hn.lt
  exact wpAny_execs_nil (hq h₃ tk₃ dx (fun b o hb e => k₃ b o hb (keep b o e)) (Nat.le_of_lt (Nat.lt_of_lt_of_le lt dn)) dne hx₃ hn₃)
/-- an error's class is called -/
theorem made_run (T : ErrC K C) (TI : ErrI K C) {v : Value} {us : List Value} {kw : List (Str × Value)} (gv : Given v us kw) (X : K.In s.heap) (hlim : s.heap.NoLimit) (hroom : A.depth + 1 < recursionLimit)
    (hq : ∀ h' tk e d, Made s.heap h' e C d v → R (.ok (.ret (.ref e))) { s with heap := h', toks := tk }) :
    codeAny (model prog w) A (.call (.ref C) ⟨us, kw⟩) R s := by
  obtain ⟨nm, qq, N, bs, bm, sn, sub, ab, col, dd, k0, k1, k2, k3, k5, hC, hbm⟩ := T.cls
  obtain ⟨f, q, oc, od, T0, oT, n, kV, doc, pm, an, cdv, ct, osl, p1, p2, p3, q1, q2, q3, q4, kk, iC, tf, ho, hcd, lT, eT⟩ := TI.fn
  obtain ⟨hp, g, dr, tk, os⟩ := s
  have fin : ∀ (xs : List Value) (A' : Around), A'.depth < recursionLimit →
      codeAny (model prog w) A' (.call (.ref f) ⟨.ref (hp.objs.size + 1) :: us, kw⟩) (W.InitBack (hp.objs.size + 1) R) ⟨(hp.push (W.kdv_tup xs)).push (excO C hp.objs.size), g, dr, tk, os⟩ := by
    intro xs A' hA
    have keep : ∀ b o, hp.get? b = some o → ((hp.push (W.kdv_tup xs)).push (excO C hp.objs.size)).get? b = some o := fun b o e =>
      Heap.get?_push_of_some _ (Heap.get?_push_of_some _ e)
    have new : ((hp.push (W.kdv_tup xs)).push (excO C hp.objs.size)).get? (hp.objs.size + 1) = some (excO C hp.objs.size) := by heap_get
    refine init_run (s := ⟨(hp.push (W.kdv_tup xs)).push (excO C hp.objs.size), g, dr, tk, os⟩) T ho hcd lT eT TI.no gv (X.keeps keep) (hlim.keeps keep) new hA fun h' tk' dx k' dn dne hx hns => ?_
    have big : hp.objs.size + 1 + 1 ≤ dx := by
      have z := dn
      first
        | exact z
        | (rw [Heap.size_push, Heap.size_push] at z; exact z)
    have old : ∀ b o, hp.get? b = some o → h'.get? b = some o := fun b o e => k' b o (Nat.ne_of_lt (Nat.lt_succ_of_lt (Heap.lt_size e))) (keep b o e)
    have none_of : ∀ b, hp.objs.size ≤ b → hp.get? b = none := fun b hb => by
      cases e : hp.get? b with
      | none => rfl
      | some o => exact absurd (Heap.lt_size e) (Nat.not_lt.mpr hb)
    exact ⟨rfl, hq h' tk' (hp.objs.size + 1) dx ⟨old, none_of _ (Nat.le_succ _), none_of _ (by omega), dne, ⟨_, hx⟩, hns⟩⟩
  have hi := looks_findIn (M := model prog w) X iC
  have hb : ∀ self, W.Looks (model prog w) hp (bindSpecial (.ref f) self) (.ref f, [self]) := fun self => bind_fn X self tf
  cases gv with
  | place =>
    refine HandSPX.call_own F.excBase_ValueError (fun X => refsVE_contains X bm hbm) (X _ _ hC) hi hb (by rw [sizeLine_eq]; exact (by decide : 1 ≤ 16777216)) ?_
    exact fin [v] _ (by show A.depth + 1 < recursionLimit; exact hroom)
  | name =>
    refine call_kw F.excBase_ValueError (fun X => refsVE_contains X bm hbm) (X _ _ hC) hi hb ?_
    exact fin [] _ (by show A.depth + 1 < recursionLimit; exact hroom)
  | none h =>
    refine HandSPX.call_own F.excBase_ValueError (fun X => refsVE_contains X bm hbm) (X _ _ hC) hi hb (Nat.zero_le _) ?_
    exact fin [] _ (by show A.depth + 1 < recursionLimit; exact hroom)
end
end EldX
end PySem

set_option Elab.async false
set_option linter.all false
set_option maxRecDepth 100000
set_option maxHeartbeats 4000000
/-! ## errors as tracked values -/
namespace L2
namespace Eld
open PySem PySem.Spec PyProof.Rows PySem.EldX
section
variable {X : Cx} {pins : List (Addr × Obj)} {σ : St} {H : Hp} {s : Shared} {h' : Heap} {d e : Addr} {od oe : HO}
theorem un_two {fs ex : List Addr} {h : Heap} (k : ∀ b u, h.get? b = some u → h'.get? b = some u) (gd : h.get? d = none) (ge : h.get? e = none) (nd : H d = none) (ne : H e = none) :
    Un fs ex H (upd (upd H d od) e oe) h h' where
  keep := fun b u q _ _ _ => k b u q
  slot := fun b u q _ _ _ => ⟨u.slots, k b u q⟩
  free := fun b u q n _ => by
    rw [upd_ne (fun z => by rw [z, ge] at q; cases q), upd_ne (fun z => by rw [z, gd] at q; cases q)]
    exact n
  there := fun b u q _ => ⟨u, k b u q⟩
  tups := fun b xs q => by
    rw [upd_ne (ne_of_none q ne), upd_ne (ne_of_none q nd)]
    exact q
  frzs := fun b u xs q => by
    rw [upd_ne (ne_of_none q ne), upd_ne (ne_of_none q nd)]
    exact q
  tbls := fun b ps q => ⟨#[], by rw [upd_ne (ne_of_none q ne), upd_ne (ne_of_none q nd), q]; simp⟩
theorem inv_two {t' : Nat} (I : Inv X pins σ H s) (k : ∀ b u, s.heap.get? b = some u → h'.get? b = some u) (gd : s.heap.get? d = none) (ge : s.heap.get? e = none)
    (od_ok : ObjOk X.prog X.w (upd (upd H d od) e oe) h' d od) (oe_ok : ObjOk X.prog X.w (upd (upd H d od) e oe) h' e oe) :
    Inv X pins σ (upd (upd H d od) e oe) { s with heap := h', toks := t' } := by
  have nd := I.hok.gone gd
  have ne := I.hok.gone ge
  refine I.un (un_two k gd ge nd ne) fun b u q => ?_
  by_cases hb : b = e
  · subst hb
    rw [upd_same] at q
    cases q
    exact oe_ok
  · rw [upd_ne hb] at q
    by_cases hd : b = d
    · subst hd
      rw [upd_same] at q
      cases q
      exact od_ok
    · rw [upd_ne hd] at q
      exact (I.hok b u q).stay (fun c v _ z => k c v z) (fun c z => by rw [upd_ne (ne_of_none z ne), upd_ne (ne_of_none z nd)]; exact z)
        fun c xs z => by rw [upd_ne (ne_of_none z ne), upd_ne (ne_of_none z nd)]; exact z
end
/-- the field's dict -/
abbrev fld (v : V) : List (Str × V) := [(("value" : Str), v)]
/-- the heap with a new error of the class at C, its dict at d -/
def mkErr (H : Hp) (C e d : Addr) (v : V) : Hp := upd (upd H d (exd d (fld v))) e (exo e C (some d))
/-- what is asked of the making of C(v) -/
def rErr (C : Addr) (v : V) (H : Hp) (Q : VK) : Prop := ∀ e d : Addr, H e = none → H d = none → d ≠ e → Q (.ref e) (mkErr H C e d v)
section
variable {X : Cx} {pins : List (Addr × Obj)} {σ : St} {H : Hp} {s : Shared} {C : Addr}
theorem err_end {Q : VK} {e d : Addr} {h' : Heap} {tk : Nat} {v : V} {u : Value} (I : Inv X pins σ H s) (rv : RelV v u) (M : Made s.heap h' e C d u) (q : rErr C v H Q) :
    EP X pins σ Q (.ref e) { s with heap := h', toks := tk } := by
  obtain ⟨t, ho⟩ := M.obj
  have ne := I.hok.gone M.new
  have nd := I.hok.gone M.dnew
  exact ⟨.ref e, mkErr H C e d v, inv_two I M.keep M.dnew M.new (exd_ok M.ns (relO_put (fs := []) rv fun g => True.intro)) (exo_ok ho), rfl, q e d ne nd M.ne⟩
variable {x : Str} {a : Expr} {ta : TA} {p pos : Pos} {k : Nat}
/-- C(e) -/
theorem pe_err1 (T : ErrC X.K C) (TI : ErrI X.K C) (hr : Room k X.A) (hm : X.mg x = some (.ref C)) (ha : PA X [a] ta) (hg : Gl X x := by rfl)
    (hdb : (x == ("__debug__" : Str)) = false := by decide) (he : starEach (a :: []) X.env = (false, eval a X.env) :: starEach [] X.env := by rfl) (hpl : (backTo pos (starEach [] X.env)).any (·.1) = false := by rfl) :
    PE X (.Call (.Name x p) [a] [] pos) (fun σ H Q => ta σ H fun vs H1 => ∃ v, vs = [v] ∧ rErr C v H1 Q) := by
  refine ⟨fun pins s σ H Q I h => ?_⟩
  refine wpAny_Call_Name_kw (ld_glob I hg hm ?_ hdb)
  refine PySem.W.callWith_K (h₀ := X.base) I.ok.mod.kin T.kp (thn (ha.run pos pins s σ H _ I h) fun us s1 ⟨vs, H1, I1, r1, v, ev, q1⟩ => ⟨I1.kIn, ?_⟩) he hpl
  subst ev
  cases r1 with
  | cons rv rn =>
    cases rn
    show wpAny _ _ (call (.ref C) [_]) _ _ _
    exact wpAny_call (made_run T TI .place I1.kIn I1.nolimit (by have := hr.dp; omega) fun h' tk e d M => err_end I1 rv M q1)
/-- C() -/
theorem pe_err0 (T : ErrC X.K C) (TI : ErrI X.K C) (hr : Room k X.A) (hm : X.mg x = some (.ref C)) (hg : Gl X x := by rfl) (hdb : (x == ("__debug__" : Str)) = false := by decide) :
    PE X (.Call (.Name x p) [] [] pos) (fun σ H Q => rErr C .non H Q) := by
  refine ⟨fun pins s σ H Q I h => ?_⟩
  refine wpAny_Call_Name_kw (ld_glob I hg hm ?_ hdb)
  refine PySem.W.callWith_K0 I.kIn T.kp ?_
  show wpAny _ _ (call (.ref C) []) _ _ _
  exact wpAny_call (made_run T TI (.none rfl) I.kIn I.nolimit (by have := hr.dp; omega) fun h' tk e d M => err_end (v := .non) I rfl M h)
/-- C(value = e) -/
theorem pe_errK {kws : List Keyword} {tk : TA} (T : ErrC X.K C) (TI : ErrI X.K C) (hr : Room k X.A) (hm : X.mg x = some (.ref C)) (hkw : PK X kws tk) (hg : Gl X x := by rfl)
    (hall : (backToKw pos (keywordEach kws X.env)).all (·.1.isSome) = true := by rfl) (hks : (backToKw pos (keywordEach kws X.env)).filterMap (·.1) = [("value" : Str)] := by rfl)
    (hdb : (x == ("__debug__" : Str)) = false := by decide)
    (hpl : ((backTo pos (starEach [] X.env)).any (·.1) || (backToKw pos (keywordEach kws X.env)).any (·.1.isNone)) = false := by rfl) :
    PE X (.Call (.Name x p) [] kws pos) (fun σ H Q => tk σ H fun vs H1 => ∃ v, vs = [v] ∧ rErr C v H1 Q) := by
  refine ⟨fun pins s σ H Q I h => ?_⟩
  refine wpAny_Call_Name_kw (ld_glob I hg hm ?_ hdb)
  refine PySem.W.callWith_KW0 (h₀ := X.base) I.ok.mod.kin T.kp hall (thn (hkw.run pos pins s σ H _ I h) fun us s1 ⟨vs, H1, I1, r1, v, ev, q1⟩ => ⟨I1.kIn, ?_⟩) hpl
  subst ev
  rw [hks]
  cases r1 with
  | cons rv rn =>
    cases rn
    show wpAny _ _ (call (.ref C) [] [(("value" : Str), _)]) _ _ _
    exact wpAny_call (made_run T TI .name I1.kIn I1.nolimit (by have := hr.dp; omega) fun h' tk e d M => err_end I1 rv M q1)
/-- C() where C has no __init__ of its own -/
theorem pe_errN {bmB : List Value} {B newId initId : String} (F : ExcBaseFacts B newId initId bmB) (q : PySem.W.excIn X.K C bmB newId = true) (kp : PySem.W.keepIn X.K (.ref C) = true) (hm : X.mg x = some (.ref C)) (hg : Gl X x := by rfl)
    (hdb : (x == ("__debug__" : Str)) = false := by decide) :
    PE X (.Call (.Name x p) [] [] pos) (fun σ H Q => ∀ e : Addr, H e = none → Q (.ref e) (upd H e (exo e C none))) := by
  refine ⟨fun pins s σ H Q I h => ?_⟩
  refine wpAny_Call_Name_kw (ld_glob I hg hm ?_ hdb)
  refine PySem.W.callWith_K0 I.kIn kp ?_
  show wpAny _ _ (call (.ref C) []) _ _ _
  obtain ⟨bm, N, nm, qn, bs, hdct, sn, sub, ab, col, dd, k0, k1, k2, k3, k5, mN, hC, hN, hni, T⟩ := exc_obj I.kIn q
  refine wpAny_call_exc_subT F T hC hN hni (fun h' e M => ?_) (Nat.zero_le _)
  have ne := I.hok.gone M.new
  obtain ⟨t, ht, _, _⟩ := M.there
  exact ⟨.ref e, upd H e (exo e C none), I.laidN M.keeps M.new ne (exo_ok ht), rfl, h e ne⟩
/-- err.value -/
theorem pe_value {te : TE} {n : Str} (en : n = "value" := by rfl) (he : PE X a te) (hb : attributeBase a n X.env (eval a X.env) = eval a X.env := by rfl) :
    PE X (.Attribute a n pos) (fun σ H Q => te σ H fun x H1 => ∃ (e C d : Addr) (v : V), x = .ref e ∧ ErrC X.K C ∧ ErrI X.K C ∧ H1 e = some (exo e C (some d)) ∧ H1 d = some (exd d (fld v)) ∧ Q v H1) := by
  refine ⟨fun pins s σ H Q I h => ?_⟩
  refine attr_of hb (thn (he.run pins s σ H _ I h) fun u s1 ⟨x, H1, I1, rx, e, C, d, v, ex, T, TI, ee, ed, q⟩ => ?_)
  subst ex
  obtain rfl : u = Value.ref e := rx
  obtain ⟨t1, ho⟩ := exo_at I1.hok ee
  obtain ⟨mA, hns, hr⟩ := exd_at I1.hok ed
  obtain ⟨od, hod, hl⟩ := lookIn_ns hns
  obtain ⟨u, hu, ru⟩ := RelO.some_of (v := v) (o := mA n) (by
    have z := hr n
    rw [en] at z ⊢
    exact z)
  have J : PySem.W.InstAt s1.heap e { cls := .ref C, dict := some d, data := .fields #[.ref t1, .none, .none, .none, .bool false, .none] } C (some od) := ⟨ho, rfl, rfl, hod⟩
  refine HandSPX.exc_get I1.kIn J T.ga T.gg T.ex (PySem.W.findObj_own T.hd (by rw [en]; exact TI.no) rfl (by rw [hl, hu])) (handed_of ru) ⟨v, H1, I1.tok _, ru, q⟩
end
end Eld
end L2

set_option Elab.async false
set_option linter.all false
set_option maxRecDepth 100000
set_option maxHeartbeats 4000000
namespace PySem
namespace EldX
open PySem PySem.Spec PySem.W PySem.Calls PyProof.Rows
section
variable {prog : Program} {w : World} {A : Around} {E : Value → Shared → Prop} {s : Shared} {K : Frag} {x D : Addr} {ox : Obj} {od : Option Obj}
theorem find_data {C : Addr} {n : Str} {a g : Value} (hc : (clsIn K C).isSome = true) (ha : findIn K (.ref C) n = some (some a)) (hg : specialIn K a "__get__" = some (some g)) (ht : takesIn K a = some true) :
    findObj K C od n = some (.bind g a) := by
  obtain ⟨cd, e⟩ := Option.isSome_iff_exists.mp hc
  unfold findObj
  rw [e, Option.bind_some, ha]
  rw [Option.bind_some]
  simp [hg, ht]
/-- an error's __class__ -/
theorem err_class {Q : Option Value → Shared → Prop} (T : ErrC K D) (hn : specialIn K (.builtin "object.__class__") "__get__" = some (some (.builtin "getset_descriptor.__get__"))) (htk : takesIn K (.builtin "object.__class__") = some true)
    (X : K.In s.heap) (I : InstAt s.heap x ox D od) (h : Q (some (.ref D)) { s with toks := s.toks + 1 }) : wpAny (model prog w) A (getAttr? (.ref x) "__class__") Q E s := by
  have hf : findObj K D od "__class__" = some (.bind (.builtin "getset_descriptor.__get__") (.builtin "object.__class__")) := by
    refine find_data ?_ T.ha hn htk
    obtain ⟨cd, hc, _⟩ := any_some T.hd
    rw [hc] <;> rfl
  obtain ⟨hp, g, d, t, os⟩ := s
  have l0 := I.type (M := model prog w)
  have l1 := looks_findIn (M := model prog w) X T.ga
  have l2 := looks_findIn (M := model prog w) X T.gg
  have l3 := looks_find (M := model prog w) X I hf
  have sub : Looks (model prog w) hp (isInstance (.ref x) (.type "BaseException")) true := l0.andThen (looks_subIn X T.ex)
  have n0 : (false && onTheHeap (Value.builtin "BaseException.__getattribute__")) = false := rfl
  have n2 : (Value.builtin "BaseException.__getattribute__" == Value.builtin "object.__getattribute__") = false := by decide +kernel
  have n1 : (onTheHeap (Value.ref D) && Value.builtin "BaseException.__getattribute__" == Value.builtin "object.__getattribute__") = false := by
    rw [n2]
    rfl
  unfold getAttr? getAttrBy? getAttrBy
  refine wpAny_bind (wpAny_mkText (wpAny_bind (wpAny_attempt (wpAny_holding (wpAny_bind (l0.at (wpAny_bind (l1.at ?_))))))))
  show wpAny _ _ (if (onTheHeap (Value.ref D) && Value.builtin "BaseException.__getattribute__" == Value.builtin "object.__getattribute__") = true then _ else _) _ _ _
  rw [n1, if_neg Bool.false_ne_true]
  unfold getAttrByItsOwn hookBefore
  refine wpAny_bind ?_
  rw [if_pos (show onTheHeap (Value.ref D) = true from rfl)]
  refine l2.at ?_
  refine wpAny_bind (wpAny_attempt (wpAny_holding ?_))
  unfold callGetattribute
  rw [n0, if_neg Bool.false_ne_true]
  unfold boundAndCalled
  rw [PySem.F.excAttr_ValueError.ga.bind (.ref x)]
  refine wpAny_bind (wpAny_pure ?_)
  show wpAny _ _ (call (.builtin "BaseException.__getattribute__") [.ref x, .str "__class__" t]) _ _ _
  refine wpAny_call (codeAny_call_builtin PySem.F.excAttr_ValueError.ga.plain PySem.F.entry_bexc_ga ?_)
  refine @check_slot (model prog w) _ _ ⟨hp, g, d, t + 1, os⟩ "BaseException.__getattribute__" "BaseException" "__getattribute__" (.ref x) [.str "__class__" t] [] _
    (by decide +kernel) (by decide +kernel) sub (PySem.F.args_bexc_ga (.ref x) (.str "__class__" t)) ?_
  unfold Builtin.«object.__getattribute__»
  refine wpAny_bind (wpAny_of_eq (a := ((Value.ref x : Value), [Value.str "__class__" t]))
    (by first | rfl | (simp only [slotArgs]; rfl)) ?_)
  refine wpAny_bind (wpAny_pure (wpAny_bind (l0.at (wpAny_bind (l3.at ?_)))))
  show wpAny _ _ (holding [Value.builtin "object.__class__"] (call (.builtin "getset_descriptor.__get__") [.builtin "object.__class__", .ref x, .ref D]) >>= ret) _ _ _
  refine wpAny_bind (wpAny_holding (wpAny_call (class_get (s := ⟨hp, g, d, t + 1, os⟩) (ox := ox) (od := od) X I T.ob ?_)))
  refine wpAny_pure ?_
  show wpAny _ _ (handedOut (.ref D)) _ _ _
  rw [handedOut_of (v := .ref D) rfl]
  first
    | exact wpAny_pure (wpAny_pure h)
    | exact wpAny_pure h
    | exact wpAny_pure (wpAny_bind (wpAny_pure (wpAny_pure h)))
theorem err_kit (T : ErrC K D) (hn : specialIn K (.builtin "object.__class__") "__get__" = some (some (.builtin "getset_descriptor.__get__"))) (htk : takesIn K (.builtin "object.__class__") = some true) :
    KitX K (.ref x) (.ref D) (fun h => InstAt h x ox D od) where
  ty := fun _ _ _ I => I.type
  it := fun _ _ X _ => by
    obtain ⟨cd, hc, _⟩ := any_some T.hd
    unfold clsIn at hc
    split at hc
    · rename_i c' d' cd' sl' ho
      intro A' Q' E' s' k q
      unfold isType loadHead
      refine wpAny_bind (wpAny_loadPart (k _ _ (X _ _ ho)) ?_)
      exact wpAny_pure q
    · cases hc
  ne := fun h tp dd its n sl X htp => by
    obtain ⟨cd, hc, _⟩ := any_some T.hd
    refine Bool.eq_false_iff.mpr fun q => ?_
    have e : D = tp := Value.ref.inj (beq_iff_eq.mp q)
    subst e
    unfold clsIn at hc
    split at hc
    · rename_i c' d' cd' sl' ho
      cases (X _ _ ho).symm.trans htp
    · cases hc
  ca := fun X I k => err_class T hn htk X I k
end
end EldX
end PySem
namespace L2
namespace Eld
open PySem PySem.Spec PyProof.Rows PySem.EldX
/-- the two words of the library that isinstance asks -/
structure KitW (K : PySem.W.Frag) : Prop where
  hn : PySem.W.specialIn K (.builtin "object.__class__") "__get__" = some (some (.builtin "getset_descriptor.__get__"))
  ht : PySem.W.takesIn K (.builtin "object.__class__") = some true
/-- an error at e of the class at C stands in H -/
def IsErr (H : Hp) (C e : Addr) : Prop := H e = some (exo e C none) ∨ ∃ (d : Addr) (v : V), H e = some (exo e C (some d)) ∧ H d = some (exd d (fld v))
/-- isinstance(err, D) -/
def rIsErr (K : PySem.W.Frag) : List V → Hp → VK → Prop := fun xs H Q => ∃ (e C D : Addr) (b : Bool), xs = [.ref e, .ref D] ∧ ErrC K C ∧ KitW K ∧ IsErr H C e ∧ PySem.W.kitOne K (.ref C) (.ref D) = some b ∧ Q (.bl b) H
/-- isinstance(err, T), T a built-in class -/
def rIsErrT (K : PySem.W.Frag) : List V → Hp → VK → Prop := fun xs H Q => ∃ (e C : Addr) (n : String) (b : Bool), xs = [.ref e, .ty n] ∧ ErrC K C ∧ KitW K ∧ IsErr H C e ∧ PySem.W.kitOne K (.ref C) (.type n) = some b ∧ Q (.bl b) H
section
variable {X : Cx}
theorem isErr_at {pins : List (Addr × Obj)} {σ : St} {H : Hp} {s : Shared} {C e : Addr} (I : Inv X pins σ H s) (h : IsErr H C e) : ∃ ox od, PySem.W.InstAt s.heap e ox C od := by
  rcases h with h | ⟨d, v, h, hd⟩
  · obtain ⟨t, ho⟩ := exo_at I.hok h
    exact ⟨_, none, ho, rfl, rfl, trivial⟩
  · obtain ⟨t, ho⟩ := exo_at I.hok h
    obtain ⟨mA, hns, _⟩ := exd_at I.hok hd
    obtain ⟨od, hod, _⟩ := lookIn_ns hns
    exact ⟨_, some od, ho, rfl, rfl, hod⟩
theorem call_isErr : CallR X (.builtin "isinstance") (rIsErr X.K) := by
  intro pins s σ H xs us Q I r h
  obtain ⟨e, C, D, b, rfl, T, W, he, k, q⟩ := h
  obtain ⟨u1, u2, rfl, r1, r2⟩ := vals2 r
  cases (show u1 = Value.ref e from r1)
  cases (show u2 = Value.ref D from r2)
  obtain ⟨ox, od, J⟩ := isErr_at I he
  exact PySem.W.kia_one (err_kit T W.hn W.ht) I.kIn J k (fun z => nomatch z) fun tk => ⟨.bl b, H, I.tok tk, rfl, q⟩
theorem call_isErrT : CallR X (.builtin "isinstance") (rIsErrT X.K) := by
  intro pins s σ H xs us Q I r h
  obtain ⟨e, C, n, b, rfl, T, W, he, k, q⟩ := h
  obtain ⟨u1, u2, rfl, r1, r2⟩ := vals2 r
  cases (show u1 = Value.ref e from r1)
  cases (show u2 = Value.type n from r2)
  obtain ⟨ox, od, J⟩ := isErr_at I he
  exact PySem.W.kia_one (err_kit T W.hn W.ht) I.kIn J k (fun z => nomatch z) fun tk => ⟨.bl b, H, I.tok tk, rfl, q⟩
end
end Eld
end L2

set_option Elab.async false
set_option linter.all false
set_option maxRecDepth 100000
set_option maxHeartbeats 4000000
/-! ## repr of data -/
namespace L2
namespace Eld
open PySem PySem.Spec PyProof.Rows PySem.EldX
mutual
/-- the value v, in H, is the datum d (dicts by texts, too) -/
inductive Dq (K : PySem.W.Frag) (H : Hp) : V → PyData → Prop
  | non : Dq K H .non .none
  | bl (b : Bool) : Dq K H (.bl b) (.bool b)
  | int (i : Int) : Dq K H (.int i) (.int i)
  | str (x : Str) : Dq K H (.str x) (.str x)
  | lst {a : Addr} {xs : List V} {ds : List PyData} : SqL K H a xs → DqAll K H xs ds → Dq K H (.ref a) (.list ds)
  | tup {a : Addr} {xs : List V} {ds : List PyData} : SqT K H a xs → DqAll K H xs ds → Dq K H (.ref a) (.tuple ds)
  | dct {a : Addr} {kvs : List (Key × V)} {ds : List (PyData × PyData)} : H a = some (.dK kvs) → DqKv K H kvs ds → Dq K H (.ref a) (.dict ds)
inductive DqAll (K : PySem.W.Frag) (H : Hp) : List V → List PyData → Prop
  | nil : DqAll K H [] []
  | cons {v : V} {vs : List V} {d : PyData} {ds : List PyData} : Dq K H v d → DqAll K H vs ds → DqAll K H (v :: vs) (d :: ds)
inductive DqKv (K : PySem.W.Frag) (H : Hp) : List (Key × V) → List (PyData × PyData) → Prop
  | nil : DqKv K H [] []
  | cons {x : Str} {v : V} {kvs : List (Key × V)} {d : PyData} {ds : List (PyData × PyData)} : Dq K H v d → DqKv K H kvs ds → DqKv K H ((.inr x, v) :: kvs) ((.str x, d) :: ds)
end
/-- what is known of a value that is read and shown -/
def Shw (P : Program) (w : World) (h : Heap) (u : Value) (d : PyData) : Prop :=
  (∃ as, Reads h u d as) ∧ ∃ bs, ReadAtMost h d.depth bs ∧ ReprK P w bs h d.depth u d.shown
def ShwAll (P : Program) (w : World) (h : Heap) (us : List Value) (ds : List PyData) : Prop :=
  (∃ as, ReadsAll h us ds as) ∧ ∃ bs, ReadAtMost h (PyData.depthAll ds) bs ∧ ReprAllK P w bs h (PyData.depthAll ds) us (PyData.shownAll ds)
theorem ShwAll.nil {P : Program} {w : World} {h : Heap} : ShwAll P w h [] [] :=
  ⟨⟨_, .nil⟩, [], (fun _ z => nomatch z), by simp only [PyData.shownAll]; exact .nil⟩
theorem ShwAll.cons {P : Program} {w : World} {h : Heap} {u : Value} {us : List Value} {d : PyData} {ds : List PyData} (a : Shw P w h u d) (b : ShwAll P w h us ds) : ShwAll P w h (u :: us) (d :: ds) := by
  obtain ⟨⟨as, r⟩, b1, hb1, k1⟩ := a
  obtain ⟨⟨bs, q⟩, b2, hb2, k2⟩ := b
  refine ⟨⟨_, .cons r q⟩, b1 ++ b2, fun b hm => ?_, ?_⟩
  · simp only [PyData.depthAll]
    rcases List.mem_append.mp hm with z | z
    · obtain ⟨d', a', r', l⟩ := hb1 b z
      exact ⟨d', a', r', Nat.le_trans l (Nat.le_max_left _ _)⟩
    · obtain ⟨d', a', r', l⟩ := hb2 b z
      exact ⟨d', a', r', Nat.le_trans l (Nat.le_max_right _ _)⟩
  · simp only [PyData.depthAll, PyData.shownAll]
    exact .cons ((k1.more fun b hb => List.mem_append_left _ hb).level_le (Nat.le_max_left _ _)) (k2.more_le (fun b hb => List.mem_append_right _ hb) (Nat.le_max_right _ _))
/-- a dict's entries -/
def ShwKv (P : Program) (w : World) (h : Heap) (es : List DictEntry) (ds : List (PyData × PyData)) : Prop :=
  ShwAll P w h (es.map (·.key)) (ds.map (·.1)) ∧ ShwAll P w h (es.map (·.val)) (ds.map (·.2))
section
variable {X : Cx} {pins : List (Addr × Obj)} {σ : St} {H : Hp} {s : Shared}
theorem shw_str {P : Program} {w : World} {h : Heap} (x : Str) (t : Tok) (hz : (reprText x).length ≤ sizeLine) : Shw P w h (.str x t) (.str x) :=
  ⟨⟨_, .str x t⟩, [], (fun _ z => nomatch z), by simp only [PyData.shown]; exact .of_is (ReprIs.str x t hz) _ _ _⟩
mutual
theorem Dq.shw (I : Inv X pins σ H s) : ∀ (d : PyData) (v : V) (u : Value), Dq X.K H v d → RelV v u → d.showable = true → d.shown.length ≤ sizeLine → Shw X.prog X.w s.heap u d
  | .none, _, _, h, r, _, _ => by
    cases h
    cases r
    exact ⟨⟨_, .none⟩, [], (fun _ z => nomatch z), by simp only [PyData.shown]; exact .of_is ReprIs.none _ _ _⟩
  | .bool b, _, _, h, r, _, _ => by
    cases h
    cases r
    exact ⟨⟨_, .bool b⟩, [], (fun _ z => nomatch z), by simp only [PyData.shown]; exact .of_is (ReprIs.bool b) _ _ _⟩
  | .int i, _, _, h, r, hs, _ => by
    cases h
    obtain ⟨t, rfl⟩ := r
    exact ⟨⟨_, .int i t⟩, [], (fun _ z => nomatch z), by simp only [PyData.shown]; exact .of_is (ReprIs.int t (by simpa [PyData.showable] using hs)) _ _ _⟩
  | .str x, _, _, h, r, _, hz => by
    cases h
    obtain ⟨t, rfl⟩ := r
    exact shw_str x t (by simpa only [PyData.shown] using hz)
  | .list ds, _, _, h, r, hs, hz => by
    cases h with
    | @lst a xs _ hS hA =>
      obtain rfl : _ = Value.ref a := r
      obtain ⟨its, rv, ⟨o, n, ho, hc, _, hd⟩, _⟩ := I.list hS
      have hz' : (listText (PyData.shownAll ds)).length ≤ sizeLine := by simpa only [PyData.shown] using hz
      obtain ⟨⟨as, q⟩, bs, hb, hk⟩ := Dq.shwAll I ds xs its hA rv (by simpa [PyData.showable] using hs) (fun t ht => Nat.le_trans (listText_mem_le ht) hz')
      have rd : Reads s.heap (.ref a) (.list ds) (a :: as) := .list ho hc hd q
      have hna : a ∉ bs := not_mem_of_deeper rd (by simp only [PyData.depth]; omega) hb
      refine ⟨⟨_, rd⟩, a :: bs, ReadAtMost.cons rd (by simp only [PyData.depth]; omega) hb, ?_⟩
      simp only [PyData.depth, PyData.shown]
      cases its with
      | nil =>
        cases q
        simp only [PyData.shownAll, listText_nil]
        exact ReprK.listEmpty ho hc hd
      | cons y l => exact ReprK.list ho hc hd hna (by simpa using hk.length_eq) (fun i y e => hk.item i y (by simpa using e))
  | .tuple ds, _, _, h, r, hs, hz => by
    cases h with
    | @tup a xs _ hS hA =>
      obtain rfl : _ = Value.ref a := r
      obtain ⟨its, rv, ⟨o, ho, hc, n, hd⟩, _⟩ := I.tuple hS
      have hz' : (tupleText (PyData.shownAll ds)).length ≤ sizeLine := by simpa only [PyData.shown] using hz
      obtain ⟨⟨as, q⟩, bs, hb, hk⟩ := Dq.shwAll I ds xs its hA rv (by simpa [PyData.showable] using hs) (fun t ht => Nat.le_trans (tupleText_mem_le ht) hz')
      have rd : Reads s.heap (.ref a) (.tuple ds) as := .tuple ho hc hd q
      have hna : a ∉ bs := not_mem_of_deeper rd (by simp only [PyData.depth]; omega) hb
      refine ⟨⟨_, rd⟩, a :: bs, ReadAtMost.cons rd (by simp only [PyData.depth]; omega) hb, ?_⟩
      simp only [PyData.depth, PyData.shown]
      exact ReprK.tuple ho hc hd hna hk
  | .dict ds, _, _, h, r, hs, hz => by
    cases h with
    | @dct a kvs _ ha hA =>
      obtain rfl : _ = Value.ref a := r
      obtain ⟨_, hsys, vs, rv, o, es, ep, ho, hx, hd, _, hp, _⟩ := (show ObjOk X.prog X.w H s.heap a (.dK kvs) from I.hok a _ ha)
      have hz' : (dictText (PyData.shownKv ds)).length ≤ sizeLine := by simpa only [PyData.shown] using hz
      obtain ⟨s1, s2⟩ := PyData.showableKv_split ds (by simpa [PyData.showable] using hs)
      have hK : ∀ t ∈ PyData.shownAll (ds.map (·.1)), t.length ≤ sizeLine := fun t ht =>
        let ⟨p, hp, hl⟩ := PyData.shownKv_key_le ds t ht
        Nat.le_trans hl (Nat.le_trans (dictText_mem_le hp) hz')
      have hV : ∀ t ∈ PyData.shownAll (ds.map (·.2)), t.length ≤ sizeLine := fun t ht =>
        let ⟨p, hp, hl⟩ := PyData.shownKv_val_le ds t ht
        Nat.le_trans hl (Nat.le_trans (dictText_mem_le hp) hz')
      obtain ⟨⟨⟨as, q1⟩, b1, hb1, k1⟩, ⟨bs, q2⟩, b2, hb2, k2⟩ := Dq.shwKv I ds kvs vs es.toList hA rv hp s2 hK hV
      have rd : Reads s.heap (.ref a) (.dict ds) (a :: as ++ bs) := .dict ho hx.1 hd q1 q2
      have hb : ReadAtMost s.heap (PyData.depthKv ds) (b1 ++ b2) := (hb1.mono (PyData.depthAll_keys_le ds)).append (hb2.mono (PyData.depthAll_vals_le ds))
      have hna : a ∉ b1 ++ b2 := not_mem_of_deeper rd (by simp only [PyData.depth]; omega) hb
      refine ⟨⟨_, rd⟩, a :: (b1 ++ b2), ReadAtMost.cons rd (by simp only [PyData.depth]; omega) hb, ?_⟩
      simp only [PyData.depth, PyData.shown, PyData.shownKv_eq]
      exact ReprK.dict ho hx.1 hd hsys hna (ReprEntriesK.of_two es.toList _ _
        (k1.more_le (fun b hb => List.mem_append_left _ hb) (PyData.depthAll_keys_le ds))
        (k2.more_le (fun b hb => List.mem_append_right _ hb) (PyData.depthAll_vals_le ds)))
theorem Dq.shwAll (I : Inv X pins σ H s) : ∀ (ds : List PyData) (vs : List V) (us : List Value), DqAll X.K H vs ds → Vals vs us → PyData.showableAll ds = true → (∀ t ∈ PyData.shownAll ds, t.length ≤ sizeLine) → ShwAll X.prog X.w s.heap us ds
  | [], _, _, h, r, _, _ => by
    cases h
    cases r
    exact ShwAll.nil
  | d :: ds, _, _, h, r, hs, hz => by
    cases h with
    | cons h1 h2 =>
      cases r with
      | cons r1 r2 =>
        have hs' : d.showable = true ∧ PyData.showableAll ds = true := by simpa [PyData.showableAll] using hs
        have z1 : d.shown.length ≤ sizeLine := hz _ (by simp only [PyData.shownAll]; exact List.mem_cons_self ..)
        have z2 : ∀ t ∈ PyData.shownAll ds, t.length ≤ sizeLine := fun t ht => hz t (by simp only [PyData.shownAll]; exact List.mem_cons_of_mem _ ht)
        exact ShwAll.cons (Dq.shw I d _ _ h1 r1 hs'.1 z1) (Dq.shwAll I ds _ _ h2 r2 hs'.2 z2)
theorem Dq.shwKv (I : Inv X pins σ H s) : ∀ (ds : List (PyData × PyData)) (kvs : List (Key × V)) (ws : List (Key × Value)) (es : List DictEntry), DqKv X.K H kvs ds → KV kvs ws → Pairs (mixKind X.prog X.w) es ws →
    PyData.showableAll (ds.map (·.2)) = true → (∀ t ∈ PyData.shownAll (ds.map (·.1)), t.length ≤ sizeLine) → (∀ t ∈ PyData.shownAll (ds.map (·.2)), t.length ≤ sizeLine) → ShwKv X.prog X.w s.heap es ds
  | [], _, _, _, h, r, p, _, _, _ => by
    cases h
    cases r
    cases p
    exact ⟨ShwAll.nil, ShwAll.nil⟩
  | (k, d) :: ds, _, _, _, h, r, p, hs, hk, hv => by
    cases h with
    | @cons x v kvs _ _ h1 h2 =>
      cases r with
      | cons r1 r2 =>
        cases p with
        | cons p1 p2 p3 =>
          rename_i w ws e es
          obtain ⟨rk, rv⟩ := r1
          have hs' : d.showable = true ∧ PyData.showableAll (ds.map (·.2)) = true := by simpa [PyData.showableAll] using hs
          simp only [List.map_cons, PyData.shownAll] at hk hv
          have hk1 : (PyData.shown (.str x)).length ≤ sizeLine := hk _ (List.mem_cons_self ..)
          have hv1 : d.shown.length ≤ sizeLine := hv _ (List.mem_cons_self ..)
          obtain ⟨a, b⟩ := Dq.shwKv I ds kvs ws es h2 r2 p3 hs'.2 (fun t ht => hk t (List.mem_cons_of_mem _ ht)) (fun t ht => hv t (List.mem_cons_of_mem _ ht))
          have ek : ∃ t, e.key = Value.str x t := by
            have z : keyIs w.1 e.key = true := p1
            rw [← rk] at z
            rcases keyIs_shape z with ⟨i, t, q, _⟩ | ⟨y, t, q, q'⟩
            · cases q
            · cases q
              exact ⟨t, q'⟩
          obtain ⟨t, ek⟩ := ek
          have rv' : RelV v e.val := by
            rw [p2]
            exact rv
          refine ⟨?_, ?_⟩
          · simp only [List.map_cons, ek]
            exact ShwAll.cons (shw_str x t (by simpa only [PyData.shown] using hk1)) a
          · simp only [List.map_cons]
            exact ShwAll.cons (Dq.shw I d _ _ h1 rv' hs'.1 hv1) b
end
end
end Eld
end L2

set_option Elab.async false
set_option linter.all false
set_option maxRecDepth 100000
set_option maxHeartbeats 4000000
namespace L2
namespace Eld
open PySem PySem.Spec PyProof.Rows PySem.EldX
/-! ## repr(x) as a rule: where nothing is being shown -/
/-- what is asked: data, whose text is laid -/
def rRepr (K : PySem.W.Frag) : List V → Hp → VK → Prop := fun xs H Q => ∃ (x : V) (d : PyData), xs = [x] ∧ Dq K H x d ∧ d.showable = true ∧ d.shown.length ≤ sizeLine ∧ d.depth ≤ 100 ∧ Q (.str d.shown) H
section
variable {X : Cx}
theorem call_repr {k : Nat} (hg : X.A.guards = some []) (hr : Room k X.A) : CallR X (.builtin "repr") (rRepr X.K) := by
  intro pins s σ H xs us Q I r h
  obtain ⟨x, d, rfl, hd, hs, hz, hp, q⟩ := h
  obtain ⟨u, rfl, rx⟩ := vals1 r
  have hu : X.A.units + 1 < cLine := hu_of hr
  have hu2 : X.A.in1.units + d.depth < cLine := by
    have z := hr.un
    show X.A.units + 1 + d.depth < cLine
    omega
  have fin : ∀ {h' : Heap} {t : Tok} {tk : Nat}, (∀ b o, s.heap.get? b = some o → h'.get? b = some o) → EP X pins σ Q (.str d.shown t) { s with heap := h', toks := tk } :=
    fun {h' t tk} kp => ⟨.str d.shown, H, I.kept (t' := tk) kp, ⟨t, rfl⟩, q⟩
  cases hd with
  | non =>
    cases (show u = Value.none from rx)
    have e : PyData.none.shown = ("None" : Str) := by simp only [PyData.shown]
    rw [e] at fin
    exact PySem.P.repr_of_none (fin fun _ _ z => z)
  | bl b =>
    cases (show u = Value.bool b from rx)
    have e : (PyData.bool b).shown = ((if b then "True" else "False" : Str)) := by simp only [PyData.shown]
    rw [e] at fin
    exact PySem.P.repr_of_bool (fin fun _ _ z => z)
  | int i =>
    obtain ⟨t, rfl⟩ := (show ∃ t, u = Value.int i t from rx)
    have e : (PyData.int i).shown = toString i := by simp only [PyData.shown]
    rw [e] at fin
    exact PySem.P.repr_of_int (by simpa [PyData.showable] using hs) (fin fun _ _ z => z)
  | str y =>
    obtain ⟨t, rfl⟩ := (show ∃ t, u = Value.str y t from rx)
    have e : (PyData.str y).shown = reprText y := by simp only [PyData.shown]
    rw [e] at fin hz
    exact PySem.P.repr_of_str (fin fun _ _ z => z) hz
  | @lst a ys ds hS hA =>
    cases (show u = Value.ref a from rx)
    obtain ⟨its, rv, ⟨o, n, ho, hc, _, hd⟩, _⟩ := I.list hS
    have hz' : (listText (PyData.shownAll ds)).length ≤ sizeLine := by simpa only [PyData.shown] using hz
    obtain ⟨⟨as, q1⟩, bs, hb, hk⟩ := Dq.shwAll I ds ys its hA rv (by simpa [PyData.showable] using hs) (fun t ht => Nat.le_trans (listText_mem_le ht) hz')
    have rd : Reads s.heap (.ref a) (.list ds) (a :: as) := .list ho hc hd q1
    have hna : a ∉ bs := not_mem_of_deeper rd (by simp only [PyData.depth]; omega) hb
    have e : (PyData.list ds).shown = listText (PyData.shownAll ds) := by simp only [PyData.shown]
    rw [e] at fin
    simp only [PyData.depth] at hu2
    refine call_repr_slot hu ⟨o, ho, hc⟩ F.slot_list_repr.toG ?_
    cases its with
    | nil =>
      cases q1
      simp only [PyData.shownAll, listText_nil] at fin
      exact call_list_repr_empty ⟨o, ho, hc⟩ ho hd ⟨_, _, rfl, fin fun _ _ z => z⟩
    | cons y l =>
      exact call_list_reprK ho hc hd hna (by simpa using hk.length_eq) (fun i y e => hk.item i y (by simpa using e)) hg (fun b _ => Clear.nil b) hu2 (fun _ _ z => z)
        (fun h' u tk kp => ⟨_, _, rfl, fin kp⟩) hz'
  | @tup a ys ds hS hA =>
    cases (show u = Value.ref a from rx)
    obtain ⟨its, rv, ⟨o, ho, hc, n, hd⟩, _⟩ := I.tuple hS
    have hz' : (tupleText (PyData.shownAll ds)).length ≤ sizeLine := by simpa only [PyData.shown] using hz
    obtain ⟨⟨as, q1⟩, bs, hb, hk⟩ := Dq.shwAll I ds ys its hA rv (by simpa [PyData.showable] using hs) (fun t ht => Nat.le_trans (tupleText_mem_le ht) hz')
    have rd : Reads s.heap (.ref a) (.tuple ds) as := .tuple ho hc hd q1
    have hna : a ∉ bs := not_mem_of_deeper rd (by simp only [PyData.depth]; omega) hb
    have e : (PyData.tuple ds).shown = tupleText (PyData.shownAll ds) := by simp only [PyData.shown]
    rw [e] at fin
    simp only [PyData.depth] at hu2
    refine call_repr_slot hu ⟨o, ho, hc⟩ F.slot_tuple_repr ?_
    exact call_tuple_reprK ho hc hd hna hk hg (fun b _ => Clear.nil b) hu2 (fun _ _ z => z) (fun h' u tk kp => ⟨_, _, rfl, fin kp⟩) hz'
  | @dct a kvs ds ha hA =>
    cases (show u = Value.ref a from rx)
    obtain ⟨_, hsys, vs, rv, o, es, ep, ho, hx, hd, _, hp', _⟩ := (show ObjOk X.prog X.w H s.heap a (.dK kvs) from I.hok a _ ha)
    have hz' : (dictText (PyData.shownKv ds)).length ≤ sizeLine := by simpa only [PyData.shown] using hz
    obtain ⟨s1, s2⟩ := PyData.showableKv_split ds (by simpa [PyData.showable] using hs)
    have hK : ∀ t ∈ PyData.shownAll (ds.map (·.1)), t.length ≤ sizeLine := fun t ht =>
      let ⟨p, hp, hl⟩ := PyData.shownKv_key_le ds t ht
      Nat.le_trans hl (Nat.le_trans (dictText_mem_le hp) hz')
    have hV : ∀ t ∈ PyData.shownAll (ds.map (·.2)), t.length ≤ sizeLine := fun t ht =>
      let ⟨p, hp, hl⟩ := PyData.shownKv_val_le ds t ht
      Nat.le_trans hl (Nat.le_trans (dictText_mem_le hp) hz')
    obtain ⟨⟨⟨as, q1⟩, b1, hb1, k1⟩, ⟨bs, q2⟩, b2, hb2, k2⟩ := Dq.shwKv I ds kvs vs es.toList hA rv hp' s2 hK hV
    have rd : Reads s.heap (.ref a) (.dict ds) (a :: as ++ bs) := .dict ho hx.1 hd q1 q2
    have hb : ReadAtMost s.heap (PyData.depthKv ds) (b1 ++ b2) := (hb1.mono (PyData.depthAll_keys_le ds)).append (hb2.mono (PyData.depthAll_vals_le ds))
    have hna : a ∉ b1 ++ b2 := not_mem_of_deeper rd (by simp only [PyData.depth]; omega) hb
    have e : (PyData.dict ds).shown = dictText (List.zipWith (fun k v : Str => k ++ ": " ++ v) (PyData.shownAll (ds.map (·.1))) (PyData.shownAll (ds.map (·.2)))) := by
      simp only [PyData.shown, PyData.shownKv_eq]
    rw [e] at fin
    simp only [PyData.depth] at hu2
    refine call_repr_slot hu ⟨o, ho, hx.1⟩ F.slot_dict_repr ?_
    exact call_dict_reprK ho hx.1 hd hsys hna (ReprEntriesK.of_two es.toList _ _
      (k1.more_le (fun b hb => List.mem_append_left _ hb) (PyData.depthAll_keys_le ds))
      (k2.more_le (fun b hb => List.mem_append_right _ hb) (PyData.depthAll_vals_le ds))) hg (fun b _ => Clear.nil b) hu2 (fun _ _ z => z)
      (fun h' u tk kp => ⟨_, _, rfl, fin kp⟩) (by rw [← PyData.shownKv_eq]; exact hz')
end
/-! ## promises of defs that are called where nothing is being shown -/
structure FnG (P : Program) (w : World) (K : PySem.W.Frag) (mg : Str → Option Value) (base : Heap) (CX : CXT) (k : Nat) (f : Addr) (fd : FuncData) (ps : List Str) (sp : Sp) : Prop where
  len : ∀ vs H Q E, sp vs H Q E → vs.length = ps.length
  run : ∀ (A : Around) (outer : List Env) (s : Shared) (H : Hp) (args : Args) (us : List Value) (vs : List V) (Q : VK) (E : XK), A.guards = some [] → Room k A →
    Env0 P w K mg base A outer s H → BindsTo s fd args (ps.zip us) → Vals vs us → sp vs H Q E → codeAny (model P w) A (.call (.ref f) args) (CR CX outer P w H s Q E) s
theorem FnG.of {P : Program} {w : World} {K : PySem.W.Frag} {mg : Str → Option Value} {base : Heap} {CX : CXT} {k : Nat} {f : Addr} {fd : FuncData} {ps : List Str} {sp : Sp} (F : FnOk P w K mg base CX k f fd ps sp) : FnG P w K mg base CX k f fd ps sp :=
  ⟨F.len, fun A outer s H args us vs Q E _ hr e b r h => F.run A outer s H args us vs Q E hr e b r h⟩
/-- a def by its body -/
theorem fnG_of {CX : CXT} {P : Program} {w : World} {K : PySem.W.Frag} {mg : Str → Option Value} {base : Heap} {k : Nat} {f : Addr} {name qual : Str} {params : Arguments} {body : List Stmt} {scope : Scope} {dV kV doc pm cdv ct oc : Value} {an od : Option Addr}
    {osl : Array (Option Value)} {N ps : List Str} {sp : Sp} (lk : K.lookup f = some ⟨oc, od, .func (PySem.W.fnOf name qual params body scope dV kV doc pm an cdv ct), osl⟩)
    (hcd : PySem.W.codeIn K cdv qual = true) (S : FnScope N ps scope) (len : ∀ vs H Q E, sp vs H Q E → vs.length = ps.length)
    (hbody : ∀ (A : Around) (outer : List Env) (s : Shared) (H : Hp) (vs : List V) (Q : VK) (E : XK), A.guards = some [] → Room k (A.deeper (envOfC qual scope s.heap.objs.size f cdv)) → sp vs H Q E →
      ∃ t, PSs (cxOf CX P w K mg base N qual scope f cdv A outer s H E) body t ∧ t { nx := fun _ H' => Q .non H', rt := Q } (start N vs) H) :
    FnG P w K mg base CX (k + 1) f (PySem.W.fnOf name qual params body scope dV kV doc pm an cdv ct) ps sp := by
  refine ⟨len, fun A outer s H args us vs Q E hG hr e0 hb r hsp => ?_⟩
  -- the promise «whatever is asked here»: of this one call, by the library's own rule
  let one : Sp := fun vs' H' Q' E' => vs' = vs ∧ H' = H ∧ Q' = Q ∧ E' = E ∧ sp vs H Q E
  have KX : K.In s.heap := e0.mod.kin.keeps fun b o e => (e0.bs b o e).1
  have lim : s.heap.NoLimit := e0.mod.nolimit.keeps fun b o e => (e0.bs b o e).1
  have hl := len _ _ _ _ hsp
  have hkind : ∀ y ∈ ps.zip us, scope.names.lookup y.1 = some .local ∨
      (scope.names.lookup y.1 = some .cell ∧ ((cellsFrom (s.heap.objs.size + 1) scope.names []).lookup y.1).isSome = true) := fun ⟨n, v⟩ hy => by
    rcases S.par n (List.of_mem_zip hy).1 with q | q
    · exact .inl q
    · exact .inr ⟨q, PySem.W.cellsFrom_some _ _ _ (.inl q)⟩
  refine codeAny_call_function hr.depth (KX _ _ lk) rfl S.co S.gen rfl (PySem.W.codeRec_of KX hcd)
    (hb _ _ _ _ ?_)
  refine wpAny_newFunctionEnv_cells S.kind hkind fun env he s1 x => ?_
  subst he
  refine ⟨lim.keeps x.toInCall.keep, codeAny_func ?_⟩
  obtain ⟨t, ht, hq⟩ := hbody A outer s H vs Q E hG (hr.deeper _) hsp
  have I := inv_start (CX := CX) (E := E) S hr.hd e0 hl r x
  refine wpAny_mono (ht.run [] s1 (start N vs) H _ I hq) (fun fl s' hs => ?_) fun e s' hs => hs
  cases fl with
  | ret u =>
    obtain ⟨v, σ', H', J, rv, q⟩ := hs
    exact ⟨v, H', J.os, J.bare, J.base, J.hok, rv, q⟩
  | next =>
    obtain ⟨σ', H', J, q⟩ := hs
    exact ⟨.non, H', J.os, J.bare, J.base, J.hok, rfl, q⟩
  | brk =>
    obtain ⟨_, _, _, q⟩ := hs
    exact q.elim
  | cont =>
    obtain ⟨_, _, _, q⟩ := hs
    exact q.elim
theorem FunG {P : Program} {w : World} {K : PySem.W.Frag} {mg : Str → Option Value} {base : Heap} {x qual : Str} {st : Stmt} {f : Addr} {fd : FuncData} {N ps : List Str} {k : Nat} {sp : Sp} (F : Fun K x qual st f fd) (S : FnScope N ps (defScope st))
    (len : ∀ vs H Q E, sp vs H Q E → vs.length = ps.length)
    (hbody : ∀ (cdv : Value) (A : Around) (outer : List Env) (s : Shared) (H : Hp) (vs : List V) (Q : VK) (E : XK), A.guards = some [] → Room k (A.deeper (envOfC qual (defScope st) s.heap.objs.size f cdv)) → sp vs H Q E →
      ∃ t, PSs (cxOf CX0 P w K mg base N qual (defScope st) f cdv A outer s H E).nox (defBody st) t ∧ t { nx := fun _ H' => Q .non H', rt := Q } (start N vs) H) : FnG P w K mg base CX0 (k + 1) f fd ps sp := by
  obtain ⟨oc, od, kV, doc, pm, an, cdv, ct, osl, rfl, lk, hcd⟩ := F.ex
  refine fnG_of lk hcd S len fun A outer s H vs Q E hG hr hsp => ?_
  obtain ⟨t, h, q⟩ := hbody cdv A outer s H vs Q E hG hr hsp
  exact ⟨t, h.nox, q⟩
section
variable {X : Cx} {CX : CXT} {k : Nat} {f : Addr} {fd : FuncData} {ps : List Str} {sp : Sp} {dvs : List V} {ds : List Value} {E : XK} {x : Str} {p pos : Pos} {e : Expr} {es : List Expr} {t : TA}
theorem run_fnG {pins : List (Addr × Obj)} {σ : St} {H : Hp} {s : Shared} {Q : VK} {us : List Value} {vs : List V} (F : FnG X.prog X.w X.K X.mg X.base CX k f fd ps sp) (hG : X.A.guards = some []) (hr : Room k X.A) (hb : Binds X.K fd ps ds) (hd : Vals dvs ds)
    (hx : Passes CX X E) (I : Inv X pins σ H s) (r : Vals vs us) (h : sp (vs ++ dvs) H Q E) : wpAny (model X.prog X.w) X.A (call (.ref f) us) (EP X pins σ Q) X.xe s := by
  have r2 : Vals (vs ++ dvs) (us ++ ds) := r.append hd
  have hl : (us ++ ds).length = ps.length := r2.length.symm.trans (F.len _ _ _ _ h)
  refine wpAny_call (codeAny_mono (F.run X.A X.stack s H ⟨us, []⟩ (us ++ ds) (vs ++ dvs) Q E hG hr I.env0 (hb s us I.kIn hl) r2 h) fun r s' hq => ?_)
  rcases r with e | fl
  · exact hx pins σ H s e s' I hq
  · cases fl <;> first | exact I.after hq | exact False.elim hq
theorem pe_callG (F : FnG X.prog X.w X.K X.mg X.base CX k f fd ps sp) (hG : X.A.guards = some []) (hr : Room k X.A) (hm : X.mg x = some (.ref f)) (hk : PySem.W.keepIn X.K (.ref f) = true) (hb : Binds X.K fd ps ds) (hd : Vals dvs ds) (hx : Passes CX X E)
    (ha : PA X (e :: es) t) (hg : Gl X x := by rfl) (hdb : (x == ("__debug__" : Str)) = false := by decide) (he : starEach (e :: es) X.env = (false, eval e X.env) :: starEach es X.env := by rfl) (hpl : (backTo pos (starEach es X.env)).any (·.1) = false := by rfl) :
    PE X (.Call (.Name x p) (e :: es) [] pos) (tCall sp dvs E t) := by
  refine ⟨fun pins s σ H Q I h => ?_⟩
  refine wpAny_Call_Name_kw (ld_glob I hg hm ?_ hdb)
  refine PySem.W.callWith_K (h₀ := X.base) I.ok.mod.kin hk (thn (ha.run pos pins s σ H _ I h) fun us s1 ⟨vs, H1, I1, r, q⟩ => ⟨I1.kIn, ?_⟩) he hpl
  exact run_fnG F hG hr hb hd hx I1 r q
end
/-! ## the law's own call -/
section
variable {P : Program} {w : World} {K : PySem.W.Frag} {mg mb : Str → Option Value} {CX : CXT} {k : Nat} {fa a : Addr} {fd : FuncData} {x : Str} {sp : Sp} {s₁ : Shared} {vs : List Value} {ns : List Int}
/-- from an abstract heap that tracks nothing but the script -/
theorem law_core (KX : K.In s₁.heap) (hns : s₁.heap.Ns mainGlobals mg) (hb : s₁.heap.Ns builtinsNs mb) (hbb : ∀ x : Str, x ≠ "__name__" → mb x = bootBuiltins x) (hlim : s₁.heap.NoLimit) (hg : s₁.gens = #[])
    (ha : s₁.heap.get? a = some { cls := .type "list", data := .seq vs.toArray }) (hr : Room k callerA)
    (F : ∀ base : Heap, K.In base → base.Ns mainGlobals mg → FnG P w K mg base CX k fa fd [x] sp) (hbind : ∀ (s : Shared) (u : Value), BindsTo s fd ⟨[u], []⟩ [(x, u)])
    (hCX : ∀ H e s', CX [] H s₁ (fun _ _ _ => False) e s' → False) (H : Hp) (hO : Only H) (hok : HOk P w H s₁.heap) (hA : ∀ b, H b ≠ none → b = a) (hK : H a ≠ none → K.lookup a = none)
    (hsp : sp [.ref a] H (fun v _ => v = .bl true) fun _ _ _ => False) :
    codeAny (model P w) callerA (.call (.ref fa) ⟨[.ref a], []⟩) (fun r s' => r = .ok (.ret (.bool true)) ∧ OldK s₁.heap s'.heap ∧ s'.os = s₁.os ∧ AllBare s'.gens) s₁ := by
  have there : ∀ {b : Addr} {o : Obj}, s₁.heap.get? b = some o → H b = none → (hidT s₁.heap H).get? b = some o := fun e n => hidT_get e n
  have free : ∀ {b : Addr} {o : Obj}, s₁.heap.get? b = some o → (b = a → False) → H b = none := fun {b o} e n => by
    cases q : H b with
    | none => rfl
    | some u => exact (n (hA b (by rw [q]; simp))).elim
  have ns_of : ∀ {b : Addr} {m : Str → Option Value}, s₁.heap.Ns b m → (hidT s₁.heap H).Ns b m := fun {b m} ⟨o, es, ep, e, d, r⟩ =>
    ⟨o, es, ep, there e (free e fun z => by
      subst z
      rw [ha] at e
      cases e
      cases (show Data.seq vs.toArray _ = Data.dict es ep from d)), d, r⟩
  have kin : K.In (hidT s₁.heap H) := fun b o e => there (KX b o e) (by
    cases q : H b with
    | none => rfl
    | some u =>
      obtain rfl := hA b (by rw [q]; simp)
      rw [hK (by rw [q]; simp)] at e
      cases e)
  have mod : Mod K mg (hidT s₁.heap H) :=
    ⟨kin, ns_of hns, ⟨mb, ns_of hb, hbb⟩, let ⟨mc, h1, h2⟩ := hlim; ⟨mc, ns_of h1, h2⟩⟩
  have env : Env0 P w K mg (hidT s₁.heap H) callerA [] s₁ H :=
    ⟨rfl, mod, fun b o e => of_hidT e, Nat.le_of_eq (hidT_size _ _), trivial, fun b hb => absurd (show b ∈ ([] : List Addr) from hb) (by simp), hok, .of_eq hg⟩
  refine codeAny_mono ((F _ kin (ns_of hns)).run callerA [] s₁ H ⟨[.ref a], []⟩ [.ref a] [.ref a] _ _ rfl hr env (hbind s₁ (.ref a)) (.cons rfl .nil) hsp) fun r s' h => ?_
  rcases r with e | fl
  · exact (hCX H e s' h).elim
  · cases fl with
    | next => exact False.elim h
    | brk => exact False.elim h
    | cont => exact False.elim h
    | ret u =>
      obtain ⟨v, H', os, bare, un, hok', r', q⟩ := h
      obtain rfl : v = .bl true := q
      obtain rfl : u = Value.bool true := r'
      refine ⟨rfl, OldK.of_keep fun b o e => ?_, os, bare⟩
      cases q : H b with
      | none => exact un.keep b o e q (by intro z; exact absurd (show b ∈ ([] : List Addr) from z) (by simp)) (by simp)
      | some u =>
        rcases hO b with z | ⟨ob, xs, z⟩
        · rw [q] at z
          cases z
        · obtain ⟨e1, _⟩ := hok b _ z
          obtain ⟨e2, _⟩ := hok' b _ (un.frzs b ob _ z)
          rw [e] at e1
          cases e1
          exact e2
theorem lawG_call (KX : K.In s₁.heap) (hns : s₁.heap.Ns mainGlobals mg) (hb : s₁.heap.Ns builtinsNs mb) (hbb : ∀ x : Str, x ≠ "__name__" → mb x = bootBuiltins x) (hlim : s₁.heap.NoLimit) (hg : s₁.gens = #[])
    (ha : s₁.heap.get? a = some { cls := .type "list", data := .seq vs.toArray }) (hi : IntsAre vs ns) (hl : ns.length ≤ sizeLine) (hr : Room k callerA)
    (F : ∀ base : Heap, K.In base → base.Ns mainGlobals mg → FnG P w K mg base CX k fa fd [x] sp) (hbind : ∀ (s : Shared) (u : Value), BindsTo s fd ⟨[u], []⟩ [(x, u)])
    (hsp : ∀ H : Hp, Only H → SqL K H a (ns.map V.int) → sp [.ref a] H (fun v _ => v = .bl true) fun _ _ _ => False) (hCX : ∀ H e s', CX [] H s₁ (fun _ _ _ => False) e s' → False) :
    codeAny (model P w) callerA (.call (.ref fa) ⟨[.ref a], []⟩) (fun r s' => r = .ok (.ret (.bool true)) ∧ OldK s₁.heap s'.heap ∧ s'.os = s₁.os ∧ AllBare s'.gens) s₁ := by
  have rv := vals_ints hi
  have len := hi.length
  cases hk : K.lookup a with
  | some o =>
    have e := KX a o hk
    rw [ha] at e
    cases e
    have hO : Only fun _ => none := fun _ => .inl rfl
    have hS : SqL K (fun _ => none) a (ns.map V.int) := .inr ⟨_, vs.toArray, _, hk, rfl, rfl, rfl, by rw [List.size_toArray, len]; exact hl, by simpa using rv⟩
    exact law_core KX hns hb hbb hlim hg ha hr F hbind hCX _ hO (fun b u z => by cases (show (none : Option HO) = some u from z)) (fun b z => absurd rfl z) (fun z => absurd rfl z) (hsp _ hO hS)
  | none =>
    let H : Hp := fun b => if b = a then some (.frz { cls := .type "list", data := .seq vs.toArray } (.lst (ns.map V.int))) else none
    have at_a : H a = some (.frz { cls := .type "list", data := .seq vs.toArray } (.lst (ns.map V.int))) := if_pos rfl
    have off : ∀ {b}, b ≠ a → H b = none := fun z => if_neg z
    have hO : Only H := fun b => by
      by_cases z : b = a
      · subst z
        exact .inr ⟨_, _, at_a⟩
      · exact .inl (off z)
    refine law_core KX hns hb hbb hlim hg ha hr F hbind hCX H hO (fun b u z => ?_) (fun b z => ?_) (fun _ => hk) (hsp H hO (.inl (.inr ⟨_, at_a⟩)))
    · by_cases hba : b = a
      · subst hba
        rw [at_a] at z
        cases z
        exact ⟨ha, by rw [List.length_map]; exact hl, vs, _, rv, ha⟩
      · rw [off hba] at z
        cases z
    · by_cases hba : b = a
      · exact hba
      · exact absurd (off hba) z
end
/-- the end of a law: k_head's goal from the promise of the law's def -/
theorem walkG {l : PySem.W.OpenLaw} {n k : Nat} {q : Program} {loose : List Str} {XP : (Str → Option Value) → Heap → Prop} {YP : World → Heap → Prop} {d : DefRec} {K : Params → PySem.W.Frag} {sp : World → Sp} {x : Str}
    (hn : l.most = some n) (hn2 : n ≤ sizeLine) (hdf : d.params.defaults = []) (hr : Room k callerA) (hY : ∀ (w : World) (h : Heap), YP w h → (K w.params).In h)
    (F : ∀ (w : World) (mg : Str → Option Value) (fa : Addr) (h : Heap), (K w.params).In h → h.Ns mainGlobals mg → mg d.name = some (.ref fa) →
      ∃ fd : FuncData, (∀ (s : Shared) (u : Value), BindsTo s fd ⟨[u], []⟩ [(x, u)]) ∧
        ∀ base : Heap, (K w.params).In base → base.Ns mainGlobals mg → FnG l.prog w (K w.params) mg base CX0 k fa fd [x] (sp w))
    (hsp : ∀ (w : World) (H : Hp) (a : Addr) (ns : List Int), ns.length ≤ n → Only H → SqL (K w.params) H a (ns.map V.int) → sp w [.ref a] H (fun v _ => v = .bl true) fun _ _ _ => False) :
    PySem.W.WalkO q loose XP YP l.row.toRowW d [] (fun f vs => PySem.call f vs) := by
  refine Att.attach_call hn hdf fun w s₀ s₁ mg mb fa o pm cd doc a vs ns G Y ho hd hcd hmg hobj hints hlen hg => ?_
  have KX := hY w _ Y
  obtain ⟨fd, hb, hF⟩ := F w mg fa _ KX G.T.g hmg
  exact lawG_call KX G.T.g G.T.b G.T.builtins G.T.nolimit hg hobj hints (Nat.le_trans hlen hn2) hr hF hb (fun H hO hS => hsp w H a ns hlen hO hS) fun _ _ _ h => h
end Eld
end L2

set_option Elab.async false
set_option linter.all false
set_option maxRecDepth 100000
set_option maxHeartbeats 4000000
/-! ## drawing numbers out of a purse -/
namespace L2
namespace Eld
open PySem PySem.Spec PyProof.Rows PySem.EldX
/-! ### numbers -/
theorem ediv_lt_self' {a b B : Int} (h0 : 0 ≤ a) (h1 : a < B) (hb : 1 ≤ b) : 0 ≤ a / b ∧ a / b < B := by
  refine ⟨Int.ediv_nonneg h0 (by omega), Int.lt_of_le_of_lt (Int.ediv_le_self b h0) h1⟩
theorem fmod_in {a b : Int} (hb : 0 < b) : 0 ≤ a.fmod b ∧ a.fmod b < b := by
  rw [Int.fmod_eq_emod_of_nonneg a (Int.le_of_lt hb)]
  exact ⟨Int.emod_nonneg a (by omega), Int.emod_lt_of_pos a hb⟩
theorem cutV_map {α : Type} (f : α → V) (xs : List α) (lo hi : Option Int) : cutV (xs.map f) lo hi = ((xs.drop (HT.sIx xs.length 0 lo)).take (HT.sIx xs.length xs.length hi - HT.sIx xs.length 0 lo)).map f := by
  unfold cutV
  rw [List.length_map, List.map_take, List.map_drop]
/-- i ** j of whole numbers, the left one below 2 ^ 400 -/
theorem intBits_le (x : Int) : Builtin.Int.intBits x ≤ x.natAbs.log2 + 1 := by
  unfold Builtin.Int.intBits
  split <;> omega
theorem op_powB {X : Cx} : OpR X (binaryOp .Pow) (rI (fun i j => 0 ≤ j ∧ j ≤ 1000 ∧ i.natAbs < 2 ^ 400) fun i j => .int (i ^ j.toNat)) := opI fun i j _ _ _ _ _ hc q => by
  refine pow_int hc.1 ?_ q
  have h1 := intBits_le i
  have h2 : i.natAbs.log2 < 400 := PySem.Flt.log2_lt_of (by decide) hc.2.2
  have h3 : (Builtin.Int.intBits i : Int) ≤ 400 := by omega
  have h4 : (Builtin.Int.intBits i : Int) * j ≤ 400 * 1000 := Int.mul_le_mul h3 hc.2.1 hc.1 (by decide)
  exact Int.le_trans h4 (by decide)
/-- the most that a purse's first number may be -/
def big : Int := (10 ^ 60) ^ 8
theorem big_pos : 0 < big := by decide +kernel
theorem big_lt : big.natAbs < 2 ^ 1600 := by decide +kernel
/-- a purse at p from which no more than n draws have been made -/
def PurseAt (H : Hp) (p : Addr) (n : Nat) : Prop :=
  ∃ a b c d : Int, H p = some (.lst [.int a, .int b, .int c, .int d]) ∧ (0 ≤ a ∧ a < big) ∧ (0 ≤ b ∧ b < 2147483629) ∧ (0 ≤ c ∧ c ≤ n) ∧ (0 ≤ d ∧ d ≤ 63)
theorem PurseAt.mono {H : Hp} {p : Addr} {n m : Nat} (h : PurseAt H p n) (l : n ≤ m) : PurseAt H p m := by
  obtain ⟨a, b, c, d, e, ha, hb, hc, hd⟩ := h
  exact ⟨a, b, c, d, e, ha, hb, ⟨hc.1, by omega⟩, hd⟩
/-- but for the object at p nothing that was tracked has changed, and what is tracked besides is new -/
def But (p : Addr) (H H' : Hp) : Prop := ∀ b, b ≠ p → H' b = H b
theorem But.refl {p : Addr} {H : Hp} : But p H H := fun _ _ => rfl
theorem But.trans {p : Addr} {H1 H2 H3 : Hp} (a : But p H1 H2) (b : But p H2 H3) : But p H1 H3 := fun c h => (b c h).trans (a c h)
theorem But.upd {p : Addr} {H H' : Hp} {o : HO} (a : But p H H') : But p H (upd H' p o) := fun c h => by
  rw [upd_ne h]
  exact a c h
theorem But.sql {K : PySem.W.Frag} {p a : Addr} {H H' : Hp} {xs : List V} (h : But p H H') (hp : a ≠ p) (s : SqL K H a xs) : SqL K H' a xs := by
  rcases s with (s | ⟨o, s⟩) | s
  · exact .inl (.inl ((h a hp).trans s))
  · exact .inl (.inr ⟨o, (h a hp).trans s⟩)
  · exact .inr s
/-! ### the text -/
def topS (i : Nat) : Stmt := PySem.Challenge.pw_elderlink_k01_errors_made.main.body.getD i (.Pass ⟨0, 0, 0, 0⟩)
abbrev sPurse : Stmt := topS 28
abbrev sMixed : Stmt := topS 29
abbrev sDraw : Stmt := topS 30
theorem scPurse : FnScope ["_law_script", "_law_at", "_law_seed"] ["_law_script", "_law_at"] (defScope sPurse) := ⟨rfl, rfl, rfl, by decide +kernel, rfl, by decide +kernel, by decide +kernel⟩
theorem scMixed : FnScope ["_law_seed", "_law_turn", "_law_at", "_law_mixed_here"] ["_law_seed", "_law_turn", "_law_at"] (defScope sMixed) := ⟨rfl, rfl, rfl, by decide +kernel, rfl, by decide +kernel, by decide +kernel⟩
theorem scDraw : FnScope ["_law_purse_here", "_law_many", "_law_drawn", "_law_found", "_law_piece"] ["_law_purse_here", "_law_many"] (defScope sDraw) := ⟨rfl, rfl, rfl, by decide +kernel, rfl, by decide +kernel, by decide +kernel⟩
section
variable {P : Program} {w : World} {K : PySem.W.Frag} {mg : Str → Option Value} {base : Heap}
/-! ### _law_purse -/
def spPurse (K : PySem.W.Frag) : Sp := fun vs H Q _ => ∃ (a : Addr) (ns : List Int) (i : Int), vs = [.ref a, .int i] ∧ SqL K H a (ns.map V.int) ∧ (0 ≤ i ∧ i ≤ 63) ∧
  ∀ H' p, Same H H' → H p = none → PurseAt H' p 0 → Q (.ref p) H'
theorem same_new {H : Hp} {p : Addr} {o : HO} (h : H p = none) : Same H (upd H p o) := fun b x e => by
  rw [upd_ne (ne_of_none e h)]
  exact e
theorem ok_purse {f : Addr} {fd : FuncData} {k : Nat} (F : Fun K "_law_purse" "_law_purse" sPurse f fd) (ms : mg "sum" = none) (mm : mg "max" = none) : FnOk P w K mg base CX0 (k + 1) f fd ["_law_script", "_law_at"] (spPurse K) := by
  refine F.ok scPurse (fun vs H Q E h => ?_) (fun cdv A outer s H vs Q E hr h => ?_)
  · obtain ⟨a, ns, i, rfl, _⟩ := h
    rfl
  · obtain ⟨a, ns, i, rfl, hS, hi, q⟩ := h
    refine ⟨_, pss_cons (ps_set (i := 2) scPurse.nd rfl (.inl rfl) (pe_callB (cr_sum rfl) (by rfl) ms (by decide +kernel)
        (pa_cons (pe_slice sl_list (pv 0) (po_some (pv 1)) (po_some (pe_op op_add (pv 1) pe_int))) pa_nil)))
      (pss_one (ps_ret (pe_lst (pa_cons (pe_op op_modN (pe_callB (call_max2 rfl) (by rfl) mm (by decide +kernel) (pa_cons (pe_op op_sub (pv 2) (pe_op op_pow pe_int pe_int)) (pa_cons pe_int pa_nil)))
          (pe_op op_powB (pe_op op_pow pe_int pe_int) pe_int))
        (pa_cons (pe_op op_modN (pv 2) pe_int) (pa_cons pe_int (pa_cons (pv 1) pa_nil))))))), ?_⟩
    refine ⟨.ref a, rfl, .int i, rfl, i, rfl, .int i, rfl, i, 1, rfl, rfl, i + 1, rfl, a, ns.map V.int, rfl, hS, fun c nc => ?_⟩
    rw [cutV_map]
    refine ⟨c, _, rfl, .inl (.inl upd_same), ?_⟩
    -- the list of four
    refine ⟨_, rfl, 10, 18, rfl, rfl, ⟨by decide, by decide, by decide⟩, _, _, rfl, rfl, _, _, rfl, 10, 60, rfl, rfl, ⟨by decide, by decide, by decide⟩, _, 8, rfl, rfl, ⟨by decide, by decide, by decide +kernel⟩, _, _, rfl, rfl, ?_, ?_⟩
    · show ((10 : Int) ^ (60 : Int).toNat) ^ (8 : Int).toNat ≠ 0
      decide +kernel
    · refine ⟨_, rfl, _, _, rfl, rfl, (by show (2147483629 : Int) ≠ 0; decide), _, rfl, (by show 4 ≤ sizeLine; decide), fun p np => ?_⟩
      have h1 : H p = none := by
        cases e : H p with
        | none => rfl
        | some o =>
          rw [upd_ne (ne_of_none e nc)] at np
          rw [e] at np
          cases np
      refine q _ p ((same_new nc).trans (same_new np)) h1 ⟨_, _, _, _, upd_same, ?_, ?_, ?_, hi⟩
      · exact fmod_in big_pos
      · exact fmod_in (by decide)
      · exact ⟨by decide, by decide⟩
/-! ### _law_mixed -/
def spMixed : Sp := fun vs H Q _ => ∃ a t d : Int, vs = [.int a, .int t, .int d] ∧ (0 ≤ a ∧ a < 2147483629) ∧ (0 ≤ t ∧ t < 1000000000000) ∧ (0 ≤ d ∧ d ≤ 63) ∧ ∀ r : Int, 0 ≤ r → r < 2147483587 → Q (.int r) H
theorem ok_mixed {f : Addr} {fd : FuncData} {k : Nat} (F : Fun K "_law_mixed" "_law_mixed" sMixed f fd) : FnOk P w K mg base CX0 (k + 1) f fd ["_law_seed", "_law_turn", "_law_at"] spMixed := by
  refine F.ok scMixed (fun vs H Q E h => ?_) (fun cdv A outer s H vs Q E hr h => ?_)
  · obtain ⟨a, t, d, rfl, _⟩ := h
    rfl
  · obtain ⟨a, t, d, rfl, ha, ht, hd, q⟩ := h
    refine ⟨_, pss_cons (ps_set (i := 3) scMixed.nd rfl (.inl rfl) (pe_op op_add (pe_op op_mul (pv 0) pe_int) (pe_op op_mul (pe_op op_mul pe_int (pv 1)) (pv 1))))
      (pss_cons (ps_set (i := 3) scMixed.nd rfl (.inl rfl) (pe_op op_modN (pe_op op_add (pe_op op_add (pv 3) (pe_op op_mul pe_int (pv 2))) (pv 1)) pe_int))
      (pss_cons (ps_set (i := 3) scMixed.nd rfl (.inl rfl) (pe_op op_modN (pe_op op_add (pe_op op_mul (pv 3) (pv 3)) pe_int) pe_int))
      (pss_one (ps_ret (pe_op op_modN (pe_op op_mul (pv 3) pe_int) pe_int))))), ?_⟩
    refine ⟨_, rfl, _, _, rfl, rfl, .inr ⟨by decide, by decide⟩, _, rfl, _, _, rfl, rfl, .inl ⟨by decide, by decide⟩, _, rfl, _, _, rfl, rfl, .inl ⟨by omega, by omega⟩, _, _, rfl, rfl, ?_⟩
    refine ⟨_, rfl, _, rfl, _, _, rfl, rfl, .inl ⟨by decide, by decide⟩, _, _, rfl, rfl, _, rfl, _, _, rfl, rfl, _, _, rfl, rfl, (by show (2147483647 : Int) ≠ 0; decide), ?_⟩
    have b1 := fmod_in (a := a * 69069 + 104729 * t * t + 7919 * d + t) (b := 2147483647) (by decide)
    refine ⟨_, rfl, _, rfl, _, _, rfl, rfl, .inl ⟨by omega, by omega⟩, _, _, rfl, rfl, _, _, rfl, rfl, (by show (2147483629 : Int) ≠ 0; decide), ?_⟩
    refine ⟨_, rfl, _, _, rfl, rfl, .inr ⟨by decide, by decide⟩, _, _, rfl, rfl, (by show (2147483587 : Int) ≠ 0; decide), ?_⟩
    exact q _ (fmod_in (by decide)).1 (fmod_in (by decide)).2
end
end Eld
end L2

set_option Elab.async false
set_option linter.all false
set_option maxRecDepth 100000
set_option maxHeartbeats 4000000
namespace L2
namespace Eld
open PySem PySem.Spec PyProof.Rows PySem.EldX
section
variable {P : Program} {w : World} {K : PySem.W.Frag} {mg : Str → Option Value} {base : Heap}
/-! ### _law_draw -/
def spDraw : Sp := fun vs H Q _ => ∃ (p : Addr) (m : Int) (n : Nat), vs = [.ref p, .int m] ∧ PurseAt H p n ∧ n ≤ 100000000000 ∧ 1 ≤ m ∧ m.natAbs < 2 ^ 1000 ∧
  ∀ (H' : Hp) (r : Int), But p H H' → PurseAt H' p (n + 40) → 0 ≤ r → r < m → Q (.int r) H'
theorem turns_le {m : Int} (hm : m.natAbs < 2 ^ 1000) : 0 ≤ (1 : Int) + ((Builtin.Int.intBits m : Nat) : Int).fdiv 28 ∧ (1 : Int) + ((Builtin.Int.intBits m : Nat) : Int).fdiv 28 ≤ 40 := by
  have h1 := intBits_le m
  have h2 : m.natAbs.log2 < 1000 := PySem.Flt.log2_lt_of (by decide) hm
  rw [Int.fdiv_eq_ediv_of_nonneg _ (by decide)]
  omega
theorem ok_draw {f fM : Addr} {fd fdM : FuncData} (F : Fun K "_law_draw" "_law_draw" sDraw f fd) (FM : Fun K "_law_mixed" "_law_mixed" sMixed fM fdM) (gM : mg "_law_mixed" = some (.ref fM)) (mr : mg "range" = none) :
    FnOk P w K mg base CX0 2 f fd ["_law_purse_here", "_law_many"] spDraw := by
  have GM : FnOk P w K mg base CX0 1 fM fdM ["_law_seed", "_law_turn", "_law_at"] spMixed := ok_mixed FM
  have bM : Binds K fdM ["_law_seed", "_law_turn", "_law_at"] [] := FM.binds fun _ _ _ _ _ _ us hl => match us, hl with | [_, _, _], _ => rfl
  refine F.ok scDraw (fun vs H Q E h => ?_) (fun cdv A outer s H vs Q E hr h => ?_)
  · obtain ⟨p, m, n, rfl, _⟩ := h
    rfl
  · obtain ⟨p, m, n, rfl, ⟨a, b, c, d, hp, ha, hb, hc, hd⟩, hn, hm1, hm2, q⟩ := h
    refine ⟨_, pss_cons (ps_if (pt_cmpR op_gt (pe_ix ix_list (pv 0) pe_int (fun _ _ => rfl)) pe_int (nomark _))
        (pss_cons (ps_set (i := 2) scDraw.nd rfl (.inl rfl) (pe_op op_modN (pe_ix ix_list (pv 0) pe_int (fun _ _ => rfl)) (pv 1)))
        (pss_cons (ps_asg (pe_op op_fdivW (pe_ix ix_list (pv 0) pe_int (fun _ _ => rfl)) (pv 1)) (pg_sub (pv 0) pe_int set_list))
        (pss_one (ps_ret (pv 2))))) pss_nil)
      (pss_cons (ps_set (i := 3) scDraw.nd rfl (.inl rfl) pe_int)
      (pss_cons (ps_for PassesOwn.never rfl (pi_range1 rfl mr (pa_cons (pe_op op_add pe_int (pe_op op_fdivN (pe_bits (pv 1)) pe_int)) pa_nil)) (pg_name (i := 4) scDraw.nd rfl (.inl rfl))
        (pss_cons (ps_asg (pe_op op_add (pe_ix ix_list (pv 0) pe_int (fun _ _ => rfl)) pe_int) (pg_sub (pv 0) pe_int set_list))
        (pss_one (ps_set (i := 3) scDraw.nd rfl (.inl rfl) (pe_op op_add (pe_op op_mul (pv 3) pe_int)
          (pe_call GM hr (by rfl) gM FM.kp bM .nil pass0 (pa_cons (pe_ix ix_list (pv 0) pe_int (fun _ _ => rfl)) (pa_cons (pe_ix ix_list (pv 0) pe_int (fun _ _ => rfl)) (pa_cons (pe_ix ix_list (pv 0) pe_int (fun _ _ => rfl)) pa_nil))))))))) 
      (pss_one (ps_ret (pe_op op_modN (pv 3) (pv 1)))))), ?_⟩
    have hS : SqL K H p [.int a, .int b, .int c, .int d] := .inl (.inl hp)
    refine ⟨.ref p, rfl, p, _, 0, .int a, rfl, rfl, hS, rfl, _, _, rfl, rfl, _, rfl, ite2 (fun e => ?_) (fun e => ?_)⟩
    · have ea : 0 < a := of_decide_eq_true e
      refine ⟨.ref p, rfl, p, _, 0, .int a, rfl, rfl, hS, rfl, _, rfl, _, _, rfl, rfl, (by show m ≠ 0; omega), ?_⟩
      refine ⟨.ref p, rfl, p, _, 0, .int a, rfl, rfl, hS, rfl, _, rfl, _, _, rfl, rfl, wide_div (by omega) hm2 (by decide) (by decide), ?_⟩
      refine ⟨.ref p, rfl, p, _, 0, 0, rfl, rfl, hp, rfl, _, rfl, ?_⟩
      have z := ediv_lt_self' ha.1 ha.2 hm1
      have y := fmod_in (a := a) (b := m) (by omega)
      exact q _ _ (But.refl.upd) ⟨a / m, b, c, d, upd_same, z, hb, ⟨hc.1, by omega⟩, hd⟩ y.1 y.2
    · have tl := turns_le hm2
      refine ⟨_, rfl, _, rfl, _, 28, rfl, rfl, ⟨by decide, by decide⟩, 1, _, rfl, rfl, _, rfl, by omega, by omega, ?_⟩
      refine for_range (lo := 0) (n := ((1 : Int) + ((Builtin.Int.intBits m : Nat) : Int).fdiv 28).toNat)
        (fun i σ H' => ∃ (v2 : Option V) (z : Int) (v4 : Option V), σ = [some (.ref p), some (.int m), v2, some (.int z), v4] ∧ But p H H' ∧ PurseAt H' p (n + i)) ⟨_, _, _, rfl, But.refl, ⟨a, b, c, d, hp, ha, hb, hc, hd⟩⟩ ?_ ?_
      · rintro i σ H' hi ⟨v2, z, v4, rfl, hB, a', b', c', d', hp', ha', hb', hc', hd'⟩
        have hS' : SqL K H' p [.int a', .int b', .int c', .int d'] := .inl (.inl hp')
        refine ⟨.ref p, rfl, p, _, 2, .int c', rfl, rfl, hS', rfl, _, _, rfl, rfl, .ref p, rfl, p, _, 2, 2, rfl, rfl, hp', rfl, ?_⟩
        have hS2 : SqL K (upd H' p (.lst [.int a', .int b', .int (c' + 1), .int d'])) p [.int a', .int b', .int (c' + 1), .int d'] := .inl (.inl upd_same)
        refine ⟨_, rfl, _, _, rfl, rfl, .inr ⟨by decide, by decide⟩, ?_⟩
        refine ⟨.ref p, rfl, p, _, 1, .int b', rfl, rfl, hS2, rfl, .ref p, rfl, p, _, 2, .int (c' + 1), rfl, rfl, hS2, rfl, .ref p, rfl, p, _, 3, .int d', rfl, rfl, hS2, rfl, ?_⟩
        refine ⟨b', c' + 1, d', rfl, hb', ⟨by omega, by omega⟩, hd', fun r hr0 hr1 => ?_⟩
        exact ⟨_, _, rfl, rfl, v2, _, _, rfl, hB.upd, a', b', c' + 1, d', upd_same, ha', hb', ⟨by omega, by omega⟩, hd'⟩
      · rintro σ H' ⟨v2, z, v4, rfl, hB, hP⟩
        have y := fmod_in (a := z) (b := m) (by omega)
        exact ⟨_, rfl, _, rfl, _, _, rfl, rfl, (by show m ≠ 0; omega), q _ _ hB (hP.mono (by omega)) y.1 y.2⟩
end
end Eld
end L2

set_option Elab.async false
set_option linter.all false
set_option maxRecDepth 100000
set_option maxHeartbeats 4000000
namespace L2
namespace Eld
open PySem PySem.Spec PyProof.Rows PySem.EldX
abbrev sPurses : Stmt := topS 31
abbrev sOneOf : Stmt := topS 32
abbrev sWord : Stmt := topS 33
theorem scPurses : FnScope ["_law_script", "_law_few", "_law_at"] ["_law_script", "_law_few"] (defScope sPurses) := ⟨rfl, rfl, rfl, by decide +kernel, rfl, by decide +kernel, by decide +kernel⟩
theorem scOneOf : FnScope ["_law_purse_here", "_law_some"] ["_law_purse_here", "_law_some"] (defScope sOneOf) := ⟨rfl, rfl, rfl, by decide +kernel, rfl, by decide +kernel, by decide +kernel⟩
theorem scWord : FnScope ["_law_purse_here", "_law_found", "_law_turn"] ["_law_purse_here"] (defScope sWord) := ⟨rfl, rfl, rfl, by decide +kernel, rfl, by decide +kernel, by decide +kernel⟩
theorem none_of_same {H H' : Hp} {p : Addr} (s : Same H H') (n : H' p = none) : H p = none := by
  cases e : H p with
  | none => rfl
  | some o =>
    rw [s _ _ e] at n
    cases n
theorem PurseAt.some {H : Hp} {p : Addr} {n : Nat} (h : PurseAt H p n) : ∃ o, H p = some o := by
  obtain ⟨a, b, c, d, e, _⟩ := h
  exact ⟨_, e⟩
theorem PurseAt.of_eq {H H' : Hp} {p : Addr} {n : Nat} (h : PurseAt H p n) (e : H' p = H p) : PurseAt H' p n := by
  obtain ⟨a, b, c, d, q, r⟩ := h
  exact ⟨a, b, c, d, e.trans q, r⟩
theorem PurseAt.same {H H' : Hp} {p : Addr} {n : Nat} (h : PurseAt H p n) (s : Same H H') : PurseAt H' p n := by
  obtain ⟨a, b, c, d, q, r⟩ := h
  exact ⟨a, b, c, d, s _ _ q, r⟩
section
variable {P : Program} {w : World} {K : PySem.W.Frag} {mg : Str → Option Value} {base : Heap}
/-! ### _law_purses -/
def spPurses (K : PySem.W.Frag) : Sp := fun vs H Q _ => ∃ (a : Addr) (ns : List Int) (few : Int), vs = [.ref a, .int few] ∧ SqL K H a (ns.map V.int) ∧ ns.length ≤ 63 ∧ (1 ≤ few ∧ few ≤ 63) ∧
  ∀ (H' : Hp) (p : Addr) (ps : List Addr), Same H H' → H p = none → H' p = some (.lst (ps.map V.ref)) → (∀ x ∈ ps, H x = none ∧ x ≠ p ∧ PurseAt H' x 0) → ps.Nodup → ps.length ≤ 63 → Q (.ref p) H'
theorem ok_purses {f fP : Addr} {fd fdP : FuncData} (F : Fun K "_law_purses" "_law_purses" sPurses f fd) (FP : Fun K "_law_purse" "_law_purse" sPurse fP fdP) (gP : mg "_law_purse" = some (.ref fP))
    (mr : mg "range" = none) (mm : mg "max" = none) (mi : mg "min" = none) (ml : mg "len" = none) (ms : mg "sum" = none) : FnOk P w K mg base CX0 2 f fd ["_law_script", "_law_few"] (spPurses K) := by
  have GP : FnOk P w K mg base CX0 1 fP fdP ["_law_script", "_law_at"] (spPurse K) := ok_purse FP ms mm
  have bP : Binds K fdP ["_law_script", "_law_at"] [] := FP.binds fun _ _ _ _ _ _ us hl => match us, hl with | [_, _], _ => rfl
  refine F.ok scPurses (fun vs H Q E h => ?_) (fun cdv A outer s H vs Q E hr h => ?_)
  · obtain ⟨a, ns, few, rfl, _⟩ := h
    rfl
  · obtain ⟨a, ns, few, rfl, hS, hn, hf, q⟩ := h
    refine ⟨_, pss_one (ps_ret (pe_lc (own := [("_law_at", 2)]) (g := gName 2) (tt := tYes) rfl scPurses.nd
      (pi_range1 rfl mr (pa_cons (pe_callB (call_max2 rfl) (by rfl) mm (by decide +kernel) (pa_cons pe_int (pa_cons (pe_callB (call_min2 rfl) (by rfl) mi (by decide +kernel)
        (pa_cons (pv 1) (pa_cons (pe_callB call_len_seq (by rfl) ml PySem.boot_len (pa_cons (pv 0) pa_nil)) pa_nil))) pa_nil))) pa_nil))
      (blkOk_by (own := [("_law_at", 2)]) (N := ["_law_script", "_law_few", "_law_at"]) (sc := defScope sPurses) (by decide +kernel)) (fun _ _ _ _ _ => pg_name (i := 2) scPurses.nd rfl (.inl rfl)) (fun _ _ _ _ _ => pts_nil)
      (fun _ _ _ _ _ => pe_call GP hr (by rfl) gP FP.kp bP .nil pass0 (pa_cons (pv 0) (pa_cons (pv 2) pa_nil))))), ?_⟩
    refine ⟨_, rfl, .ref a, rfl, a, _, rfl, .inl hS, _, _, rfl, _, _, rfl, _, rfl, ?_⟩
    have len : ((ns.map V.int).length : Int) ≤ 63 := by
      rw [List.length_map]
      omega
    have m0 : 0 ≤ ((ns.map V.int).length : Int) := by omega
    generalize ((ns.map V.int).length : Int) = L at len m0
    have r1 : (1 : Int) ≤ (if (if L < few then L else few) > 1 then (if L < few then L else few) else 1) := by
      split <;> split <;> omega
    have r2 : (if (if L < few then L else few) > 1 then (if L < few then L else few) else 1) ≤ 63 := by
      split <;> split <;> omega
    generalize (if (if L < few then L else few) > 1 then (if L < few then L else few) else 1) = m at r1 r2
    refine ⟨by omega, by omega, fun D hD => ?_⟩
    refine lc_range (lo := 0) (n := m.toNat) (fun i H' => ∃ ps : List Addr, ps.length = i ∧ Same H H' ∧ H' D = some (.lst (ps.map V.ref)) ∧ (∀ x ∈ ps, H x = none ∧ x ≠ D ∧ PurseAt H' x 0) ∧ ps.Nodup)
      ⟨[], rfl, same_new hD, upd_same, (fun _ z => nomatch z), List.nodup_nil⟩ ?_ ?_
    · rintro i H' hi ⟨ps, hl, sm, hd, hp, nd⟩
      refine ⟨rfl, .ref a, rfl, _, rfl, a, ns, _, rfl, sm.seq hS, ⟨by omega, by omega⟩, fun H2 p s2 np h2 => ?_⟩
      refine ⟨ps.map V.ref, s2 _ _ hd, by rw [List.length_map]; exact small1000 (by omega), ps ++ [p], by rw [List.length_append, hl]; rfl, fun b z e => ?_, by rw [upd_same, List.map_append]; rfl, fun x hx => ?_, ?_⟩
      · rw [upd_ne (ne_of_none e hD)]
        exact s2 _ _ (sm _ _ e)
      · have pD : p ≠ D := fun z => by
          rw [z, hd] at np
          cases np
        rcases List.mem_append.mp hx with hx | hx
        · obtain ⟨e1, e2, e3⟩ := hp x hx
          exact ⟨e1, e2, (e3.same s2).of_eq (upd_ne e2)⟩
        · obtain rfl := List.mem_singleton.mp hx
          exact ⟨none_of_same sm np, pD, h2.of_eq (upd_ne pD)⟩
      · rw [List.nodup_append]
        refine ⟨nd, by simp, fun x hx y hy e => ?_⟩
        obtain rfl := List.mem_singleton.mp hy
        subst e
        obtain ⟨_, _, e3⟩ := hp x hx
        obtain ⟨o, e4⟩ := e3.some
        rw [np] at e4
        cases e4
    · rintro H' ⟨ps, hl, sm, hd, hp, nd⟩
      exact q H' D ps sm hD hd hp nd (by omega)
/-! ### _law_one_of -/
def spOneOf (K : PySem.W.Frag) : Sp := fun vs H Q _ => ∃ (p l : Addr) (xs : List V) (n : Nat), vs = [.ref p, .ref l] ∧ PurseAt H p n ∧ n ≤ 100000000000 ∧ SqL K H l xs ∧ l ≠ p ∧ 1 ≤ xs.length ∧ xs.length ≤ 1000 ∧
  ∀ (H' : Hp) (i : Nat) (x : V), But p H H' → PurseAt H' p (n + 40) → xs[i]? = some x → Q x H'
theorem small_bits {n : Nat} (h : n ≤ 1000) : ((n : Nat) : Int).natAbs < 2 ^ 1000 := by
  rw [Int.natAbs_natCast]
  exact Nat.lt_of_le_of_lt h (by decide +kernel)
theorem ok_oneOf {f fD fM : Addr} {fd fdD fdM : FuncData} (F : Fun K "_law_one_of" "_law_one_of" sOneOf f fd) (FD : Fun K "_law_draw" "_law_draw" sDraw fD fdD) (FM : Fun K "_law_mixed" "_law_mixed" sMixed fM fdM)
    (gD : mg "_law_draw" = some (.ref fD)) (gM : mg "_law_mixed" = some (.ref fM)) (mr : mg "range" = none) (ml : mg "len" = none) : FnOk P w K mg base CX0 3 f fd ["_law_purse_here", "_law_some"] (spOneOf K) := by
  have GD : FnOk P w K mg base CX0 2 fD fdD ["_law_purse_here", "_law_many"] spDraw := ok_draw FD FM gM mr
  have bD : Binds K fdD ["_law_purse_here", "_law_many"] [] := FD.binds fun _ _ _ _ _ _ us hl => match us, hl with | [_, _], _ => rfl
  refine F.ok scOneOf (fun vs H Q E h => ?_) (fun cdv A outer s H vs Q E hr h => ?_)
  · obtain ⟨p, l, xs, n, rfl, _⟩ := h
    rfl
  · obtain ⟨p, l, xs, n, rfl, hp, hn, hS, ne, l1, l2, q⟩ := h
    refine ⟨_, pss_one (ps_ret (pe_ix ix_list (pv 1) (pe_call GD hr (by rfl) gD FD.kp bD .nil pass0 (pa_cons (pv 0) (pa_cons (pe_callB call_len_seq (by rfl) ml PySem.boot_len (pa_cons (pv 1) pa_nil)) pa_nil))) (fun _ _ => rfl))), ?_⟩
    refine ⟨.ref l, rfl, .ref p, rfl, .ref l, rfl, l, xs, rfl, .inl hS, p, _, n, rfl, hp, hn, by omega, small_bits l2, fun H' r hB hP r0 r1 => ?_⟩
    obtain ⟨j, rfl⟩ : ∃ j : Nat, r = (j : Int) := ⟨r.toNat, by omega⟩
    have hj : j < xs.length := by omega
    exact ⟨l, xs, _, xs[j], rfl, rfl, hB.sql ne hS, atI_nat (List.getElem?_eq_getElem hj), q H' j _ hB hP (List.getElem?_eq_getElem hj)⟩
/-! ### _law_word -/
/-- a word: one to ten signs a to z -/
def IsWord (x : Str) : Prop := 1 ≤ x.length ∧ x.length ≤ 10 ∧ ∀ c ∈ x.cps.toList, 97 ≤ c ∧ c ≤ 122
def spWord : Sp := fun vs H Q _ => ∃ (p : Addr) (n : Nat), vs = [.ref p] ∧ PurseAt H p n ∧ n ≤ 90000000000 ∧ ∀ (H' : Hp) (x : Str), But p H H' → PurseAt H' p (n + 440) → IsWord x → Q (.str x) H'
theorem letter : ∀ j : Fin 26, atI (("abcdefghijklmnopqrstuvwxyz" : Str)).cps.toList ((j.val : Nat) : Int) = some (97 + j.val) := by decide +kernel
theorem ok_word {f fD fM : Addr} {fd fdD fdM : FuncData} (F : Fun K "_law_word" "_law_word" sWord f fd) (FD : Fun K "_law_draw" "_law_draw" sDraw fD fdD) (FM : Fun K "_law_mixed" "_law_mixed" sMixed fM fdM)
    (gD : mg "_law_draw" = some (.ref fD)) (gM : mg "_law_mixed" = some (.ref fM)) (mr : mg "range" = none) : FnOk P w K mg base CX0 3 f fd ["_law_purse_here"] spWord := by
  have GD : FnOk P w K mg base CX0 2 fD fdD ["_law_purse_here", "_law_many"] spDraw := ok_draw FD FM gM mr
  have bD : Binds K fdD ["_law_purse_here", "_law_many"] [] := FD.binds fun _ _ _ _ _ _ us hl => match us, hl with | [_, _], _ => rfl
  refine F.ok scWord (fun vs H Q E h => ?_) (fun cdv A outer s H vs Q E hr h => ?_)
  · obtain ⟨p, n, rfl, _⟩ := h
    rfl
  · obtain ⟨p, n, rfl, hp, hn, q⟩ := h
    refine ⟨_, pss_cons (ps_set (i := 1) scWord.nd rfl (.inl rfl) pe_str)
      (pss_cons (ps_for PassesOwn.never rfl (pi_range1 rfl mr (pa_cons (pe_op op_add pe_int (pe_call GD hr (by rfl) gD FD.kp bD .nil pass0 (pa_cons (pv 0) (pa_cons pe_int pa_nil)))) pa_nil)) (pg_name (i := 2) scWord.nd rfl (.inl rfl))
        (pss_one (ps_set (i := 1) scWord.nd rfl (.inl rfl) (pe_op op_add_str (pv 1) (pe_ix ix_str pe_str (pe_call GD hr (by rfl) gD FD.kp bD .nil pass0 (pa_cons (pv 0) (pa_cons pe_int pa_nil))) (fun _ _ => rfl))))))
      (pss_one (ps_ret (pv 1)))), ?_⟩
    refine ⟨.ref p, rfl, p, 10, n, rfl, hp, by omega, by decide, by decide +kernel, fun H1 r hB hP r0 r1 => ?_⟩
    refine ⟨_, _, rfl, rfl, _, rfl, by omega, by omega, ?_⟩
    refine for_range (lo := 0) (n := (1 + r).toNat)
      (fun i σ H' => ∃ (x : Str) (v2 : Option V), σ = [some (.ref p), some (.str x), v2] ∧ But p H H' ∧ PurseAt H' p (n + 40 + 40 * i) ∧ x.length = i ∧ ∀ c ∈ x.cps.toList, 97 ≤ c ∧ c ≤ 122) ⟨_, _, rfl, hB, hP, rfl, fun c z => by cases z⟩ ?_ ?_
    · rintro i σ H' hi ⟨x, v2, rfl, hB', hP', hl, hc⟩
      refine ⟨_, rfl, .ref p, rfl, p, 26, _, rfl, hP', by omega, by decide, by decide +kernel, fun H2 r2 hB2 hP2 z0 z1 => ?_⟩
      have hj : r2.toNat < 26 := by omega
      have er : r2 = ((r2.toNat : Nat) : Int) := by omega
      have le := letter ⟨r2.toNat, hj⟩
      rw [← er] at le
      refine ⟨_, r2, _, rfl, rfl, by decide +kernel, le, _, _, rfl, rfl, ?_, ?_⟩
      · rw [hl, sizeLine_eq]
        show i + 1 ≤ 16777216
        omega
      · refine ⟨_, _, rfl, hB'.trans hB2, hP2.mono (by omega), ?_, fun c z => ?_⟩
        · rw [strLen_append, hl]
          rfl
        · rw [Str.cps_append, Array.toList_append] at z
          rcases List.mem_append.mp z with z | z
          · exact hc c z
          · have z' : c ∈ [97 + r2.toNat] := z
            obtain rfl := List.mem_singleton.mp z'
            omega
    · rintro σ H' ⟨x, v2, rfl, hB', hP', hl, hc⟩
      exact ⟨_, rfl, q H' x hB' (hP'.mono (by omega)) ⟨by omega, by omega, hc⟩⟩
end
end Eld
end L2

set_option Elab.async false
set_option linter.all false
set_option maxRecDepth 100000
set_option maxHeartbeats 4000000
/-! ## the errors, all of them -/
namespace L2
namespace Eld
open PySem PySem.Spec PyProof.Rows PySem.EldX
/-- the classes' names: those with a field, the two without, the one over all -/
def nms : List Str := ["InvalidAsker", "InvalidLine", "InvalidStock", "InvalidKind", "InvalidNames", "InvalidCount", "InvalidDeal", "InvalidTold", "InvalidRanks", "InvalidShares", "InvalidKeeps", "InvalidDays", "InvalidDayLine", "InvalidSupplies", "InvalidWorths", "InvalidNumbers", "InvalidScript", "InvalidLog", "InvalidText", "UnknownName", "TakenName", "Unlike", "NotEnough", "NothingToUndo", "NothingToRedo", "ElderError"]
def nm (i : Nat) : Str := nms.getD i ""
/-- what the top has written of them: c i is where the i-th stands -/
structure ErrTop (K : PySem.W.Frag) (mg : Str → Option Value) (c : Nat → Addr) : Prop where
  g : ∀ i, i < 26 → mg (nm i) = some (.ref (c i))
  cl : ∀ i, i < 26 → ErrC K (c i)
  it : ∀ i, i < 23 → ErrI K (c i)
  ex : ∀ i, 23 ≤ i → i < 26 → PySem.W.excIn K (c i) [.type "ValueError", .type "Exception", .type "BaseException", .type "object"] "ValueError.__new__" = true
  kit : ∀ i j, i < 26 → j < 25 → PySem.W.kitOne K (.ref (c i)) (.ref (c j)) = some (decide (i = j))
  kitE : ∀ i, i < 26 → PySem.W.kitOne K (.ref (c i)) (.ref (c 25)) = some true
  kitV : ∀ i, i < 26 → PySem.W.kitOne K (.ref (c i)) (.type "ValueError") = some true
  w : KitW K
/-- at e: an error of the class at C with the field v -/
def ErrIs (H : Hp) (C e : Addr) (v : V) : Prop := ∃ d : Addr, H e = some (exo e C (some d)) ∧ H d = some (exd d (fld v))
theorem ErrIs.same {H H' : Hp} {C e : Addr} {v : V} (h : ErrIs H C e v) (s : Same H H') : ErrIs H' C e v := by
  obtain ⟨d, h1, h2⟩ := h
  exact ⟨d, s _ _ h1, s _ _ h2⟩
theorem ErrIs.isErr {H : Hp} {C e : Addr} {v : V} (h : ErrIs H C e v) : IsErr H C e := by
  obtain ⟨d, h1, h2⟩ := h
  exact .inr ⟨d, v, h1, h2⟩
abbrev Errs (H : Hp) (c : Nat → Addr) (v : V) (js : List Nat) (es : List Addr) : Prop := Paired (fun i e => ErrIs H (c i) e v) js es
theorem Errs.same {H H' : Hp} {c : Nat → Addr} {v : V} (s : Same H H') : ∀ {js : List Nat} {es : List Addr}, Errs H c v js es → Errs H' c v js es
  | _, _, .nil => .nil
  | _, _, .cons a b => .cons (a.same s) (Errs.same s b)
theorem Errs.append {H : Hp} {c : Nat → Addr} {v : V} : ∀ {js ks : List Nat} {es fs : List Addr}, Errs H c v js es → Errs H c v ks fs → Errs H c v (js ++ ks) (es ++ fs)
  | _, _, _, _, .nil, h => h
  | _, _, _, _, .cons a b, h => .cons a (Errs.append b h)
theorem mkErr_same {H : Hp} {C e d : Addr} {v : V} (he : H e = none) (hd : H d = none) : Same H (mkErr H C e d v) := fun b o z => by
  unfold mkErr
  rw [upd_ne (ne_of_none z he), upd_ne (ne_of_none z hd)]
  exact z
theorem mkErr_is {H : Hp} {C e d : Addr} {v : V} (ne : d ≠ e) : ErrIs (mkErr H C e d v) C e v := ⟨d, upd_same, by
  unfold mkErr
  rw [upd_ne ne, upd_same]⟩
/-- new errors of the classes js, with the field v -/
def errArgs (val : St → V → Prop) (c : Nat → Addr) (js : List Nat) : TA := fun σ H Q => ∃ v, val σ v ∧ ∀ (H' : Hp) (es : List Addr), Same H H' → Errs H' c v js es → Q (es.map V.ref) H'
abbrev at0 : St → V → Prop := fun σ v => σ[0]? = some (some v)
abbrev isN : St → V → Prop := fun _ v => v = .non
section
variable {X : Cx} {val : St → V → Prop} {c : Nat → Addr} {js ks : List Nat}
theorem pa_err_nil : PA X [] (errArgs val c []) := ⟨fun pos pins s σ H Q I h => by
  obtain ⟨v, _, q⟩ := h
  exact (pa_nil (X := X)).run pos pins s σ H Q I (q H [] (Same.refl H) .nil)⟩
theorem pa_err {i : Nat} {e : Expr} {es : List Expr} {t : TE} (hE : PE X e t) (imp : ∀ (σ : St) (H : Hp) (k : VK), (∃ v, val σ v ∧ rErr (c i) v H k) → t σ H k) (hr : PA X es (errArgs val c js))
    (hs : starEach (e :: es) X.env = (false, eval e X.env) :: starEach es X.env := by rfl) : PA X (e :: es) (errArgs val c (i :: js)) := ⟨fun pos pins s σ H Q I h => by
  obtain ⟨v, hv, q⟩ := h
  refine (pa_cons hE hr hs).run pos pins s σ H Q I (imp σ H _ ⟨v, hv, fun a d ha hd ne => ⟨v, hv, fun H' fs sm pr => ?_⟩⟩)
  exact q H' (a :: fs) ((mkErr_same ha hd).trans sm) (.cons ((mkErr_is ne).same sm) pr)⟩
theorem imp1 {i : Nat} (σ : St) (H : Hp) (k : VK) (h : ∃ v, at0 σ v ∧ rErr (c i) v H k) : tCons (tVar 0) tNil σ H fun vs H1 => ∃ v, vs = [v] ∧ rErr (c i) v H1 k := by
  obtain ⟨v, hv, q⟩ := h
  exact ⟨v, hv, v, rfl, q⟩
theorem imp0 {i : Nat} (σ : St) (H : Hp) (k : VK) (h : ∃ v, isN σ v ∧ rErr (c i) v H k) : rErr (c i) .non H k := by
  obtain ⟨v, rfl, q⟩ := h
  exact q
/-- a new list of errors at p; what stood ahead (H0) stands -/
structure Have (H0 H : Hp) (c : Nat → Addr) (v : V) (js : List Nat) (p : Addr) : Prop where
  sm : Same H0 H
  new : H0 p = none
  es : ∃ es : List Addr, H p = some (.lst (es.map V.ref)) ∧ Errs H c v js es
theorem small_list {n : Nat} (h : n ≤ 1000) : n ≤ sizeLine := Nat.le_of_lt (small1000 h)
theorem have_step {H : Hp} {σ : St} {v : V} {Q : VK} (hv : val σ v) (hl : js.length ≤ 500) (q : ∀ (H' : Hp) (p : Addr), Have H H' c v js p → Q (.ref p) H') : tLst (errArgs val c js) σ H Q := by
  refine ⟨v, hv, fun H' es sm pr => ⟨?_, fun p np => q _ p ⟨sm.trans (same_new np), none_of_same sm np, es, upd_same, pr.same (same_new np)⟩⟩⟩
  rw [List.length_map, ← pr.length]
  exact small_list (by omega)
theorem cat_step {H0 H : Hp} {σ : St} {v : V} {Q : VK} {s : Nat} {p : Addr} (hs : σ[s]? = some (some (.ref p))) (h : Have H0 H c v js p) (hv : val σ v) (hl : js.length + ks.length ≤ 500)
    (q : ∀ (H' : Hp) (p' : Addr), Have H0 H' c v (js ++ ks) p' → Q (.ref p') H') : tOp rCat (tVar s) (tLst (errArgs val c ks)) σ H Q := by
  obtain ⟨es, hp, pr⟩ := h.es
  refine ⟨.ref p, hs, have_step hv (by omega) fun H2 p2 h2 => ?_⟩
  obtain ⟨fs, hp2, pr2⟩ := h2.es
  refine ⟨p, p2, _, _, rfl, rfl, h2.sm _ _ hp, hp2, ?_, fun p3 np => q _ p3 ⟨(h.sm.trans h2.sm).trans (same_new np), none_of_same (h.sm.trans h2.sm) np, es ++ fs, ?_, ?_⟩⟩
  · rw [List.length_map, List.length_map, ← pr.length, ← pr2.length]
    exact small_list (by omega)
  · rw [upd_same, List.map_append]
  · exact ((pr.same h2.sm).append pr2).same (same_new np)
end
theorem seq_set {te : TE} {i : Nat} {u : TS} {D : Ends} {σ : St} {H : Hp} (h : te σ H fun x H1 => u D (σ.set i (some x)) H1) : tSeq (tAsg te (gName i)) u D σ H := h
theorem ret_of {te : TE} {D : Ends} {σ : St} {H : Hp} (h : te σ H D.rt) : tRet te D σ H := h
/-! ### _law_first, _law_named, _law_bare -/
abbrev sFirst : Stmt := topS 34
abbrev sNamed : Stmt := topS 35
abbrev sBare : Stmt := topS 36
theorem scFirst : FnScope ["_law_thing", "_law_found"] ["_law_thing"] (defScope sFirst) := ⟨rfl, rfl, rfl, by decide +kernel, rfl, by decide +kernel, by decide +kernel⟩
theorem scNamed : FnScope ["_law_thing", "_law_found"] ["_law_thing"] (defScope sNamed) := ⟨rfl, rfl, rfl, by decide +kernel, rfl, by decide +kernel, by decide +kernel⟩
theorem scBare : FnScope ["_law_found"] [] (defScope sBare) := ⟨rfl, rfl, rfl, by decide +kernel, rfl, by decide +kernel, by decide +kernel⟩
abbrev all23 : List Nat := [0, 1, 2, 3, 4, 5, 6, 7, 8, 9, 10, 11, 12, 13, 14, 15, 16, 17, 18, 19, 20, 21, 22]
def spErrs (c : Nat → Addr) : Sp := fun vs H Q _ => ∃ v : V, vs = [v] ∧ ∀ (H' : Hp) (p : Addr), Have H H' c v all23 p → Q (.ref p) H'
def spBare (c : Nat → Addr) : Sp := fun vs H Q _ => vs = [] ∧ ∀ (H' : Hp) (p : Addr), Have H H' c .non all23 p → Q (.ref p) H'
section
variable {P : Program} {w : World} {K : PySem.W.Frag} {mg : Str → Option Value} {base : Heap} {c : Nat → Addr}
theorem ok_first {f : Addr} {fd : FuncData} (F : Fun K "_law_first" "_law_first" sFirst f fd) (T : ErrTop K mg c) : FnOk P w K mg base CX0 2 f fd ["_law_thing"] (spErrs c) := by
  refine F.ok scFirst (fun vs H Q E h => ?_) (fun cdv A outer s H vs Q E hr h => ?_)
  · obtain ⟨v, rfl, _⟩ := h
    rfl
  · obtain ⟨v, rfl, q⟩ := h
    refine ⟨_, pss_cons (ps_set (i := 1) scFirst.nd rfl (.inl rfl) (pe_lst (pa_err (i := 0) (pe_err1 (T.cl 0 (by decide)) (T.it 0 (by decide)) hr (T.g 0 (by decide)) (pa_cons (pv 0) pa_nil)) imp1
          (pa_err (i := 1) (pe_err1 (T.cl 1 (by decide)) (T.it 1 (by decide)) hr (T.g 1 (by decide)) (pa_cons (pv 0) pa_nil)) imp1
          (pa_err (i := 2) (pe_err1 (T.cl 2 (by decide)) (T.it 2 (by decide)) hr (T.g 2 (by decide)) (pa_cons (pv 0) pa_nil)) imp1
          (pa_err (i := 3) (pe_err1 (T.cl 3 (by decide)) (T.it 3 (by decide)) hr (T.g 3 (by decide)) (pa_cons (pv 0) pa_nil)) imp1
          (pa_err (i := 4) (pe_err1 (T.cl 4 (by decide)) (T.it 4 (by decide)) hr (T.g 4 (by decide)) (pa_cons (pv 0) pa_nil)) imp1
          pa_err_nil)))))))
      (pss_cons (ps_set (i := 1) scFirst.nd rfl (.inl rfl) (pe_op op_cat (pv 1) (pe_lst (pa_err (i := 5) (pe_err1 (T.cl 5 (by decide)) (T.it 5 (by decide)) hr (T.g 5 (by decide)) (pa_cons (pv 0) pa_nil)) imp1
          (pa_err (i := 6) (pe_err1 (T.cl 6 (by decide)) (T.it 6 (by decide)) hr (T.g 6 (by decide)) (pa_cons (pv 0) pa_nil)) imp1
          (pa_err (i := 7) (pe_err1 (T.cl 7 (by decide)) (T.it 7 (by decide)) hr (T.g 7 (by decide)) (pa_cons (pv 0) pa_nil)) imp1
          (pa_err (i := 8) (pe_err1 (T.cl 8 (by decide)) (T.it 8 (by decide)) hr (T.g 8 (by decide)) (pa_cons (pv 0) pa_nil)) imp1
          pa_err_nil)))))))
      (pss_cons (ps_set (i := 1) scFirst.nd rfl (.inl rfl) (pe_op op_cat (pv 1) (pe_lst (pa_err (i := 9) (pe_err1 (T.cl 9 (by decide)) (T.it 9 (by decide)) hr (T.g 9 (by decide)) (pa_cons (pv 0) pa_nil)) imp1
          (pa_err (i := 10) (pe_err1 (T.cl 10 (by decide)) (T.it 10 (by decide)) hr (T.g 10 (by decide)) (pa_cons (pv 0) pa_nil)) imp1
          (pa_err (i := 11) (pe_err1 (T.cl 11 (by decide)) (T.it 11 (by decide)) hr (T.g 11 (by decide)) (pa_cons (pv 0) pa_nil)) imp1
          (pa_err (i := 12) (pe_err1 (T.cl 12 (by decide)) (T.it 12 (by decide)) hr (T.g 12 (by decide)) (pa_cons (pv 0) pa_nil)) imp1
          pa_err_nil)))))))
      (pss_cons (ps_set (i := 1) scFirst.nd rfl (.inl rfl) (pe_op op_cat (pv 1) (pe_lst (pa_err (i := 13) (pe_err1 (T.cl 13 (by decide)) (T.it 13 (by decide)) hr (T.g 13 (by decide)) (pa_cons (pv 0) pa_nil)) imp1
          (pa_err (i := 14) (pe_err1 (T.cl 14 (by decide)) (T.it 14 (by decide)) hr (T.g 14 (by decide)) (pa_cons (pv 0) pa_nil)) imp1
          (pa_err (i := 15) (pe_err1 (T.cl 15 (by decide)) (T.it 15 (by decide)) hr (T.g 15 (by decide)) (pa_cons (pv 0) pa_nil)) imp1
          (pa_err (i := 16) (pe_err1 (T.cl 16 (by decide)) (T.it 16 (by decide)) hr (T.g 16 (by decide)) (pa_cons (pv 0) pa_nil)) imp1
          pa_err_nil)))))))
      (pss_cons (ps_set (i := 1) scFirst.nd rfl (.inl rfl) (pe_op op_cat (pv 1) (pe_lst (pa_err (i := 17) (pe_err1 (T.cl 17 (by decide)) (T.it 17 (by decide)) hr (T.g 17 (by decide)) (pa_cons (pv 0) pa_nil)) imp1
          (pa_err (i := 18) (pe_err1 (T.cl 18 (by decide)) (T.it 18 (by decide)) hr (T.g 18 (by decide)) (pa_cons (pv 0) pa_nil)) imp1
          (pa_err (i := 19) (pe_err1 (T.cl 19 (by decide)) (T.it 19 (by decide)) hr (T.g 19 (by decide)) (pa_cons (pv 0) pa_nil)) imp1
          (pa_err (i := 20) (pe_err1 (T.cl 20 (by decide)) (T.it 20 (by decide)) hr (T.g 20 (by decide)) (pa_cons (pv 0) pa_nil)) imp1
          pa_err_nil)))))))
      (pss_one (ps_ret (pe_op op_cat (pv 1) (pe_lst (pa_err (i := 21) (pe_err1 (T.cl 21 (by decide)) (T.it 21 (by decide)) hr (T.g 21 (by decide)) (pa_cons (pv 0) pa_nil)) imp1
          (pa_err (i := 22) (pe_err1 (T.cl 22 (by decide)) (T.it 22 (by decide)) hr (T.g 22 (by decide)) (pa_cons (pv 0) pa_nil)) imp1
          pa_err_nil)))))))))), ?_⟩
    refine seq_set (have_step (val := at0) (js := [0, 1, 2, 3, 4]) (v := v) rfl (by decide) fun H1 p1 h1 => ?_)
    refine seq_set (cat_step (val := at0) (ks := [5, 6, 7, 8]) (s := 1) rfl h1 rfl (by decide) fun H2 p2 h2 => ?_)
    refine seq_set (cat_step (val := at0) (ks := [9, 10, 11, 12]) (s := 1) rfl h2 rfl (by decide) fun H3 p3 h3 => ?_)
    refine seq_set (cat_step (val := at0) (ks := [13, 14, 15, 16]) (s := 1) rfl h3 rfl (by decide) fun H4 p4 h4 => ?_)
    refine seq_set (cat_step (val := at0) (ks := [17, 18, 19, 20]) (s := 1) rfl h4 rfl (by decide) fun H5 p5 h5 => ?_)
    exact ret_of (cat_step (val := at0) (ks := [21, 22]) (s := 1) rfl h5 rfl (by decide) fun H6 p6 h6 => q _ _ h6)
theorem ok_named {f : Addr} {fd : FuncData} (F : Fun K "_law_named" "_law_named" sNamed f fd) (T : ErrTop K mg c) : FnOk P w K mg base CX0 2 f fd ["_law_thing"] (spErrs c) := by
  refine F.ok scNamed (fun vs H Q E h => ?_) (fun cdv A outer s H vs Q E hr h => ?_)
  · obtain ⟨v, rfl, _⟩ := h
    rfl
  · obtain ⟨v, rfl, q⟩ := h
    refine ⟨_, pss_cons (ps_set (i := 1) scNamed.nd rfl (.inl rfl) (pe_lst (pa_err (i := 0) (pe_errK (T.cl 0 (by decide)) (T.it 0 (by decide)) hr (T.g 0 (by decide)) (pk_cons (pv 0) pk_nil)) imp1
          (pa_err (i := 1) (pe_errK (T.cl 1 (by decide)) (T.it 1 (by decide)) hr (T.g 1 (by decide)) (pk_cons (pv 0) pk_nil)) imp1
          (pa_err (i := 2) (pe_errK (T.cl 2 (by decide)) (T.it 2 (by decide)) hr (T.g 2 (by decide)) (pk_cons (pv 0) pk_nil)) imp1
          (pa_err (i := 3) (pe_errK (T.cl 3 (by decide)) (T.it 3 (by decide)) hr (T.g 3 (by decide)) (pk_cons (pv 0) pk_nil)) imp1
          pa_err_nil))))))
      (pss_cons (ps_set (i := 1) scNamed.nd rfl (.inl rfl) (pe_op op_cat (pv 1) (pe_lst (pa_err (i := 4) (pe_errK (T.cl 4 (by decide)) (T.it 4 (by decide)) hr (T.g 4 (by decide)) (pk_cons (pv 0) pk_nil)) imp1
          (pa_err (i := 5) (pe_errK (T.cl 5 (by decide)) (T.it 5 (by decide)) hr (T.g 5 (by decide)) (pk_cons (pv 0) pk_nil)) imp1
          (pa_err (i := 6) (pe_errK (T.cl 6 (by decide)) (T.it 6 (by decide)) hr (T.g 6 (by decide)) (pk_cons (pv 0) pk_nil)) imp1
          pa_err_nil))))))
      (pss_cons (ps_set (i := 1) scNamed.nd rfl (.inl rfl) (pe_op op_cat (pv 1) (pe_lst (pa_err (i := 7) (pe_errK (T.cl 7 (by decide)) (T.it 7 (by decide)) hr (T.g 7 (by decide)) (pk_cons (pv 0) pk_nil)) imp1
          (pa_err (i := 8) (pe_errK (T.cl 8 (by decide)) (T.it 8 (by decide)) hr (T.g 8 (by decide)) (pk_cons (pv 0) pk_nil)) imp1
          (pa_err (i := 9) (pe_errK (T.cl 9 (by decide)) (T.it 9 (by decide)) hr (T.g 9 (by decide)) (pk_cons (pv 0) pk_nil)) imp1
          pa_err_nil))))))
      (pss_cons (ps_set (i := 1) scNamed.nd rfl (.inl rfl) (pe_op op_cat (pv 1) (pe_lst (pa_err (i := 10) (pe_errK (T.cl 10 (by decide)) (T.it 10 (by decide)) hr (T.g 10 (by decide)) (pk_cons (pv 0) pk_nil)) imp1
          (pa_err (i := 11) (pe_errK (T.cl 11 (by decide)) (T.it 11 (by decide)) hr (T.g 11 (by decide)) (pk_cons (pv 0) pk_nil)) imp1
          (pa_err (i := 12) (pe_errK (T.cl 12 (by decide)) (T.it 12 (by decide)) hr (T.g 12 (by decide)) (pk_cons (pv 0) pk_nil)) imp1
          pa_err_nil))))))
      (pss_cons (ps_set (i := 1) scNamed.nd rfl (.inl rfl) (pe_op op_cat (pv 1) (pe_lst (pa_err (i := 13) (pe_errK (T.cl 13 (by decide)) (T.it 13 (by decide)) hr (T.g 13 (by decide)) (pk_cons (pv 0) pk_nil)) imp1
          (pa_err (i := 14) (pe_errK (T.cl 14 (by decide)) (T.it 14 (by decide)) hr (T.g 14 (by decide)) (pk_cons (pv 0) pk_nil)) imp1
          (pa_err (i := 15) (pe_errK (T.cl 15 (by decide)) (T.it 15 (by decide)) hr (T.g 15 (by decide)) (pk_cons (pv 0) pk_nil)) imp1
          pa_err_nil))))))
      (pss_cons (ps_set (i := 1) scNamed.nd rfl (.inl rfl) (pe_op op_cat (pv 1) (pe_lst (pa_err (i := 16) (pe_errK (T.cl 16 (by decide)) (T.it 16 (by decide)) hr (T.g 16 (by decide)) (pk_cons (pv 0) pk_nil)) imp1
          (pa_err (i := 17) (pe_errK (T.cl 17 (by decide)) (T.it 17 (by decide)) hr (T.g 17 (by decide)) (pk_cons (pv 0) pk_nil)) imp1
          (pa_err (i := 18) (pe_errK (T.cl 18 (by decide)) (T.it 18 (by decide)) hr (T.g 18 (by decide)) (pk_cons (pv 0) pk_nil)) imp1
          pa_err_nil))))))
      (pss_one (ps_ret (pe_op op_cat (pv 1) (pe_lst (pa_err (i := 19) (pe_errK (T.cl 19 (by decide)) (T.it 19 (by decide)) hr (T.g 19 (by decide)) (pk_cons (pv 0) pk_nil)) imp1
          (pa_err (i := 20) (pe_errK (T.cl 20 (by decide)) (T.it 20 (by decide)) hr (T.g 20 (by decide)) (pk_cons (pv 0) pk_nil)) imp1
          (pa_err (i := 21) (pe_errK (T.cl 21 (by decide)) (T.it 21 (by decide)) hr (T.g 21 (by decide)) (pk_cons (pv 0) pk_nil)) imp1
          (pa_err (i := 22) (pe_errK (T.cl 22 (by decide)) (T.it 22 (by decide)) hr (T.g 22 (by decide)) (pk_cons (pv 0) pk_nil)) imp1
          pa_err_nil))))))))))))), ?_⟩
    refine seq_set (have_step (val := at0) (js := [0, 1, 2, 3]) (v := v) rfl (by decide) fun H1 p1 h1 => ?_)
    refine seq_set (cat_step (val := at0) (ks := [4, 5, 6]) (s := 1) rfl h1 rfl (by decide) fun H2 p2 h2 => ?_)
    refine seq_set (cat_step (val := at0) (ks := [7, 8, 9]) (s := 1) rfl h2 rfl (by decide) fun H3 p3 h3 => ?_)
    refine seq_set (cat_step (val := at0) (ks := [10, 11, 12]) (s := 1) rfl h3 rfl (by decide) fun H4 p4 h4 => ?_)
    refine seq_set (cat_step (val := at0) (ks := [13, 14, 15]) (s := 1) rfl h4 rfl (by decide) fun H5 p5 h5 => ?_)
    refine seq_set (cat_step (val := at0) (ks := [16, 17, 18]) (s := 1) rfl h5 rfl (by decide) fun H6 p6 h6 => ?_)
    exact ret_of (cat_step (val := at0) (ks := [19, 20, 21, 22]) (s := 1) rfl h6 rfl (by decide) fun H7 p7 h7 => q _ _ h7)
theorem ok_bare {f : Addr} {fd : FuncData} (F : Fun K "_law_bare" "_law_bare" sBare f fd) (T : ErrTop K mg c) : FnOk P w K mg base CX0 2 f fd [] (spBare c) := by
  refine F.ok scBare (fun vs H Q E h => ?_) (fun cdv A outer s H vs Q E hr h => ?_)
  · obtain ⟨rfl, _⟩ := h
    rfl
  · obtain ⟨rfl, q⟩ := h
    refine ⟨_, pss_cons (ps_set (i := 0) scBare.nd rfl (.inl rfl) (pe_lst (pa_err (i := 0) (pe_err0 (T.cl 0 (by decide)) (T.it 0 (by decide)) hr (T.g 0 (by decide))) imp0
          (pa_err (i := 1) (pe_err0 (T.cl 1 (by decide)) (T.it 1 (by decide)) hr (T.g 1 (by decide))) imp0
          (pa_err (i := 2) (pe_err0 (T.cl 2 (by decide)) (T.it 2 (by decide)) hr (T.g 2 (by decide))) imp0
          (pa_err (i := 3) (pe_err0 (T.cl 3 (by decide)) (T.it 3 (by decide)) hr (T.g 3 (by decide))) imp0
          (pa_err (i := 4) (pe_err0 (T.cl 4 (by decide)) (T.it 4 (by decide)) hr (T.g 4 (by decide))) imp0
          (pa_err (i := 5) (pe_err0 (T.cl 5 (by decide)) (T.it 5 (by decide)) hr (T.g 5 (by decide))) imp0
          pa_err_nil))))))))
      (pss_cons (ps_set (i := 0) scBare.nd rfl (.inl rfl) (pe_op op_cat (pv 0) (pe_lst (pa_err (i := 6) (pe_err0 (T.cl 6 (by decide)) (T.it 6 (by decide)) hr (T.g 6 (by decide))) imp0
          (pa_err (i := 7) (pe_err0 (T.cl 7 (by decide)) (T.it 7 (by decide)) hr (T.g 7 (by decide))) imp0
          (pa_err (i := 8) (pe_err0 (T.cl 8 (by decide)) (T.it 8 (by decide)) hr (T.g 8 (by decide))) imp0
          (pa_err (i := 9) (pe_err0 (T.cl 9 (by decide)) (T.it 9 (by decide)) hr (T.g 9 (by decide))) imp0
          (pa_err (i := 10) (pe_err0 (T.cl 10 (by decide)) (T.it 10 (by decide)) hr (T.g 10 (by decide))) imp0
          (pa_err (i := 11) (pe_err0 (T.cl 11 (by decide)) (T.it 11 (by decide)) hr (T.g 11 (by decide))) imp0
          pa_err_nil)))))))))
      (pss_cons (ps_set (i := 0) scBare.nd rfl (.inl rfl) (pe_op op_cat (pv 0) (pe_lst (pa_err (i := 12) (pe_err0 (T.cl 12 (by decide)) (T.it 12 (by decide)) hr (T.g 12 (by decide))) imp0
          pa_err_nil))))
      (pss_cons (ps_set (i := 0) scBare.nd rfl (.inl rfl) (pe_op op_cat (pv 0) (pe_lst (pa_err (i := 13) (pe_err0 (T.cl 13 (by decide)) (T.it 13 (by decide)) hr (T.g 13 (by decide))) imp0
          (pa_err (i := 14) (pe_err0 (T.cl 14 (by decide)) (T.it 14 (by decide)) hr (T.g 14 (by decide))) imp0
          (pa_err (i := 15) (pe_err0 (T.cl 15 (by decide)) (T.it 15 (by decide)) hr (T.g 15 (by decide))) imp0
          (pa_err (i := 16) (pe_err0 (T.cl 16 (by decide)) (T.it 16 (by decide)) hr (T.g 16 (by decide))) imp0
          (pa_err (i := 17) (pe_err0 (T.cl 17 (by decide)) (T.it 17 (by decide)) hr (T.g 17 (by decide))) imp0
          (pa_err (i := 18) (pe_err0 (T.cl 18 (by decide)) (T.it 18 (by decide)) hr (T.g 18 (by decide))) imp0
          pa_err_nil)))))))))
      (pss_one (ps_ret (pe_op op_cat (pv 0) (pe_lst (pa_err (i := 19) (pe_err0 (T.cl 19 (by decide)) (T.it 19 (by decide)) hr (T.g 19 (by decide))) imp0
          (pa_err (i := 20) (pe_err0 (T.cl 20 (by decide)) (T.it 20 (by decide)) hr (T.g 20 (by decide))) imp0
          (pa_err (i := 21) (pe_err0 (T.cl 21 (by decide)) (T.it 21 (by decide)) hr (T.g 21 (by decide))) imp0
          (pa_err (i := 22) (pe_err0 (T.cl 22 (by decide)) (T.it 22 (by decide)) hr (T.g 22 (by decide))) imp0
          pa_err_nil))))))))))), ?_⟩
    refine seq_set (have_step (val := isN) (js := [0, 1, 2, 3, 4, 5]) (v := .non) rfl (by decide) fun H1 p1 h1 => ?_)
    refine seq_set (cat_step (val := isN) (ks := [6, 7, 8, 9, 10, 11]) (s := 0) rfl h1 rfl (by decide) fun H2 p2 h2 => ?_)
    refine seq_set (cat_step (val := isN) (ks := [12]) (s := 0) rfl h2 rfl (by decide) fun H3 p3 h3 => ?_)
    refine seq_set (cat_step (val := isN) (ks := [13, 14, 15, 16, 17, 18]) (s := 0) rfl h3 rfl (by decide) fun H4 p4 h4 => ?_)
    exact ret_of (cat_step (val := isN) (ks := [19, 20, 21, 22]) (s := 0) rfl h4 rfl (by decide) fun H5 p5 h5 => q _ _ h5)
end
end Eld
end L2

set_option Elab.async false
set_option linter.all false
set_option maxRecDepth 100000
set_option maxHeartbeats 4000000
/-! ## of which classes an error is -/
namespace L2
namespace Eld
open PySem PySem.Spec PyProof.Rows PySem.EldX
theorem ifT {b : Bool} {A B : Prop} (e : b = true) (h : A) : if b = true then A else B := by
  subst e
  exact iteT h
theorem ifF {b : Bool} {A B : Prop} (e : b = false) (h : B) : if b = true then A else B := by
  subst e
  exact iteF h
theorem IsErr.same {H H' : Hp} {C e : Addr} (h : IsErr H C e) (s : Same H H') : IsErr H' C e := by
  rcases h with h | ⟨d, v, h, h2⟩
  · exact .inl (s _ _ h)
  · exact .inr ⟨d, v, s _ _ h, s _ _ h2⟩
/-- the answers for the classes js of an error of the i-th -/
def isiArgs (c : Nat → Addr) (js : List Nat) : TA := fun σ H Q => ∃ (e : Addr) (i : Nat), σ[0]? = some (some (.ref e)) ∧ i < 26 ∧ IsErr H (c i) e ∧ Q (js.map fun j => V.bl (decide (i = j))) H
section
variable {X : Cx} {c : Nat → Addr} {js ks : List Nat}
theorem pa_isi_nil : PA X [] (isiArgs c []) := ⟨fun pos pins s σ H Q I h => by
  obtain ⟨e, i, _, _, _, q⟩ := h
  exact (pa_nil (X := X)).run pos pins s σ H Q I q⟩
theorem pa_isi {j : Nat} {e : Expr} {es : List Expr} {t : TE} (hE : PE X e t) (imp : ∀ (σ : St) (H : Hp) (k : VK), (∃ (e : Addr) (i : Nat), σ[0]? = some (some (.ref e)) ∧ i < 26 ∧ IsErr H (c i) e ∧ k (.bl (decide (i = j))) H) → t σ H k) (hr : PA X es (isiArgs c js))
    (hs : starEach (e :: es) X.env = (false, eval e X.env) :: starEach es X.env := by rfl) : PA X (e :: es) (isiArgs c (j :: js)) := ⟨fun pos pins s σ H Q I h => by
  obtain ⟨a, i, h0, hi, he, q⟩ := h
  exact (pa_cons hE hr hs).run pos pins s σ H Q I (imp σ H _ ⟨a, i, h0, hi, he, a, i, h0, hi, he, q⟩)⟩
theorem impI {K : PySem.W.Frag} {mg : Str → Option Value} {j : Nat} (T : ErrTop K mg c) (hj : j < 25) (σ : St) (H : Hp) (k : VK) (h : ∃ (e : Addr) (i : Nat), σ[0]? = some (some (.ref e)) ∧ i < 26 ∧ IsErr H (c i) e ∧ k (.bl (decide (i = j))) H) :
    tCB (rIsErr K) (tCons (tVar 0) (tCons (tC (.ref (c j))) tNil)) σ H k := by
  obtain ⟨e, i, h0, hi, he, q⟩ := h
  exact ⟨.ref e, h0, e, c i, c j, _, rfl, T.cl i hi, T.w, he, T.kit i j hi hj, q⟩
/-- a list of such answers at p, new -/
structure HaveB (H0 H : Hp) (i : Nat) (js : List Nat) (p : Addr) : Prop where
  sm : Same H0 H
  new : H0 p = none
  at_ : H p = some (.lst (js.map fun j => V.bl (decide (i = j))))
theorem bl_step {H : Hp} {σ : St} {Q : VK} {e : Addr} {i : Nat} (hi : i < 26) (he : IsErr H (c i) e) (h0 : σ[0]? = some (some (.ref e))) (hl : js.length ≤ 500) (q : ∀ (H' : Hp) (p : Addr), HaveB H H' i js p → Q (.ref p) H') :
    tLst (isiArgs c js) σ H Q :=
  ⟨e, i, h0, hi, he, by rw [List.length_map]; exact small_list (by omega), fun p np => q _ p ⟨same_new np, np, upd_same⟩⟩
theorem bl_cat {H0 H : Hp} {σ : St} {Q : VK} {e : Addr} {i s : Nat} {p : Addr} (hi : i < 26) (he : IsErr H0 (c i) e) (h0 : σ[0]? = some (some (.ref e))) (hs : σ[s]? = some (some (.ref p))) (h : HaveB H0 H i js p) (hl : js.length + ks.length ≤ 500)
    (q : ∀ (H' : Hp) (p' : Addr), HaveB H0 H' i (js ++ ks) p' → Q (.ref p') H') : tOp rCat (tVar s) (tLst (isiArgs c ks)) σ H Q := by
  refine ⟨.ref p, hs, bl_step hi (he.same h.sm) h0 (by omega) fun H2 p2 h2 => ?_⟩
  refine ⟨p, p2, _, _, rfl, rfl, h2.sm _ _ h.at_, h2.at_, ?_, fun p3 np => q _ p3 ⟨(h.sm.trans h2.sm).trans (same_new np), none_of_same (h.sm.trans h2.sm) np, ?_⟩⟩
  · rw [List.length_map, List.length_map]
    exact small_list (by omega)
  · rw [upd_same, List.map_append]
end
/-! ### _law_code -/
abbrev sCode : Stmt := topS 37
abbrev sIsError : Stmt := topS 38
theorem scCode : FnScope ["_law_error", "_law_found", "_law_at"] ["_law_error"] (defScope sCode) := ⟨rfl, rfl, rfl, by decide +kernel, rfl, by decide +kernel, by decide +kernel⟩
theorem scIsError : FnScope ["_law_error"] ["_law_error"] (defScope sIsError) := ⟨rfl, rfl, rfl, by decide +kernel, rfl, by decide +kernel, by decide +kernel⟩
/-- what is told of an error of the i-th class -/
def codeOf (i : Nat) : List V := if i < 25 then [.int i] else []
def spCode (c : Nat → Addr) : Sp := fun vs H Q _ => ∃ (e : Addr) (i : Nat), vs = [.ref e] ∧ i < 26 ∧ IsErr H (c i) e ∧ ∀ (H' : Hp) (p : Addr), Same H H' → H p = none → H' p = some (.lst (codeOf i)) → Q (.ref p) H'
def spIsErr (c : Nat → Addr) : Sp := fun vs H Q _ => ∃ (e : Addr) (i : Nat), vs = [.ref e] ∧ i < 26 ∧ IsErr H (c i) e ∧ Q (.bl true) H
abbrev all25 : List Nat := [0, 1, 2, 3, 4, 5, 6, 7, 8, 9, 10, 11, 12, 13, 14, 15, 16, 17, 18, 19, 20, 21, 22, 23, 24]
theorem all25_at : ∀ k : Fin 25, all25[k.val]? = some k.val := by decide
section
variable {P : Program} {w : World} {K : PySem.W.Frag} {mg : Str → Option Value} {base : Heap} {c : Nat → Addr}
theorem ok_code {f : Addr} {fd : FuncData} (F : Fun K "_law_code" "_law_code" sCode f fd) (T : ErrTop K mg c) (mi : mg "isinstance" = none) (mr : mg "range" = none) (ml : mg "len" = none) : FnOk P w K mg base CX0 2 f fd ["_law_error"] (spCode c) := by
  refine F.ok scCode (fun vs H Q E h => ?_) (fun cdv A outer s H vs Q E hr h => ?_)
  · obtain ⟨e, i, rfl, _⟩ := h
    rfl
  · obtain ⟨e, i, rfl, hi, he, q⟩ := h
    refine ⟨_, pss_cons (ps_set (i := 1) scCode.nd rfl (.inr rfl) (pe_lst (pa_isi (j := 0) (pe_callB call_isErr (by rfl) mi (by decide +kernel) (pa_cons (pv 0) (pa_cons (pe_glob (v := .ref (c 0)) rfl (T.g 0 (by decide)) rfl) pa_nil))) (impI T (by decide))
          (pa_isi (j := 1) (pe_callB call_isErr (by rfl) mi (by decide +kernel) (pa_cons (pv 0) (pa_cons (pe_glob (v := .ref (c 1)) rfl (T.g 1 (by decide)) rfl) pa_nil))) (impI T (by decide))
          (pa_isi (j := 2) (pe_callB call_isErr (by rfl) mi (by decide +kernel) (pa_cons (pv 0) (pa_cons (pe_glob (v := .ref (c 2)) rfl (T.g 2 (by decide)) rfl) pa_nil))) (impI T (by decide))
          pa_isi_nil)))))
      (pss_cons (ps_set (i := 1) scCode.nd rfl (.inr rfl) (pe_op op_cat (pv 1) (pe_lst (pa_isi (j := 3) (pe_callB call_isErr (by rfl) mi (by decide +kernel) (pa_cons (pv 0) (pa_cons (pe_glob (v := .ref (c 3)) rfl (T.g 3 (by decide)) rfl) pa_nil))) (impI T (by decide))
          (pa_isi (j := 4) (pe_callB call_isErr (by rfl) mi (by decide +kernel) (pa_cons (pv 0) (pa_cons (pe_glob (v := .ref (c 4)) rfl (T.g 4 (by decide)) rfl) pa_nil))) (impI T (by decide))
          (pa_isi (j := 5) (pe_callB call_isErr (by rfl) mi (by decide +kernel) (pa_cons (pv 0) (pa_cons (pe_glob (v := .ref (c 5)) rfl (T.g 5 (by decide)) rfl) pa_nil))) (impI T (by decide))
          pa_isi_nil))))))
      (pss_cons (ps_set (i := 1) scCode.nd rfl (.inr rfl) (pe_op op_cat (pv 1) (pe_lst (pa_isi (j := 6) (pe_callB call_isErr (by rfl) mi (by decide +kernel) (pa_cons (pv 0) (pa_cons (pe_glob (v := .ref (c 6)) rfl (T.g 6 (by decide)) rfl) pa_nil))) (impI T (by decide))
          (pa_isi (j := 7) (pe_callB call_isErr (by rfl) mi (by decide +kernel) (pa_cons (pv 0) (pa_cons (pe_glob (v := .ref (c 7)) rfl (T.g 7 (by decide)) rfl) pa_nil))) (impI T (by decide))
          (pa_isi (j := 8) (pe_callB call_isErr (by rfl) mi (by decide +kernel) (pa_cons (pv 0) (pa_cons (pe_glob (v := .ref (c 8)) rfl (T.g 8 (by decide)) rfl) pa_nil))) (impI T (by decide))
          pa_isi_nil))))))
      (pss_cons (ps_set (i := 1) scCode.nd rfl (.inr rfl) (pe_op op_cat (pv 1) (pe_lst (pa_isi (j := 9) (pe_callB call_isErr (by rfl) mi (by decide +kernel) (pa_cons (pv 0) (pa_cons (pe_glob (v := .ref (c 9)) rfl (T.g 9 (by decide)) rfl) pa_nil))) (impI T (by decide))
          (pa_isi (j := 10) (pe_callB call_isErr (by rfl) mi (by decide +kernel) (pa_cons (pv 0) (pa_cons (pe_glob (v := .ref (c 10)) rfl (T.g 10 (by decide)) rfl) pa_nil))) (impI T (by decide))
          (pa_isi (j := 11) (pe_callB call_isErr (by rfl) mi (by decide +kernel) (pa_cons (pv 0) (pa_cons (pe_glob (v := .ref (c 11)) rfl (T.g 11 (by decide)) rfl) pa_nil))) (impI T (by decide))
          pa_isi_nil))))))
      (pss_cons (ps_set (i := 1) scCode.nd rfl (.inr rfl) (pe_op op_cat (pv 1) (pe_lst (pa_isi (j := 12) (pe_callB call_isErr (by rfl) mi (by decide +kernel) (pa_cons (pv 0) (pa_cons (pe_glob (v := .ref (c 12)) rfl (T.g 12 (by decide)) rfl) pa_nil))) (impI T (by decide))
          (pa_isi (j := 13) (pe_callB call_isErr (by rfl) mi (by decide +kernel) (pa_cons (pv 0) (pa_cons (pe_glob (v := .ref (c 13)) rfl (T.g 13 (by decide)) rfl) pa_nil))) (impI T (by decide))
          pa_isi_nil)))))
      (pss_cons (ps_set (i := 1) scCode.nd rfl (.inr rfl) (pe_op op_cat (pv 1) (pe_lst (pa_isi (j := 14) (pe_callB call_isErr (by rfl) mi (by decide +kernel) (pa_cons (pv 0) (pa_cons (pe_glob (v := .ref (c 14)) rfl (T.g 14 (by decide)) rfl) pa_nil))) (impI T (by decide))
          (pa_isi (j := 15) (pe_callB call_isErr (by rfl) mi (by decide +kernel) (pa_cons (pv 0) (pa_cons (pe_glob (v := .ref (c 15)) rfl (T.g 15 (by decide)) rfl) pa_nil))) (impI T (by decide))
          pa_isi_nil)))))
      (pss_cons (ps_set (i := 1) scCode.nd rfl (.inr rfl) (pe_op op_cat (pv 1) (pe_lst (pa_isi (j := 16) (pe_callB call_isErr (by rfl) mi (by decide +kernel) (pa_cons (pv 0) (pa_cons (pe_glob (v := .ref (c 16)) rfl (T.g 16 (by decide)) rfl) pa_nil))) (impI T (by decide))
          (pa_isi (j := 17) (pe_callB call_isErr (by rfl) mi (by decide +kernel) (pa_cons (pv 0) (pa_cons (pe_glob (v := .ref (c 17)) rfl (T.g 17 (by decide)) rfl) pa_nil))) (impI T (by decide))
          (pa_isi (j := 18) (pe_callB call_isErr (by rfl) mi (by decide +kernel) (pa_cons (pv 0) (pa_cons (pe_glob (v := .ref (c 18)) rfl (T.g 18 (by decide)) rfl) pa_nil))) (impI T (by decide))
          pa_isi_nil))))))
      (pss_cons (ps_set (i := 1) scCode.nd rfl (.inr rfl) (pe_op op_cat (pv 1) (pe_lst (pa_isi (j := 19) (pe_callB call_isErr (by rfl) mi (by decide +kernel) (pa_cons (pv 0) (pa_cons (pe_glob (v := .ref (c 19)) rfl (T.g 19 (by decide)) rfl) pa_nil))) (impI T (by decide))
          (pa_isi (j := 20) (pe_callB call_isErr (by rfl) mi (by decide +kernel) (pa_cons (pv 0) (pa_cons (pe_glob (v := .ref (c 20)) rfl (T.g 20 (by decide)) rfl) pa_nil))) (impI T (by decide))
          (pa_isi (j := 21) (pe_callB call_isErr (by rfl) mi (by decide +kernel) (pa_cons (pv 0) (pa_cons (pe_glob (v := .ref (c 21)) rfl (T.g 21 (by decide)) rfl) pa_nil))) (impI T (by decide))
          pa_isi_nil))))))
      (pss_cons (ps_set (i := 1) scCode.nd rfl (.inr rfl) (pe_op op_cat (pv 1) (pe_lst (pa_isi (j := 22) (pe_callB call_isErr (by rfl) mi (by decide +kernel) (pa_cons (pv 0) (pa_cons (pe_glob (v := .ref (c 22)) rfl (T.g 22 (by decide)) rfl) pa_nil))) (impI T (by decide))
          (pa_isi (j := 23) (pe_callB call_isErr (by rfl) mi (by decide +kernel) (pa_cons (pv 0) (pa_cons (pe_glob (v := .ref (c 23)) rfl (T.g 23 (by decide)) rfl) pa_nil))) (impI T (by decide))
          (pa_isi (j := 24) (pe_callB call_isErr (by rfl) mi (by decide +kernel) (pa_cons (pv 0) (pa_cons (pe_glob (v := .ref (c 24)) rfl (T.g 24 (by decide)) rfl) pa_nil))) (impI T (by decide))
          pa_isi_nil))))))
      (pss_one (ps_ret (pe_lc (own := [("_law_at", 2)]) (g := gName 2) (tt := tB (tOp (rIxL K) (tVar 1) (tVar 2))) rfl scCode.nd (pi_range1 rfl mr (pa_cons (pe_callB call_len_seq (by rfl) ml PySem.boot_len (pa_cons (pv 1) pa_nil)) pa_nil))
        (blkOk_by (own := [("_law_at", 2)]) (N := ["_law_error", "_law_found", "_law_at"]) (sc := defScope sCode) (by decide +kernel)) (fun _ _ _ _ _ => pg_name (i := 2) scCode.nd rfl (.inl rfl))
        (fun _ _ _ _ _ => pts_one (pt_val (pe_ix ix_list (pv 1) (pv 2) (fun _ _ => rfl)))) (fun _ _ _ _ _ => pv 2)))))))))))), ?_⟩
    refine seq_set (bl_step (js := [0, 1, 2]) hi he rfl (by decide) fun H1 p1 h1 => ?_)
    refine seq_set (bl_cat (ks := [3, 4, 5]) (s := 1) hi he rfl rfl h1 (by decide) fun H2 p2 h2 => ?_)
    refine seq_set (bl_cat (ks := [6, 7, 8]) (s := 1) hi he rfl rfl h2 (by decide) fun H3 p3 h3 => ?_)
    refine seq_set (bl_cat (ks := [9, 10, 11]) (s := 1) hi he rfl rfl h3 (by decide) fun H4 p4 h4 => ?_)
    refine seq_set (bl_cat (ks := [12, 13]) (s := 1) hi he rfl rfl h4 (by decide) fun H5 p5 h5 => ?_)
    refine seq_set (bl_cat (ks := [14, 15]) (s := 1) hi he rfl rfl h5 (by decide) fun H6 p6 h6 => ?_)
    refine seq_set (bl_cat (ks := [16, 17, 18]) (s := 1) hi he rfl rfl h6 (by decide) fun H7 p7 h7 => ?_)
    refine seq_set (bl_cat (ks := [19, 20, 21]) (s := 1) hi he rfl rfl h7 (by decide) fun H8 p8 h8 => ?_)
    refine seq_set (bl_cat (ks := [22, 23, 24]) (s := 1) hi he rfl rfl h8 (by decide) fun H9 p9 h9 => ?_)
    have hp : H9 p9 = some (.lst (all25.map fun j => V.bl (decide (i = j)))) := h9.at_
    refine ret_of ⟨.ref p9, rfl, p9, _, rfl, .inl (.inl (.inl hp)), _, rfl, by rw [List.length_map]; decide, by rw [List.length_map]; decide, fun D hD => ?_⟩
    have hDp : D ≠ p9 := fun z => by
      rw [z, hp] at hD
      cases hD
    refine lc_range (lo := 0) (n := 25) (fun k H' => Same H9 H' ∧ H' D = some (.lst (if i < k then [.int i] else []))) ⟨same_new hD, by rw [if_neg (Nat.not_lt_zero i)]; exact upd_same⟩ ?_ ?_
    · rintro k H' hk ⟨sm, hd⟩
      have hp' := sm _ _ hp
      have hg : (all25.map fun j => V.bl (decide (i = j)))[k]? = some (.bl (decide (i = k))) := by
        rw [List.getElem?_map, all25_at ⟨k, hk⟩]
        rfl
      have hg' : atI (all25.map fun j => V.bl (decide (i = j))) (0 + (k : Int)) = some (.bl (decide (i = k))) := by
        rw [Int.zero_add]
        exact atI_nat hg
      refine ⟨rfl, .ref p9, rfl, _, rfl, p9, _, _, _, rfl, rfl, .inl (.inl hp'), hg', _, rfl, ?_⟩
      by_cases e1 : i = k
      · subst e1
        rw [if_neg (Nat.lt_irrefl i)] at hd
        refine ifT (decide_eq_true rfl) ⟨_, rfl, [], hd, by rw [sizeLine_eq]; decide, fun b o z => ?_, ?_⟩
        · rw [upd_ne (fun y => by rw [y, hD] at z; cases z)]
          exact sm _ _ z
        · rw [upd_same, if_pos (Nat.lt_succ_self i), Int.zero_add]
          rfl
      · refine ifF (decide_eq_false e1) ⟨sm, ?_⟩
        rw [hd]
        by_cases e2 : i < k
        · rw [if_pos e2, if_pos (Nat.lt_succ_of_lt e2)]
        · rw [if_neg e2, if_neg (by omega)]
    · rintro H' ⟨sm, hd⟩
      exact q H' D (h9.sm.trans sm) (none_of_same h9.sm hD) hd
theorem ok_isError {f : Addr} {fd : FuncData} (F : Fun K "_law_is_error" "_law_is_error" sIsError f fd) (T : ErrTop K mg c) (mi : mg "isinstance" = none) (mv : mg "ValueError" = none) : FnOk P w K mg base CX0 1 f fd ["_law_error"] (spIsErr c) := by
  refine F.ok scIsError (fun vs H Q E h => ?_) (fun cdv A outer s H vs Q E hr h => ?_)
  · obtain ⟨e, i, rfl, _⟩ := h
    rfl
  · obtain ⟨e, i, rfl, hi, he, q⟩ := h
    refine ⟨_, pss_one (ps_ret (pe_and (pe_callB call_isErr (by rfl) mi (by decide +kernel) (pa_cons (pv 0) (pa_cons (pe_glob (v := .ref (c 25)) rfl (T.g 25 (by decide)) rfl) pa_nil)))
      (pe_one (pe_callB call_isErrT (by rfl) mi (by decide +kernel) (pa_cons (pv 0) (pa_cons (pe_bltn (v := .ty "ValueError") rfl mv PyProof.Rows.Boot.«ValueError» rfl) pa_nil)))))), ?_⟩
    refine ⟨.ref e, rfl, e, c i, c 25, true, rfl, T.cl i hi, T.w, he, T.kitE i hi, true, rfl, ?_⟩
    refine ifT rfl ?_
    exact ⟨.ref e, rfl, e, c i, "ValueError", true, rfl, T.cl i hi, T.w, he, T.kitV i hi, q⟩
end
end Eld
end L2

set_option Elab.async false
set_option linter.all false
set_option maxRecDepth 100000
set_option maxHeartbeats 4000000
/-! ## the eight things that an error may bear -/
namespace L2
namespace Eld
open PySem PySem.Spec PyProof.Rows PySem.EldX
theorem sql_same {K : PySem.W.Frag} {H H' : Hp} {a : Addr} {xs : List V} (s : Same H H') (h : SqL K H a xs) : SqL K H' a xs := s.seq h
theorem sqt_same {K : PySem.W.Frag} {H H' : Hp} {a : Addr} {xs : List V} (s : Same H H') (h : SqT K H a xs) : SqT K H' a xs := by
  rcases h with (h | ⟨o, h⟩) | h
  · exact .inl (.inl (s _ _ h))
  · exact .inl (.inr ⟨o, s _ _ h⟩)
  · exact .inr h
/-- data that can be shown -/
structure Shows (d : PyData) : Prop where
  s : d.showable = true
  z : d.shown.length ≤ sizeLine
  d : d.depth ≤ 100
theorem shows_of {d : PyData} (h1 : d.showable = true) (h2 : d.leavesShort 13 = true) (h3 : d.bulk ≤ 1000) (h4 : d.depth ≤ 100) : Shows d := by
  refine ⟨h1, ?_, h4⟩
  have e := PyData.shown_le_bulk 13 (by decide) d h2
  rw [sizeLine_eq]
  omega
theorem word_short {w : Str} (h : IsWord w) : (PyData.str w).leavesShort 13 = true := by
  simp only [PyData.leavesShort, List.all_eq_true, decide_eq_true_eq]
  intro c hc
  have z := (h.2.2 c hc).2
  exact Nat.lt_of_le_of_lt z (by decide)
theorem word_size {w : Str} (h : IsWord w) : w.cps.size ≤ 10 := h.2.1
theorem later_short : (PyData.str ("later" : Str)).leavesShort 13 = true := by decide +kernel
theorem later_size : ("later" : Str).cps.size = 5 := by decide +kernel
theorem one_short : (PyData.int 1).leavesShort 13 = true := by decide +kernel
abbrev lat : V := .str "later"
/-- what is tracked in H, and was not in N, stands in H' -/
def New (N H H' : Hp) : Prop := ∀ b o, N b = none → H b = some o → H' b = some o
theorem Same.new {N H H' : Hp} (s : Same H H') : New N H H' := fun b o _ z => s b o z
theorem New.trans {N H1 H2 H3 : Hp} (a : New N H1 H2) (b : New N H2 H3) : New N H1 H3 := fun c o n z => b c o n (a c o n z)
/-- x, a thing that may be shown, and shown again when "later" was appended to it, if it is a list; N: what stood ahead of it -/
def Thing (K : PySem.W.Frag) (N H : Hp) (x : V) : Prop := ∃ d : PyData, Shows d ∧ (∀ H', New N H H' → Dq K H' x d) ∧
  ((∃ ty : Value, (∀ H', New N H H' → TyX K H' x ty) ∧ PySem.W.kitOne K ty (.type "list") = some false) ∨
    ∃ (t : Addr) (xs : List V) (d' : PyData), x = .ref t ∧ N t = none ∧ H t = some (.lst xs) ∧ xs.length ≤ 5 ∧ Shows d' ∧
      ∀ H', (∀ b o, N b = none → b ≠ t → H b = some o → H' b = some o) → H' t = some (.lst (xs ++ [lat])) → Dq K H' x d')
theorem Thing.new {K : PySem.W.Frag} {N H H2 : Hp} {x : V} (h : Thing K N H x) (s : New N H H2) : Thing K N H2 x := by
  obtain ⟨d, h1, h2, h3⟩ := h
  refine ⟨d, h1, fun H' s' => h2 H' (s.trans s'), ?_⟩
  rcases h3 with ⟨ty, h4, h5⟩ | ⟨t, xs, d', e, n, ht, hl, h6, h7⟩
  · exact .inl ⟨ty, fun H' s' => h4 H' (s.trans s'), h5⟩
  · exact .inr ⟨t, xs, d', e, n, s _ _ n ht, hl, h6, fun H' k q => h7 H' (fun b o nb hb z => k b o nb hb (s _ _ nb z)) q⟩
theorem Thing.same {K : PySem.W.Frag} {N H H2 : Hp} {x : V} (h : Thing K N H x) (s : Same H H2) : Thing K N H2 x := h.new (Same.new s)
theorem kit_no {K : PySem.W.Frag} {a : String} (h : kitB a "list" = some false) : PySem.W.kitOne K (.type a) (.type "list") = some false := kit_ty h
section
variable {K : PySem.W.Frag} {N H : Hp} {w : Str} {σ : St} {Q : VK}
theorem show_w (h : IsWord w) : Shows (.str w) :=
  shows_of (by simp only [PyData.showable]) (word_short h) (by simp only [PyData.bulk]; have := word_size h; omega) (by simp only [PyData.depth]; omega)
theorem thing_w (h : IsWord w) : Thing K N H (.str w) := ⟨.str w, show_w h, fun _ _ => .str w, .inl ⟨_, fun _ _ => .base (.str w), kit_no (by decide +kernel)⟩⟩
theorem thing_none : Thing K N H .non :=
  ⟨.none, shows_of (by decide) (by decide) (by decide) (by decide), fun _ _ => .non, .inl ⟨_, fun _ _ => .base .non, kit_no (by decide +kernel)⟩⟩
theorem thing_true : Thing K N H (.bl true) :=
  ⟨.bool true, shows_of (by decide) (by decide) (by decide) (by decide), fun _ _ => .bl true, .inl ⟨_, fun _ _ => .base (.bl true), kit_no (by decide +kernel)⟩⟩
/-- (w, 1) -/
theorem thing_tup (h : IsWord w) {p : Addr} (n : N p = none) (e : H p = some (.tup [.str w, .int 1])) : Thing K N H (.ref p) := by
  refine ⟨.tuple [.str w, .int 1], shows_of ?_ ?_ ?_ ?_, fun H' s => .tup (.inl (.inl (s _ _ n e))) (.cons (.str w) (.cons (.int 1) .nil)), .inl ⟨_, fun H' s => .base (.tup (s _ _ n e)), kit_no (by decide +kernel)⟩⟩
  · simp only [PyData.showable, PyData.showableAll]
    decide
  · simp only [PyData.leavesShort, PyData.leavesShortAll] at *
    have z := word_short h
    simp only [PyData.leavesShort] at z
    rw [z]
    decide +kernel
  · simp only [PyData.bulk, PyData.bulkAll]
    have := word_size h
    omega
  · simp only [PyData.depth, PyData.depthAll]
    omega
/-- {w: [w]} -/
theorem thing_dict (h : IsWord w) {p b : Addr} (n : N p = none) (nb : N b = none) (e : H p = some (.dK [(.inr w, .ref b)])) (eb : H b = some (.lst [.str w])) : Thing K N H (.ref p) := by
  refine ⟨.dict [(.str w, .list [.str w])], shows_of ?_ ?_ ?_ ?_, fun H' s => .dct (s _ _ n e) (.cons (.lst (.inl (.inl (s _ _ nb eb))) (.cons (.str w) .nil)) .nil), .inl ⟨_, fun H' s => .base (.dK (s _ _ n e)), kit_no (by decide +kernel)⟩⟩
  · simp only [PyData.showable, PyData.showableKv, PyData.showableAll]
    decide
  · have z := word_short h
    simp only [PyData.leavesShort, PyData.leavesShortKv, PyData.leavesShortAll] at z ⊢
    rw [z]
    decide
  · simp only [PyData.bulk, PyData.bulkKv, PyData.bulkAll]
    have := word_size h
    omega
  · simp only [PyData.depth, PyData.depthKv, PyData.depthAll]
    omega
/-- [w] -/
theorem thing_list (h : IsWord w) {p : Addr} (n : N p = none) (e : H p = some (.lst [.str w])) : Thing K N H (.ref p) := by
  have z := word_short h
  have y := word_size h
  have l := later_short
  refine ⟨.list [.str w], shows_of ?_ ?_ ?_ ?_, fun H' s => .lst (.inl (.inl (s _ _ n e))) (.cons (.str w) .nil),
    .inr ⟨p, [.str w], .list [.str w, .str "later"], rfl, n, e, (by show 1 ≤ 5; decide), shows_of ?_ ?_ ?_ ?_, fun H' _ q => .lst (.inl (.inl q)) (.cons (.str w) (.cons (.str _) .nil))⟩⟩
  · simp only [PyData.showable, PyData.showableAll]
    decide
  · simp only [PyData.leavesShort, PyData.leavesShortAll] at z ⊢
    rw [z]
    decide
  · simp only [PyData.bulk, PyData.bulkAll]
    omega
  · simp only [PyData.depth, PyData.depthAll]
    omega
  · simp only [PyData.showable, PyData.showableAll]
    decide
  · simp only [PyData.leavesShort, PyData.leavesShortAll] at z l ⊢
    rw [z, l]
    decide
  · simp only [PyData.bulk, PyData.bulkAll, later_size]
    omega
  · simp only [PyData.depth, PyData.depthAll]
    omega
/-- [{}] -/
theorem thing_ldict {p b : Addr} (n : N p = none) (nb : N b = none) (ne : b ≠ p) (e : H p = some (.lst [.ref b])) (eb : H b = some (.dK [])) : Thing K N H (.ref p) := by
  have l := later_short
  refine ⟨.list [.dict []], shows_of (by decide) (by decide) (by decide) (by decide), fun H' s => .lst (.inl (.inl (s _ _ n e))) (.cons (.dct (s _ _ nb eb) .nil) .nil),
    .inr ⟨p, [.ref b], .list [.dict [], .str "later"], rfl, n, e, (by show 1 ≤ 5; decide), shows_of ?_ ?_ ?_ ?_, fun H' k q => .lst (.inl (.inl q)) (.cons (.dct (k _ _ nb ne eb) .nil) (.cons (.str _) .nil))⟩⟩
  · simp only [PyData.showable, PyData.showableAll, PyData.showableKv]
    decide
  · simp only [PyData.leavesShort, PyData.leavesShortAll, PyData.leavesShortKv] at l ⊢
    rw [l]
    decide
  · simp only [PyData.bulk, PyData.bulkAll, PyData.bulkKv, later_size]
    omega
  · simp only [PyData.depth, PyData.depthAll, PyData.depthKv]
    omega
/-- [[w, ()]] -/
theorem thing_llist (h : IsWord w) {p b u : Addr} (n : N p = none) (nb : N b = none) (nn : N u = none) (ne : b ≠ p) (nu : u ≠ p) (e : H p = some (.lst [.ref b])) (eb : H b = some (.lst [.str w, .ref u])) (eu : H u = some (.tup [])) : Thing K N H (.ref p) := by
  have z := word_short h
  have y := word_size h
  have l := later_short
  refine ⟨.list [.list [.str w, .tuple []]], shows_of ?_ ?_ ?_ ?_,
    fun H' s => .lst (.inl (.inl (s _ _ n e))) (.cons (.lst (.inl (.inl (s _ _ nb eb))) (.cons (.str w) (.cons (.tup (.inl (.inl (s _ _ nn eu))) .nil) .nil))) .nil),
    .inr ⟨p, [.ref b], .list [.list [.str w, .tuple []], .str "later"], rfl, n, e, (by show 1 ≤ 5; decide), shows_of ?_ ?_ ?_ ?_,
      fun H' k q => .lst (.inl (.inl q)) (.cons (.lst (.inl (.inl (k _ _ nb ne eb))) (.cons (.str w) (.cons (.tup (.inl (.inl (k _ _ nn nu eu))) .nil) .nil))) (.cons (.str _) .nil))⟩⟩
  · simp only [PyData.showable, PyData.showableAll]
    decide
  · simp only [PyData.leavesShort, PyData.leavesShortAll] at z ⊢
    rw [z]
    decide
  · simp only [PyData.bulk, PyData.bulkAll]
    omega
  · simp only [PyData.depth, PyData.depthAll]
    omega
  · simp only [PyData.showable, PyData.showableAll]
    decide
  · simp only [PyData.leavesShort, PyData.leavesShortAll] at z l ⊢
    rw [z, l]
    decide
  · simp only [PyData.bulk, PyData.bulkAll, later_size]
    omega
  · simp only [PyData.depth, PyData.depthAll]
    omega
end
/-! ### the written list of them; the word stands in slot s -/
section
variable {K : PySem.W.Frag} {N H : Hp} {w : Str} {σ : St} {Q : VK} {s : Nat}
theorem mk_list (h : IsWord w) (hs : σ[s]? = some (some (.str w))) (sn : Same N H) (q : ∀ H' x, Same H H' → Thing K N H' x → Q x H') : tLst (tCons (tVar s) tNil) σ H Q :=
  ⟨_, hs, by show 1 ≤ sizeLine; exact small_list (by decide), fun p np => q _ _ (same_new np) (thing_list h (none_of_same sn np) upd_same)⟩
theorem mk_tup (h : IsWord w) (hs : σ[s]? = some (some (.str w))) (sn : Same N H) (q : ∀ H' x, Same H H' → Thing K N H' x → Q x H') : tTup (tCons (tVar s) (tCons (tC (.int 1)) tNil)) σ H Q :=
  ⟨_, hs, by show 2 ≤ sizeLine; exact small_list (by decide), fun p np => q _ _ (same_new np) (thing_tup h (none_of_same sn np) upd_same)⟩
theorem mk_dict (h : IsWord w) (hs : σ[s]? = some (some (.str w))) (sn : Same N H) (q : ∀ H' x, Same H H' → Thing K N H' x → Q x H') : tDisp [(tVar s, tLst (tCons (tVar s) tNil))] σ H Q := fun p np => by
  refine ⟨_, hs, _, hs, by show 1 ≤ sizeLine; exact small_list (by decide), fun b nb => ?_⟩
  have ne : p ≠ b := fun z => by
    rw [← z, upd_same] at nb
    cases nb
  refine ⟨by rw [upd_ne ne, upd_same], [(.inr w, .ref b)], rfl, (by show 1 ≤ 15; decide), q _ _ (fun c o z => ?_) (thing_dict h (b := b) (none_of_same sn np) (none_of_same (sn.trans (same_new np)) nb) upd_same ?_)⟩
  · have n1 : c ≠ p := ne_of_none z np
    have n2 : c ≠ b := fun y => by
      rw [y] at z
      rw [upd_ne (Ne.symm ne), z] at nb
      cases nb
    rw [upd_ne n1, upd_ne n2, upd_ne n1]
    exact z
  · rw [upd_ne (Ne.symm ne), upd_same]
theorem mk_ldict (sn : Same N H) (q : ∀ H' x, Same H H' → Thing K N H' x → Q x H') : tLst (tCons tDNewK tNil) σ H Q := fun b nb => by
  refine ⟨by show 1 ≤ sizeLine; exact small_list (by decide), fun p np => ?_⟩
  have ne : b ≠ p := fun z => by
    rw [← z, upd_same] at np
    cases np
  have s1 : Same H (upd H b (.dK [])) := same_new nb
  exact q _ _ (s1.trans (same_new np)) (thing_ldict (none_of_same (sn.trans s1) np) (none_of_same sn nb) ne upd_same (by rw [upd_ne ne, upd_same]))
theorem mk_llist (h : IsWord w) (hs : σ[s]? = some (some (.str w))) (sn : Same N H) (q : ∀ H' x, Same H H' → Thing K N H' x → Q x H') :
    tLst (tCons (tLst (tCons (tVar s) (tCons (tTup tNil) tNil))) tNil) σ H Q := by
  refine ⟨_, hs, Nat.zero_le _, fun u nu => ⟨by show 2 ≤ sizeLine; exact small_list (by decide), fun b nb => ⟨by show 1 ≤ sizeLine; exact small_list (by decide), fun p np => ?_⟩⟩⟩
  have s1 : Same H (upd H u (.tup [])) := same_new nu
  have s2 := s1.trans (same_new (o := .lst [.str w, .ref u]) nb)
  have n1 : u ≠ b := fun z => by
    rw [← z, upd_same] at nb
    cases nb
  have n2 : b ≠ p := fun z => by
    rw [← z, upd_same] at np
    cases np
  have n3 : u ≠ p := fun z => by
    rw [← z, upd_ne n1, upd_same] at np
    cases np
  exact q _ _ (s2.trans (same_new np)) (thing_llist h (none_of_same (sn.trans s2) np) (none_of_same (sn.trans s1) nb) (none_of_same sn nu) n2 n3 upd_same (by rw [upd_ne n2, upd_same]) (by rw [upd_ne n3, upd_ne n1, upd_same]))
theorem cons_c {v : V} {tr : TA} {Q : List V → Hp → Prop} (h : tr σ H fun xs H2 => Q (v :: xs) H2) : tCons (tC v) tr σ H Q := h
theorem cons_e {te : TE} {tr : TA} {Q : List V → Hp → Prop} (h : te σ H fun x H1 => tr σ H1 fun xs H2 => Q (x :: xs) H2) : tCons te tr σ H Q := h
/-- the eight -/
abbrev tEight (s : Nat) : TA := tCons (tLst (tCons (tVar s) tNil)) (tCons (tDisp [(tVar s, tLst (tCons (tVar s) tNil))]) (tCons (tTup (tCons (tVar s) (tCons (tC (.int 1)) tNil))) (tCons (tVar s) (tCons (tC .non) (tCons (tC (.bl true))
  (tCons (tLst (tCons tDNewK tNil)) (tCons (tLst (tCons (tLst (tCons (tVar s) (tCons (tTup tNil) tNil))) tNil)) tNil)))))))
theorem eight {Q : List V → Hp → Prop} (h : IsWord w) (hs : σ[s]? = some (some (.str w))) (q : ∀ H' xs, Same H H' → xs.length = 8 → (∀ x ∈ xs, Thing K H H' x) → Q xs H') : tEight s σ H Q := by
  refine mk_list (K := K) (N := H) h hs (Same.refl H) fun H1 x1 s1 t1 => ?_
  refine mk_dict (K := K) (N := H) h hs s1 fun H2 x2 s2 t2 => ?_
  refine mk_tup (K := K) (N := H) h hs (s1.trans s2) fun H3 x3 s3 t3 => ?_
  refine ⟨_, hs, cons_c (cons_c (cons_e ?_))⟩
  refine mk_ldict (K := K) (N := H) ((s1.trans s2).trans s3) fun H4 x4 s4 t4 => cons_e ?_
  refine mk_llist (K := K) (N := H) h hs (((s1.trans s2).trans s3).trans s4) fun H5 x5 s5 t5 => ?_
  have s45 := s4.trans s5
  have s35 := s3.trans s45
  refine q H5 [x1, x2, x3, .str w, .non, .bl true, x4, x5] (s1.trans (s2.trans s35)) rfl fun x hx => ?_
  rcases List.mem_cons.mp hx with rfl | hx
  · exact t1.same (s2.trans s35)
  rcases List.mem_cons.mp hx with rfl | hx
  · exact t2.same s35
  rcases List.mem_cons.mp hx with rfl | hx
  · exact t3.same s45
  rcases List.mem_cons.mp hx with rfl | hx
  · exact thing_w h
  rcases List.mem_cons.mp hx with rfl | hx
  · exact thing_none
  rcases List.mem_cons.mp hx with rfl | hx
  · exact thing_true
  rcases List.mem_cons.mp hx with rfl | hx
  · exact t4.same s5
  · obtain rfl := List.mem_singleton.mp hx
    exact t5
end
end Eld
end L2

set_option Elab.async false
set_option linter.all false
set_option maxRecDepth 100000
set_option maxHeartbeats 4000000
/-! ## the law's comprehensions -/
namespace L2
namespace Eld
open PySem PySem.Spec PyProof.Rows PySem.EldX
theorem paired_get {α β : Type} {F : α → β → Prop} : ∀ {l₁ : List α} {l₂ : List β} {i : Nat} {b : β}, Paired F l₁ l₂ → l₂[i]? = some b → ∃ a, l₁[i]? = some a ∧ F a b
  | _, _, _, _, .nil, e => by simp at e
  | _, _, 0, _, .cons h _, e => by
    simp at e
    subst e
    exact ⟨_, rfl, h⟩
  | _, _, i + 1, b, .cons _ t, e => by
    obtain ⟨a, h1, h2⟩ := paired_get (i := i) (b := b) t (by simpa using e)
    exact ⟨a, by simpa using h1, h2⟩
theorem paired_imp {α β : Type} {F G : α → β → Prop} (h : ∀ a b, F a b → G a b) : ∀ {l₁ : List α} {l₂ : List β}, Paired F l₁ l₂ → Paired G l₁ l₂
  | _, _, .nil => .nil
  | _, _, .cons a t => .cons (h _ _ a) (paired_imp h t)
theorem slot_own {σ : St} {i : Nat} {x : V} (h : i < σ.length) : ((wipe σ [i]).set i (some x))[i]? = some (some x) := by
  have e : i < (wipe σ [i]).length := by
    rw [wipe_length]
    exact h
  rw [List.getElem?_set_self e]
theorem slot_other {σ : St} {i j : Nat} {x : V} (h : i ≠ j) : ((wipe σ [i]).set i (some x))[j]? = σ[j]? := by
  rw [List.getElem?_set_ne h]
  show (σ.set i none)[j]? = σ[j]?
  rw [List.getElem?_set_ne h]
theorem wipe_own {σ : St} {i : Nat} {x : Option V} : wipe ((wipe σ [i]).set i x) [i] = wipe σ [i] := by
  show ((σ.set i none).set i x).set i none = σ.set i none
  rw [List.set_set, List.set_set]
/-- rows of numbers at the addresses ps, none of them at D -/
abbrev RowsAt (f : Nat → List V) (H : Hp) (D : Addr) (ns : List Nat) (ps : List Addr) : Prop := Paired (fun i p => p ≠ D ∧ H p = some (.lst (f i))) ns ps
theorem rows_mono {f : Nat → List V} {H H' : Hp} {D : Addr} {ns : List Nat} {ps : List Addr} (h : RowsAt f H D ns ps) (k : ∀ b o, b ≠ D → H b = some o → H' b = some o) : RowsAt f H' D ns ps :=
  paired_imp (fun _ _ z => ⟨z.1, k _ _ z.1 z.2⟩) h
/-- a list of rows as data -/
theorem rows_data {K : PySem.W.Frag} {f : Nat → List V} {g : Nat → List PyData} {H : Hp} {D : Addr} (hf : ∀ i, DpAll K H (f i) (g i)) : ∀ {ns : List Nat} {ps : List Addr}, RowsAt f H D ns ps → DpAll K H (ps.map V.ref) (ns.map fun i => .list (g i))
  | _, _, .nil => .nil
  | _, _, .cons a t => .cons (.lst (.inl (.inl a.2)) (hf _)) (rows_data hf t)
def codeD (i : Nat) : List PyData := if i < 25 then [.int i] else []
theorem code_data {K : PySem.W.Frag} {H : Hp} (i : Nat) : DpAll K H (codeOf i) (codeD i) := by
  unfold codeOf codeD
  split
  · exact .cons (.int _) .nil
  · exact .nil
/-- js, es: errors -/
abbrev Are (H : Hp) (c : Nat → Addr) (js : List Nat) (es : List Addr) : Prop := Paired (fun i e => i < 26 ∧ IsErr H (c i) e) js es
theorem Are.same {H H' : Hp} {c : Nat → Addr} {js : List Nat} {es : List Addr} (h : Are H c js es) (s : Same H H') : Are H' c js es := paired_imp (fun _ _ z => ⟨z.1, z.2.same s⟩) h
theorem Errs.are {H : Hp} {c : Nat → Addr} {v : V} : ∀ {js : List Nat} {es : List Addr}, (∀ i ∈ js, i < 26) → Errs H c v js es → Are H c js es
  | _, _, _, .nil => .nil
  | _, _, k, .cons a t => .cons ⟨k _ (List.mem_cons_self ..), a.isErr⟩ (Errs.are (fun i hi => k i (List.mem_cons_of_mem _ hi)) t)
theorem upd_keeps {H H' : Hp} {D : Addr} {o : HO} (n : H D = none) (s : Same H H') : Same H (upd H' D o) := fun b x e => by
  rw [upd_ne (ne_of_none e n)]
  exact s _ _ e
section
variable {K : PySem.W.Frag} {c : Nat → Addr} {E : XK} {σ : St} {H : Hp} {Q : VK} {sl : Nat} {q : Addr} {js : List Nat} {es : List Addr}
/-- [_law_code(e) for e in l] -/
theorem codes_ok (hs : σ[sl]? = some (some (.ref q))) (hq : H q = some (.lst (es.map V.ref))) (he : Are H c js es) (h8 : 8 < σ.length) (hl : js.length ≤ 100)
    (k : ∀ (H' : Hp) (D : Addr) (ps : List Addr), Same H H' → H D = none → H' D = some (.lst (ps.map V.ref)) → RowsAt codeOf H' D js ps → Q (.ref D) H') :
    tLc (iList K (tVar sl)) (gName 8) tYes (tCall (spCode c) [] E (tCons (tVar 8) tNil)) [8] σ H Q := by
  have le : es.length = js.length := he.length.symm
  refine ⟨.ref q, hs, q, rfl, ⟨_, .inl (.inl hq)⟩, fun D hD => lc_list (K := K) (a := q) (xs := es.map V.ref)
    (fun n H' => Same H H' ∧ ∃ ps : List Addr, H' D = some (.lst (ps.map V.ref)) ∧ RowsAt codeOf H' D (js.take n) ps) ⟨same_new hD, [], upd_same, .nil⟩ (fun i H' _ h => .inl (.inl (h.1 _ _ hq))) ?_ ?_⟩
  · rintro i x H' hx ⟨sm, ps, hd, hr⟩
    rw [List.getElem?_map] at hx
    obtain ⟨e, hei, rfl⟩ := Option.map_eq_some_iff.mp hx
    obtain ⟨j, hj, hj26, hje⟩ := paired_get he hei
    refine ⟨wipe_own, .ref e, slot_own h8, e, j, rfl, hj26, hje.same sm, fun H2 p s2 np hp => ?_⟩
    have pD : p ≠ D := fun z => by
      rw [z, hd] at np
      cases np
    have lp : ps.length ≤ 100 := by
      have z := hr.length
      rw [List.length_take] at z
      omega
    refine ⟨ps.map V.ref, s2 _ _ hd, by rw [List.length_map]; exact small1000 (by omega), upd_keeps hD (sm.trans s2), ps ++ [p], by rw [upd_same, List.map_append]; rfl, ?_⟩
    rw [List.take_add_one, hj]
    refine Paired.snoc (rows_mono hr fun b o hb z => ?_) ⟨pD, ?_⟩
    · rw [upd_ne hb]
      exact s2 _ _ z
    · rw [upd_ne pD]
      exact hp
  · rintro H' ⟨sm, ps, hd, hr⟩
    rw [List.length_map, le, List.take_length] at hr
    exact k H' D ps sm hD hd hr
/-- [[at] for at in range(23)] -/
theorem range_ok (h9 : 9 < σ.length) (k : ∀ (H' : Hp) (D : Addr) (ps : List Addr), Same H H' → H D = none → H' D = some (.lst (ps.map V.ref)) → RowsAt (fun i => [V.int i]) H' D (List.range 23) ps → Q (.ref D) H') :
    tLc (iRng1 (tCons (tC (.int 23)) tNil)) (gName 9) tYes (tLst (tCons (tVar 9) tNil)) [9] σ H Q := by
  refine ⟨23, rfl, by decide, by decide, fun D hD => lc_range (lo := 0) (n := 23)
    (fun n H' => Same H H' ∧ ∃ ps : List Addr, H' D = some (.lst (ps.map V.ref)) ∧ RowsAt (fun i => [V.int i]) H' D (List.range n) ps) ⟨same_new hD, [], upd_same, .nil⟩ ?_ ?_⟩
  · rintro i H' hi ⟨sm, ps, hd, hr⟩
    refine ⟨wipe_own, _, slot_own h9, by show 1 ≤ sizeLine; exact small_list (by decide), fun p np => ?_⟩
    have pD : p ≠ D := fun z => by
      rw [z, hd] at np
      cases np
    have lp : ps.length = i := by
      have z := hr.length
      rw [List.length_range] at z
      exact z.symm
    refine ⟨ps.map V.ref, by rw [upd_ne (Ne.symm pD)]; exact hd, by rw [List.length_map]; exact small1000 (by omega), upd_keeps hD (sm.trans (same_new np)), ps ++ [p], by rw [upd_same, List.map_append]; rfl, ?_⟩
    rw [List.range_succ]
    refine Paired.snoc (rows_mono hr fun b o hb z => ?_) ⟨pD, ?_⟩
    · rw [upd_ne hb]
      exact same_new np _ _ z
    · rw [upd_ne pD, upd_same, Int.zero_add]
  · rintro H' ⟨sm, ps, hd, hr⟩
    exact k H' D ps sm hD hd hr
/-- [e for e in l if ..], the test never holds -/
theorem none_kept {tt : TT} (hs : σ[sl]? = some (some (.ref q))) (hq : H q = some (.lst (es.map V.ref))) (h8 : 8 < σ.length)
    (ht : ∀ (e : Addr) (i : Nat) (D : Addr) (R : Bool → Hp → Prop), es[i]? = some e → H D = none → R false (upd H D (.lst [])) → tt ((wipe σ [8]).set 8 (some (.ref e))) (upd H D (.lst [])) R)
    (k : ∀ D : Addr, H D = none → Q (.ref D) (upd H D (.lst []))) : tLc (iList K (tVar sl)) (gName 8) tt (tVar 8) [8] σ H Q := by
  refine ⟨.ref q, hs, q, rfl, ⟨_, .inl (.inl hq)⟩, fun D hD => lc_list (K := K) (a := q) (xs := es.map V.ref)
    (fun n H' => H' = upd H D (.lst [])) rfl (fun i H' _ h => ?_) ?_ ?_⟩
  · rw [h]
    exact .inl (.inl (same_new hD _ _ hq))
  · rintro i x H' hx rfl
    rw [List.getElem?_map] at hx
    obtain ⟨e, hei, rfl⟩ := Option.map_eq_some_iff.mp hx
    exact ⟨wipe_own, ht e i D _ hei hD (ifF rfl rfl)⟩
  · rintro H' rfl
    exact k D hD
end
/-- l != [] is False for a new empty list -/
theorem eqv_same {d : PyData} (h : SeqAt.shaped d = true) : PyData.eqv d d = true := SeqAt.eqv_refl d (SeqAt.canLay_of_shaped h)
theorem codes23 : (all23.map fun i => PyData.list (codeD i)) = (List.range 23).map fun i : Nat => PyData.list [.int (i : Int)] := by rfl
theorem shaped23 : SeqAt.shaped (.list ((List.range 23).map fun i : Nat => PyData.list [.int (i : Int)])) = true := by decide +kernel
end Eld
end L2

set_option Elab.async false
set_option linter.all false
set_option maxRecDepth 100000
set_option maxHeartbeats 8000000
/-! ## the law -/
namespace L2
namespace Eld
open PySem PySem.Spec PyProof.Rows PySem.EldX
abbrev sLaw : Stmt := topS 39
abbrev lawN : List Str := ["_law_script", "_law_purse_here", "_law_word_here", "_law_thing", "_law_noted", "_law_some", "_law_bare_here", "_law_rest", "_law_error", "_law_at"]
theorem scLaw : FnScope lawN ["_law_script"] (defScope sLaw) := ⟨rfl, rfl, rfl, by decide +kernel, rfl, by decide +kernel, by decide +kernel⟩
def spLaw (K : PySem.W.Frag) : Sp := fun vs H Q _ => ∃ (a : Addr) (ns : List Int), vs = [.ref a] ∧ SqL K H a (ns.map V.int) ∧ ns.length ≤ 63 ∧ ∀ H', Q (.bl true) H'
theorem seq_if {r : R2} {ta tb : TE} {t v : TS} {D : Ends} {σ : St} {H : Hp} (h : ta σ H fun x H1 => tb σ H1 fun y H2 => r x y H2 fun z H3 => ∃ k, z = .bl k ∧ if k = true then t { D with nx := v D } σ H3 else v D σ H3) :
    tSeq (tIfS (tTest (tOp r ta tb)) t tNext) v D σ H := h
theorem seq_or {t : TT} {u : TT} {a v : TS} {D : Ends} {σ : St} {H : Hp} (h : t σ H fun k H1 => if k = true then (if true = true then a { D with nx := v D } σ H1 else v D σ H1) else u σ H1 fun k H2 => if k = true then a { D with nx := v D } σ H2 else v D σ H2) :
    tSeq (tIfS (tOr t u) a tNext) v D σ H := h
theorem test_op {r : R2} {ta tb : TE} {σ : St} {H : Hp} {Q : Bool → Hp → Prop} (h : ta σ H fun x H1 => tb σ H1 fun y H2 => r x y H2 fun z H3 => ∃ k, z = .bl k ∧ Q k H3) : tTest (tOp r ta tb) σ H Q := h
theorem seq_drop {te : TE} {u : TS} {D : Ends} {σ : St} {H : Hp} (h : te σ H fun _ H1 => u D σ H1) : tSeq (tDrop te) u D σ H := h
theorem ne_same {K : PySem.W.Frag} {H : Hp} {x y : V} {d : PyData} {A B : Prop} (hx : Dp K H x d) (hy : Dp K H y d) (hs : SeqAt.shaped d = true) (h : B) : rNeD K x y H fun z _ => ∃ k, z = .bl k ∧ if k = true then A else B :=
  ⟨d, d, hx, hy, hs, hs, _, rfl, ifF (by rw [eqv_same hs]; rfl) h⟩
theorem errs_upd {H : Hp} {c : Nat → Addr} {v : V} {t : Addr} {xs : List V} {o : HO} (ht : H t = some (.lst xs)) : ∀ {js : List Nat} {es : List Addr}, Errs H c v js es → Errs (upd H t o) c v js es
  | _, _, .nil => .nil
  | _, _, .cons ⟨d, h1, h2⟩ b => by
    refine .cons ⟨d, ?_, ?_⟩ (errs_upd ht b)
    · rw [upd_ne fun z => by rw [z, ht] at h1; cases (show HO.lst xs = HO.ext _ from Option.some.inj h1)]
      exact h1
    · rw [upd_ne fun z => by rw [z, ht] at h2; cases (show HO.lst xs = HO.ext _ from Option.some.inj h2)]
      exact h2
/-- the list of errors at q -/
structure Lst (H : Hp) (c : Nat → Addr) (v : V) (q : Addr) (es : List Addr) : Prop where
  at_ : H q = some (.lst (es.map V.ref))
  er : Errs H c v all23 es
theorem Lst.same {H H' : Hp} {c : Nat → Addr} {v : V} {q : Addr} {es : List Addr} (h : Lst H c v q es) (s : Same H H') : Lst H' c v q es := ⟨s _ _ h.at_, h.er.same s⟩
theorem lt23 : ∀ i ∈ all23, i < 26 := by decide
theorem lt23' : ∀ i ∈ all23, i < 23 := by decide
theorem rows_dp {K : PySem.W.Frag} {H H' : Hp} {D : Addr} {ps : List Addr} (hd : H D = some (.lst (ps.map V.ref))) (hr : RowsAt codeOf H D all23 ps) (s : Same H H') : Dp K H' (.ref D) (.list ((List.range 23).map fun i : Nat => PyData.list [.int (i : Int)])) := by
  rw [← codes23]
  exact .lst (.inl (.inl (s _ _ hd))) (rows_data (fun i => code_data i) (rows_mono hr fun b o _ z => s _ _ z))
theorem range_dp {K : PySem.W.Frag} {H : Hp} {D : Addr} {ps : List Addr} (hd : H D = some (.lst (ps.map V.ref))) (hr : RowsAt (fun i => [V.int i]) H D (List.range 23) ps) : Dp K H (.ref D) (.list ((List.range 23).map fun i : Nat => PyData.list [.int (i : Int)])) :=
  .lst (.inl (.inl hd)) (rows_data (g := fun i : Nat => [PyData.int (i : Int)]) (fun i => .cons (.int _) .nil) hr)
theorem nil_dp {K : PySem.W.Frag} {H : Hp} {D : Addr} (h : H D = some (.lst [])) : Dp K H (.ref D) (.list []) := .lst (.inl (.inl h)) .nil
theorem shaped0 : SeqAt.shaped (.list []) = true := by decide +kernel
section
variable {P : Program} {w : World} {K : PySem.W.Frag} {mg : Str → Option Value} {base : Heap} {c : Nat → Addr}
structure Defs (K : PySem.W.Frag) (mg : Str → Option Value) (fPu fMi fDr fPs fOn fWo fFi fNa fBa fCo fIs : Addr) (dPu dMi dDr dPs dOn dWo dFi dNa dBa dCo dIs : FuncData) : Prop where
  pu : Fun K "_law_purse" "_law_purse" sPurse fPu dPu
  mi : Fun K "_law_mixed" "_law_mixed" sMixed fMi dMi
  dr : Fun K "_law_draw" "_law_draw" sDraw fDr dDr
  ps : Fun K "_law_purses" "_law_purses" sPurses fPs dPs
  on : Fun K "_law_one_of" "_law_one_of" sOneOf fOn dOn
  wo : Fun K "_law_word" "_law_word" sWord fWo dWo
  fi : Fun K "_law_first" "_law_first" sFirst fFi dFi
  na : Fun K "_law_named" "_law_named" sNamed fNa dNa
  ba : Fun K "_law_bare" "_law_bare" sBare fBa dBa
  co : Fun K "_law_code" "_law_code" sCode fCo dCo
  is : Fun K "_law_is_error" "_law_is_error" sIsError fIs dIs
  gpu : mg "_law_purse" = some (.ref fPu)
  gmi : mg "_law_mixed" = some (.ref fMi)
  gdr : mg "_law_draw" = some (.ref fDr)
  gps : mg "_law_purses" = some (.ref fPs)
  gon : mg "_law_one_of" = some (.ref fOn)
  gwo : mg "_law_word" = some (.ref fWo)
  gfi : mg "_law_first" = some (.ref fFi)
  gna : mg "_law_named" = some (.ref fNa)
  gba : mg "_law_bare" = some (.ref fBa)
  gco : mg "_law_code" = some (.ref fCo)
  gis : mg "_law_is_error" = some (.ref fIs)
/-- the built-ins' names are free -/
structure Blt (mg : Str → Option Value) : Prop where
  sum : mg "sum" = none
  max : mg "max" = none
  min : mg "min" = none
  range : mg "range" = none
  len : mg "len" = none
  isi : mg "isinstance" = none
  ve : mg "ValueError" = none
  repr : mg "repr" = none
  list : mg "list" = none
theorem ok_law {fPu fMi fDr fPs fOn fWo fFi fNa fBa fCo fIs f : Addr} {dPu dMi dDr dPs dOn dWo dFi dNa dBa dCo dIs fd : FuncData} (F : Fun K "law" "law" sLaw f fd) (L : Defs K mg fPu fMi fDr fPs fOn fWo fFi fNa fBa fCo fIs dPu dMi dDr dPs dOn dWo dFi dNa dBa dCo dIs)
    (B : Blt mg) (T : ErrTop K mg c) : FnG P w K mg base CX0 4 f fd ["_law_script"] (spLaw K) := by
  have GPs : FnOk P w K mg base CX0 2 fPs dPs ["_law_script", "_law_few"] (spPurses K) := ok_purses L.ps L.pu L.gpu B.range B.max B.min B.len B.sum
  have GOn : FnOk P w K mg base CX0 3 fOn dOn ["_law_purse_here", "_law_some"] (spOneOf K) := ok_oneOf L.on L.dr L.mi L.gdr L.gmi B.range B.len
  have GWo : FnOk P w K mg base CX0 3 fWo dWo ["_law_purse_here"] spWord := ok_word L.wo L.dr L.mi L.gdr L.gmi B.range
  have GFi : FnOk P w K mg base CX0 2 fFi dFi ["_law_thing"] (spErrs c) := ok_first L.fi T
  have GNa : FnOk P w K mg base CX0 2 fNa dNa ["_law_thing"] (spErrs c) := ok_named L.na T
  have GBa : FnOk P w K mg base CX0 2 fBa dBa [] (spBare c) := ok_bare L.ba T
  have GCo : FnOk P w K mg base CX0 2 fCo dCo ["_law_error"] (spCode c) := ok_code L.co T B.isi B.range B.len
  have GIs : FnOk P w K mg base CX0 1 fIs dIs ["_law_error"] (spIsErr c) := ok_isError L.is T B.isi B.ve
  have bPs : Binds K dPs ["_law_script", "_law_few"] [] := L.ps.binds fun _ _ _ _ _ _ us hl => match us, hl with | [_, _], _ => rfl
  have bOn : Binds K dOn ["_law_purse_here", "_law_some"] [] := L.on.binds fun _ _ _ _ _ _ us hl => match us, hl with | [_, _], _ => rfl
  have bWo : Binds K dWo ["_law_purse_here"] [] := L.wo.binds fun _ _ _ _ _ _ us hl => match us, hl with | [_], _ => rfl
  have bFi : Binds K dFi ["_law_thing"] [] := L.fi.binds fun _ _ _ _ _ _ us hl => match us, hl with | [_], _ => rfl
  have bNa : Binds K dNa ["_law_thing"] [] := L.na.binds fun _ _ _ _ _ _ us hl => match us, hl with | [_], _ => rfl
  have bBa : Binds K dBa [] [] := L.ba.binds fun _ _ _ _ _ _ us hl => match us, hl with | [], _ => rfl
  have bCo : Binds K dCo ["_law_error"] [] := L.co.binds fun _ _ _ _ _ _ us hl => match us, hl with | [_], _ => rfl
  have bIs : Binds K dIs ["_law_error"] [] := L.is.binds fun _ _ _ _ _ _ us hl => match us, hl with | [_], _ => rfl
  refine FunG F scLaw (fun vs H Q E h => ?_) (fun cdv A outer s H vs Q E hG hr h => ?_)
  · obtain ⟨a, ns, rfl, _⟩ := h
    rfl
  · obtain ⟨a, ns, rfl, hS, hn, q⟩ := h
    have hr2 : Room 2 _ := hr.mono (by decide)
    have hr1 : Room 1 _ := hr.mono (by decide)
    refine ⟨_, pss_cons (ps_for PassesOwn.never rfl (pi_list (pe_call GPs hr2 (by rfl) L.gps L.ps.kp bPs .nil pass0 (pa_cons (pv 0) (pa_cons pe_int pa_nil)))) (pg_name (i := 1) scLaw.nd rfl (.inl rfl))
        (pss_cons (ps_set (i := 2) scLaw.nd rfl (.inl rfl) (pe_call GWo hr (by rfl) L.gwo L.wo.kp bWo .nil pass0 (pa_cons (pv 1) pa_nil)))
        (pss_cons (ps_set (i := 3) scLaw.nd rfl (.inr rfl) (pe_call GOn hr (by rfl) L.gon L.on.kp bOn .nil pass0 (pa_cons (pv 1) (pa_cons (pe_lst
          (pa_cons (pe_lst (pa_cons (pv 2) pa_nil)) (pa_cons (pe_disp (pps_cons (pv 2) (pe_lst (pa_cons (pv 2) pa_nil)) pps_nil) (by rfl) (by rfl) (fun z => by cases z) (by decide))
          (pa_cons (pe_tup (pa_cons (pv 2) (pa_cons pe_int pa_nil))) (pa_cons (pv 2) (pa_cons pe_non (pa_cons pe_bl
          (pa_cons (pe_lst (pa_cons pe_dnewK pa_nil)) (pa_cons (pe_lst (pa_cons (pe_lst (pa_cons (pv 2) (pa_cons (pe_tup pa_nil) pa_nil))) pa_nil)) pa_nil))))))))) pa_nil))))
        (pss_cons (ps_set (i := 4) scLaw.nd rfl (.inr rfl) (pe_callB (call_repr hG hr) (by rfl) B.repr (by decide +kernel) (pa_cons (pv 3) pa_nil)))
        (pss_one (ps_for PassesOwn.never rfl (pi_tup (pe_tup (pa_cons (pe_call GFi hr2 (by rfl) L.gfi L.fi.kp bFi .nil pass0 (pa_cons (pv 3) pa_nil)) (pa_cons (pe_call GNa hr2 (by rfl) L.gna L.na.kp bNa .nil pass0 (pa_cons (pv 3) pa_nil)) pa_nil))))
            (pg_name (i := 5) scLaw.nd rfl (.inl rfl))
          (pss_cons (ps_if (pt_cmpR (op_neD hr.units)
              (pe_lc (own := [("_law_error", 8)]) (g := gName 8) (tt := tYes) rfl scLaw.nd (pi_list (pv 5)) (blkOk_by (own := [("_law_error", 8)]) (N := lawN) (sc := defScope sLaw) (by decide +kernel))
                (fun _ _ _ _ _ => pg_name (i := 8) scLaw.nd rfl (.inl rfl)) (fun _ _ _ _ _ => pts_nil) (fun _ _ _ _ _ => pe_call GCo hr2 (by rfl) L.gco L.co.kp bCo .nil pass0 (pa_cons (pv 8) pa_nil)))
              (pe_lc (own := [("_law_at", 9)]) (g := gName 9) (tt := tYes) rfl scLaw.nd (pi_range1 rfl B.range (pa_cons pe_int pa_nil)) (blkOk_by (own := [("_law_at", 9)]) (N := lawN) (sc := defScope sLaw) (by decide +kernel))
                (fun _ _ _ _ _ => pg_name (i := 9) scLaw.nd rfl (.inl rfl)) (fun _ _ _ _ _ => pts_nil) (fun _ _ _ _ _ => pe_lst (pa_cons (pv 9) pa_nil))) (nomark _)) (pss_one (ps_ret pe_bl)) pss_nil)
          (pss_cons (ps_if (pt_cmpR (op_neD hr.units)
              (pe_lc (own := [("_law_error", 8)]) (g := gName 8)
                (tt := tOr (tNot (tB (tCall (spIsErr c) [] (fun _ _ _ => False) (tCons (tVar 8) tNil)))) (tTest (tOp rNe (tCB (rRepr K) (tCons (fun σ H Q => tVar 8 σ H fun x H1 => ∃ (e C d : Addr) (v : V), x = .ref e ∧ ErrC K C ∧ ErrI K C ∧ H1 e = some (exo e C (some d)) ∧ H1 d = some (exd d (fld v)) ∧ Q v H1) tNil)) (tVar 4))))
                rfl scLaw.nd (pi_list (pv 5)) (blkOk_by (own := [("_law_error", 8)]) (N := lawN) (sc := defScope sLaw) (by decide +kernel))
                (fun _ _ _ _ _ => pg_name (i := 8) scLaw.nd rfl (.inl rfl))
                (fun _ _ _ _ _ => pts_one (PW.pt (pw_or (pt_not (pt_val (pe_call GIs hr1 (by rfl) L.gis L.is.kp bIs .nil pass0 (pa_cons (pv 8) pa_nil))))
                  (pw_or1 (pt_cmpR op_ne (pe_callB (call_repr hG hr) (by rfl) B.repr (by decide +kernel) (pa_cons (pe_value rfl (pv 8)) pa_nil)) (pv 4) (nomark _))))))
                (fun _ _ _ _ _ => pv 8)) (pe_lst pa_nil) (nomark _)) (pss_one (ps_ret pe_bl)) pss_nil)
          (pss_one (ps_if (pt_val (pe_callB call_isi (by rfl) B.isi (by decide +kernel) (pa_cons (pv 3) (pa_cons (pe_bltn (v := .ty "list") rfl B.list (by decide +kernel) rfl) pa_nil))))
            (pss_cons (ps_expr (pe_bm PySem.F.plainAttrs_list PySem.F.slot_list_append PySem.F.type_list_append mt_append (pv 3) (pa_cons pe_str pa_nil)))
            (pss_cons (ps_if (pt_cmpR (op_neD hr.units)
              (pe_lc (own := [("_law_error", 8)]) (g := gName 8)
                (tt := tTest (tOp rNe (tCB (rRepr K) (tCons (fun σ H Q => tVar 8 σ H fun x H1 => ∃ (e C d : Addr) (v : V), x = .ref e ∧ ErrC K C ∧ ErrI K C ∧ H1 e = some (exo e C (some d)) ∧ H1 d = some (exd d (fld v)) ∧ Q v H1) tNil)) (tCB (rRepr K) (tCons (tVar 3) tNil))))
                rfl scLaw.nd (pi_list (pv 5)) (blkOk_by (own := [("_law_error", 8)]) (N := lawN) (sc := defScope sLaw) (by decide +kernel))
                (fun _ _ _ _ _ => pg_name (i := 8) scLaw.nd rfl (.inl rfl))
                (fun _ _ _ _ _ => pts_one (pt_cmpR op_ne (pe_callB (call_repr hG hr) (by rfl) B.repr (by decide +kernel) (pa_cons (pe_value rfl (pv 8)) pa_nil)) (pe_callB (call_repr hG hr) (by rfl) B.repr (by decide +kernel) (pa_cons (pv 3) pa_nil)) (nomark _)))
                (fun _ _ _ _ _ => pv 8)) (pe_lst pa_nil) (nomark _)) (pss_one (ps_ret pe_bl)) pss_nil)
            (pss_one (ps_expr (pe_bm0 PySem.F.plainAttrs_list PySem.F.slot_list_pop PySem.F.type_list_pop mt_pop (pv 3)))))) pss_nil))))))))))
      (pss_cons (ps_set (i := 6) scLaw.nd rfl (.inl rfl) (pe_call0 GBa hr2 (by rfl) L.gba L.ba.kp bBa .nil pass0))
      (pss_cons (ps_if (pt_cmpR (op_neD hr.units)
              (pe_lc (own := [("_law_error", 8)]) (g := gName 8) (tt := tYes) rfl scLaw.nd (pi_list (pv 6)) (blkOk_by (own := [("_law_error", 8)]) (N := lawN) (sc := defScope sLaw) (by decide +kernel))
                (fun _ _ _ _ _ => pg_name (i := 8) scLaw.nd rfl (.inl rfl)) (fun _ _ _ _ _ => pts_nil) (fun _ _ _ _ _ => pe_call GCo hr2 (by rfl) L.gco L.co.kp bCo .nil pass0 (pa_cons (pv 8) pa_nil)))
              (pe_lc (own := [("_law_at", 9)]) (g := gName 9) (tt := tYes) rfl scLaw.nd (pi_range1 rfl B.range (pa_cons pe_int pa_nil)) (blkOk_by (own := [("_law_at", 9)]) (N := lawN) (sc := defScope sLaw) (by decide +kernel))
                (fun _ _ _ _ _ => pg_name (i := 9) scLaw.nd rfl (.inl rfl)) (fun _ _ _ _ _ => pts_nil) (fun _ _ _ _ _ => pe_lst (pa_cons (pv 9) pa_nil))) (nomark _)) (pss_one (ps_ret pe_bl)) pss_nil)
      (pss_cons (ps_if (pt_cmpR (op_neD hr.units)
              (pe_lc (own := [("_law_error", 8)]) (g := gName 8)
                (tt := tOr (tTest (tOp (fun x y H Q => y = .non ∧ Q (.bl (!decide (x = .non))) H) (fun σ H Q => tVar 8 σ H fun x H1 => ∃ (e C d : Addr) (v : V), x = .ref e ∧ ErrC K C ∧ ErrI K C ∧ H1 e = some (exo e C (some d)) ∧ H1 d = some (exd d (fld v)) ∧ Q v H1) (tC .non))) (tNot (tB (tCall (spIsErr c) [] (fun _ _ _ => False) (tCons (tVar 8) tNil)))))
                rfl scLaw.nd (pi_list (pv 6)) (blkOk_by (own := [("_law_error", 8)]) (N := lawN) (sc := defScope sLaw) (by decide +kernel))
                (fun _ _ _ _ _ => pg_name (i := 8) scLaw.nd rfl (.inl rfl))
                (fun _ _ _ _ _ => pts_one (PW.pt (pw_or (pt_cmpR op_notN (pe_value rfl (pv 8)) pe_non (nomark _)) (pw_or1 (pt_not (pt_val (pe_call GIs hr1 (by rfl) L.gis L.is.kp bIs .nil pass0 (pa_cons (pv 8) pa_nil))))))))
                (fun _ _ _ _ _ => pv 8)) (pe_lst pa_nil) (nomark _)) (pss_one (ps_ret pe_bl)) pss_nil)
      (pss_cons (ps_set (i := 7) scLaw.nd rfl (.inl rfl) (pe_lst (pa_cons (pe_errN PySem.F.excBase_ValueError (T.ex 23 (by decide) (by decide)) (T.cl 23 (by decide)).kp (T.g 23 (by decide)))
        (pa_cons (pe_errN PySem.F.excBase_ValueError (T.ex 24 (by decide) (by decide)) (T.cl 24 (by decide)).kp (T.g 24 (by decide))) pa_nil))))
      (pss_cons (ps_if (PW.pt (pw_or (pt_cmpR (op_neD hr.units)
              (pe_lc (own := [("_law_error", 8)]) (g := gName 8) (tt := tYes) rfl scLaw.nd (pi_list (pv 7)) (blkOk_by (own := [("_law_error", 8)]) (N := lawN) (sc := defScope sLaw) (by decide +kernel))
                (fun _ _ _ _ _ => pg_name (i := 8) scLaw.nd rfl (.inl rfl)) (fun _ _ _ _ _ => pts_nil) (fun _ _ _ _ _ => pe_call GCo hr2 (by rfl) L.gco L.co.kp bCo .nil pass0 (pa_cons (pv 8) pa_nil)))
              (pe_lst (pa_cons (pe_lst (pa_cons pe_int pa_nil)) (pa_cons (pe_lst (pa_cons pe_int pa_nil)) pa_nil))) (nomark _))
            (pw_or (pt_not (pt_val (pe_call GIs hr1 (by rfl) L.gis L.is.kp bIs .nil pass0 (pa_cons (pe_ix ix_list (pv 7) pe_int (fun _ _ => rfl)) pa_nil))))
            (pw_or1 (pt_not (pt_val (pe_call GIs hr1 (by rfl) L.gis L.is.kp bIs .nil pass0 (pa_cons (pe_ix ix_list (pv 7) pe_int (fun _ _ => rfl)) pa_nil)))))))) (pss_one (ps_ret pe_bl)) pss_nil)
      (pss_one (ps_ret (pe_and (pe_call GIs hr1 (by rfl) L.gis L.is.kp bIs .nil pass0 (pa_cons (pe_errN PySem.F.excBase_ValueError (T.ex 25 (by decide) (by decide)) (T.cl 25 (by decide)).kp (T.g 25 (by decide))) pa_nil))
        (pe_one (pe_cmpR (op_eqD hr.units) (pe_call GCo hr2 (by rfl) L.gco L.co.kp bCo .nil pass0 (pa_cons (pe_errN PySem.F.excBase_ValueError (T.ex 25 (by decide) (by decide)) (T.cl 25 (by decide)).kp (T.g 25 (by decide))) pa_nil)) (pe_lst pa_nil) (nomark _))))))))))), ?_⟩
    -- the purses
    refine ⟨.ref a, rfl, a, ns, 3, rfl, hS, hn, ⟨by decide, by decide⟩, fun H1 pl ps sm1 npl hpl hps nd hlen => ?_⟩
    refine ⟨pl, rfl, ⟨_, .inl (.inl hpl)⟩, for_list (K := K) (a := pl) (xs := ps.map V.ref)
      (fun i σ H' => ∃ s1 s2 s3 s4 s5 s6 s7 s8 s9 : Option V, σ = [some (.ref a), s1, s2, s3, s4, s5, s6, s7, s8, s9] ∧ H' pl = some (.lst (ps.map V.ref)) ∧ ∀ x ∈ ps.drop i, PurseAt H' x 0)
      ⟨_, _, _, _, _, _, _, _, _, rfl, hpl, fun x hx => (hps x hx).2.2⟩ (fun i σ H' _ h => ?_) ?_ ?_⟩
    · obtain ⟨_, _, _, _, _, _, _, _, _, _, h, _⟩ := h
      exact .inl (.inl h)
    · -- one purse
      rintro i x σ G0 hx ⟨s1, s2, s3, s4, s5, s6, s7, s8, s9, rfl, hl0, hrest⟩
      rw [List.getElem?_map] at hx
      obtain ⟨p, hpi, rfl⟩ := Option.map_eq_some_iff.mp hx
      have hpin : p ∈ ps := List.mem_of_getElem? hpi
      have hpp : p ≠ pl := (hps p hpin).2.1
      have hdrop : ps.drop i = p :: ps.drop (i + 1) := by
        obtain ⟨hi, e⟩ := List.getElem?_eq_some_iff.mp hpi
        rw [List.drop_eq_getElem_cons hi, e]
      have hP0 : PurseAt G0 p 0 := hrest p (by rw [hdrop]; exact List.mem_cons_self ..)
      have hother : ∀ y ∈ ps.drop (i + 1), y ≠ p := fun y hy e => by
        have n2 := nd.sublist (List.drop_sublist i ps)
        rw [hdrop] at n2
        exact (List.nodup_cons.mp n2).1 (e ▸ hy)
      -- the word
      refine ⟨.ref p, rfl, p, 0, rfl, hP0, by decide, fun H2 wd hB2 hP2 hW => ?_⟩
      -- the thing
      refine ⟨.ref p, rfl, ?_⟩
      refine cons_e ?_
      refine eight (K := K) (s := 2) hW rfl fun H3 xs s23 l8 th => ?_
      refine ⟨by rw [l8]; exact small_list (by decide), fun l nl => ?_⟩
      have hP3 : PurseAt (upd H3 l (.lst xs)) p (0 + 440) := (hP2.same s23).same (same_new nl)
      have lp : l ≠ p := fun z => by
        obtain ⟨o, e⟩ := (hP2.same s23).some
        rw [z, e] at nl
        cases nl
      refine ⟨p, l, xs, _, rfl, hP3, by decide, .inl (.inl upd_same), lp, by rw [l8]; decide, by rw [l8]; decide, fun H4 ix x hB4 hP4 hix => ?_⟩
      have hxm : x ∈ xs := List.mem_of_getElem? hix
      have n34 : New H2 H3 H4 := fun b o n e => by
        have bp : b ≠ p := fun z => by
          obtain ⟨o2, e2⟩ := hP2.some
          rw [z, e2] at n
          cases n
        rw [hB4 b bp, upd_ne (ne_of_none e nl)]
        exact e
      have th4 : Thing K H2 H4 x := (th x hxm).new n34
      -- what of the purses is left
      have keep4 : ∀ b o, b ≠ p → G0 b = some o → H4 b = some o := fun b o hb e => by
        have e2 : H2 b = some o := (hB2 b hb).trans e
        have e3 := s23 _ _ e2
        rw [hB4 b hb, upd_ne (ne_of_none e3 nl)]
        exact e3
      obtain ⟨d, shw, hd, hkind⟩ := th4
      -- its text
      refine ⟨_, rfl, x, d, rfl, hd H4 (Same.new (Same.refl H4)), shw.s, shw.z, shw.d, ?_⟩
      -- both lists of errors
      refine ⟨x, rfl, x, rfl, fun H5 p5 h5 => ?_⟩
      refine ⟨x, rfl, x, rfl, fun H6 p6 h6 => ?_⟩
      refine ⟨by show 2 ≤ sizeLine; exact small_list (by decide), fun tp ntp => ?_⟩
      have s45 := h5.sm
      have s56 := h6.sm
      have s67 : Same H6 (upd H6 tp (.tup [.ref p5, .ref p6])) := same_new ntp
      have htp : (upd H6 tp (.tup [.ref p5, .ref p6])) tp = some (.tup [.ref p5, .ref p6]) := upd_same
      have l5 : ∃ es, Lst (upd H6 tp (.tup [.ref p5, .ref p6])) c x p5 es := by
        obtain ⟨es, e1, e2⟩ := h5.es
        exact ⟨es, (Lst.same ⟨e1, e2⟩ s56).same s67⟩
      have l6 : ∃ es, Lst (upd H6 tp (.tup [.ref p5, .ref p6])) c x p6 es := by
        obtain ⟨es, e1, e2⟩ := h6.es
        exact ⟨es, Lst.same ⟨e1, e2⟩ s67⟩
      have n5 : H4 p5 = none := h5.new
      have n6 : H4 p6 = none := none_of_same s45 h6.new
      have s47 : Same H4 (upd H6 tp (.tup [.ref p5, .ref p6])) := (s45.trans s56).trans s67
      generalize upd H6 tp (.tup [.ref p5, .ref p6]) = H7 at htp l5 l6 s47 ⊢
      refine ⟨tp, rfl, ⟨_, .inl (.inl htp)⟩, for_tup (K := K) (a := tp) (xs := [.ref p5, .ref p6])
        (fun j σ H' => ∃ t5 t6 t7 t8 t9 : Option V, σ = [some (.ref a), some (.ref p), some (.str wd), some x, some (.str d.shown), t5, t6, t7, t8, t9] ∧ Same H7 H')
        ⟨_, _, _, _, _, rfl, Same.refl H7⟩ (fun j σ H' _ h => ?_) ?_ ?_⟩
      · obtain ⟨_, _, _, _, _, _, h⟩ := h
        exact .inl (.inl (h _ _ htp))
      · -- one list of errors
        rintro j y σ G hy ⟨t5, t6, t7, t8, t9, rfl, s7G⟩
        have hq : ∃ (q : Addr) (es : List Addr), y = .ref q ∧ H4 q = none ∧ Lst H7 c x q es := by
          match j, hy with
          | 0, hy =>
            obtain ⟨es, h⟩ := l5
            exact ⟨p5, es, (Option.some.inj hy).symm, n5, h⟩
          | 1, hy =>
            obtain ⟨es, h⟩ := l6
            exact ⟨p6, es, (Option.some.inj hy).symm, n6, h⟩
          | j + 2, hy => simp at hy
        obtain ⟨lq, es, rfl, nq, hL7⟩ := hq
        have hLG := hL7.same s7G
        -- of which classes they are
        refine seq_if ?_
        refine codes_ok (js := all23) (es := es) rfl hLG.at_ (hLG.er.are lt23) (by show 8 < 10; decide) (by decide) fun H8 D8 ps8 s8 n8 hd8 hr8 => ?_
        refine range_ok (by show 9 < 10; decide) fun H9 D9 ps9 s9' n9 hd9 hr9 => ?_
        refine ne_same (rows_dp hd8 hr8 s9') (range_dp hd9 hr9) shaped23 ?_
        have sG9 := s8.trans s9'
        have hL9 := hLG.same sG9
        have s49 : Same H4 H9 := (s47.trans s7G).trans sG9
        -- their fields
        refine seq_if ?_
        refine none_kept (es := es) rfl hL9.at_ (by show 8 < 10; decide) (fun e ie D R he nD hR => ?_) fun D nD => ?_
        · obtain ⟨je, hje, hE⟩ := paired_get hL9.er he
          have hje23 : je ∈ all23 := List.mem_of_getElem? hje
          have sD : Same H9 (upd H9 D (.lst [])) := same_new nD
          have hE' := hE.same sD
          refine ⟨_, slot_own (by show 8 < 10; decide), e, je, rfl, lt23 _ hje23, hE'.isErr, true, rfl, ifF rfl ?_⟩
          obtain ⟨dd, e1, e2⟩ := hE'
          refine ⟨_, slot_own (by show 8 < 10; decide), e, c je, dd, x, rfl, T.cl je (lt23 _ hje23), T.it je (lt23' _ hje23), e1, e2, ?_⟩
          refine ⟨x, d, rfl, hd _ (Same.new (s49.trans sD)), shw.s, shw.z, shw.d, ?_⟩
          exact ⟨_, (slot_other (by decide)).trans rfl, rfl, _, rfl, by rw [decide_eq_true rfl]; exact hR⟩
        refine ⟨Nat.zero_le _, fun D2 nD2 => ?_⟩
        have s9D : Same H9 (upd H9 D (.lst [])) := same_new nD
        have sDD : Same (upd H9 D (.lst [])) (upd (upd H9 D (.lst [])) D2 (.lst [])) := same_new nD2
        refine ne_same (nil_dp (sDD _ _ upd_same)) (nil_dp upd_same) shaped0 ?_
        have s9X := s9D.trans sDD
        generalize upd (upd H9 D (.lst [])) D2 (.lst []) = H10 at s9X ⊢
        have hL10 := hL9.same s9X
        have s410 : Same H4 H10 := s49.trans s9X
        have s710 : Same H7 H10 := (s7G.trans sG9).trans s9X
        -- a list grows behind their back
        rcases hkind with ⟨ty, hty, hkit⟩ | ⟨t, xs', d', rfl, nt, ht4, hlx, shw', hd'⟩
        · refine ⟨x, rfl, x, .ty "list", ty, .type "list", false, rfl, .ty _, hty _ (Same.new s410), hkit, false, rfl, ifF rfl ?_⟩
          exact ⟨_, _, _, _, _, rfl, s710⟩
        · have ht10 : H10 t = some (.lst xs') := s410 _ _ ht4
          refine ⟨.ref t, rfl, .ref t, .ty "list", .type "list", .type "list", true, rfl, .ty _, .base (.lst ht10), kit_ty (by decide +kernel), true, rfl, ifT rfl ?_⟩
          refine seq_drop ?_
          refine ⟨.ref t, rfl, .inl ⟨rfl, _, .inl (.inl ht10)⟩, t, xs', lat, rfl, rfl, ht10, small1000 (by omega), ?_⟩
          have tq : lq ≠ t := fun z => by
            rw [z, ht4] at nq
            cases nq
          have hLA : Lst (upd H10 t (.lst (xs' ++ [lat]))) c (.ref t) lq es := ⟨by rw [upd_ne tq]; exact hL10.at_, errs_upd ht10 hL10.er⟩
          have hA : ∀ b o, b ≠ t → H10 b = some o → (upd H10 t (.lst (xs' ++ [lat]))) b = some o := fun b o hb e => by
            rw [upd_ne hb]
            exact e
          have hAt : (upd H10 t (.lst (xs' ++ [lat]))) t = some (.lst (xs' ++ [lat])) := upd_same
          generalize upd H10 t (.lst (xs' ++ [lat])) = HA at hLA hA hAt ⊢
          refine seq_if ?_
          refine none_kept (es := es) rfl hLA.at_ (by show 8 < 10; decide) (fun e ie D R he nD hR => ?_) fun D nD => ?_
          · obtain ⟨je, hje, hE⟩ := paired_get hLA.er he
            have hje23 : je ∈ all23 := List.mem_of_getElem? hje
            have sD : Same HA (upd HA D (.lst [])) := same_new nD
            obtain ⟨dd, e1, e2⟩ := hE.same sD
            have dq : Dq K (upd HA D (.lst [])) (.ref t) d' := hd' _ (fun b o _ hb z => sD _ _ (hA _ _ hb (s410 _ _ z))) (sD _ _ hAt)
            refine ⟨_, slot_own (by show 8 < 10; decide), e, c je, dd, .ref t, rfl, T.cl je (lt23 _ hje23), T.it je (lt23' _ hje23), e1, e2, ?_⟩
            refine ⟨.ref t, d', rfl, dq, shw'.s, shw'.z, shw'.d, ?_⟩
            refine ⟨_, (slot_other (by decide)).trans rfl, .ref t, d', rfl, dq, shw'.s, shw'.z, shw'.d, ?_⟩
            exact ⟨rfl, _, rfl, by rw [decide_eq_true rfl]; exact hR⟩
          refine ⟨Nat.zero_le _, fun D2 nD2 => ?_⟩
          have sAD : Same HA (upd HA D (.lst [])) := same_new nD
          have sDD : Same (upd HA D (.lst [])) (upd (upd HA D (.lst [])) D2 (.lst [])) := same_new nD2
          refine ne_same (nil_dp (sDD _ _ upd_same)) (nil_dp upd_same) shaped0 ?_
          have sAX := sAD.trans sDD
          generalize upd (upd HA D (.lst [])) D2 (.lst []) = HB at sAX ⊢
          have hBt := sAX _ _ hAt
          refine ⟨.ref t, rfl, .inl ⟨rfl, _, .inl (.inl hBt)⟩, t, _, lat, rfl, rfl, hBt, ?_, ?_⟩
          · rw [List.length_append]
            exact List.getElem?_concat_length
          · refine ⟨_, _, _, _, _, rfl, fun b o e => ?_⟩
            rw [List.dropLast_concat]
            by_cases hb : b = t
            · subst hb
              rw [upd_same, ← s710 _ _ e, ht10]
            · rw [upd_ne hb]
              exact sAX _ _ (hA _ _ hb (s710 _ _ e))
      · -- behind both lists
        rintro σ G ⟨t5, t6, t7, t8, t9, rfl, s7G⟩
        have s4G : Same H4 G := s47.trans s7G
        refine ⟨_, _, _, _, _, _, _, _, _, rfl, s4G _ _ (keep4 _ _ (Ne.symm hpp) hl0), fun y hy => ?_⟩
        obtain ⟨o, e⟩ := (hrest y (by rw [hdrop]; exact List.mem_cons_of_mem _ hy)).some
        exact (hrest y (by rw [hdrop]; exact List.mem_cons_of_mem _ hy)).of_eq ((s4G _ _ (keep4 _ _ (hother y hy) e)).trans e.symm)
    · -- behind the purses
      rintro σ G0 ⟨s1, s2, s3, s4, s5, s6, s7, s8, s9, rfl, hl0, _⟩
      dsimp only
      refine seq_set ?_
      refine ⟨rfl, fun H1 p1 h1 => ?_⟩
      obtain ⟨es, e1, e2⟩ := h1.es
      have hL1 : Lst H1 c .non p1 es := ⟨e1, e2⟩
      -- of which classes they are
      refine seq_if ?_
      refine codes_ok (js := all23) (es := es) rfl hL1.at_ (hL1.er.are lt23) (by show 8 < 10; decide) (by decide) fun H8 D8 ps8 s8 n8 hd8 hr8 => ?_
      refine range_ok (by show 9 < 10; decide) fun H9 D9 ps9 s9' n9 hd9 hr9 => ?_
      refine ne_same (rows_dp hd8 hr8 s9') (range_dp hd9 hr9) shaped23 ?_
      have hL9 := hL1.same (s8.trans s9')
      -- no field
      refine seq_if ?_
      refine none_kept (es := es) rfl hL9.at_ (by show 8 < 10; decide) (fun e ie D R he nD hR => ?_) fun D nD => ?_
      · obtain ⟨je, hje, hE⟩ := paired_get hL9.er he
        have hje23 : je ∈ all23 := List.mem_of_getElem? hje
        have sD : Same H9 (upd H9 D (.lst [])) := same_new nD
        have hE' := hE.same sD
        obtain ⟨dd, f1, f2⟩ := hE.same sD
        refine ⟨_, slot_own (by show 8 < 10; decide), e, c je, dd, .non, rfl, T.cl je (lt23 _ hje23), T.it je (lt23' _ hje23), f1, f2, ?_⟩
        refine ⟨rfl, _, rfl, ifF (by rw [decide_eq_true rfl]; rfl) ?_⟩
        exact ⟨_, slot_own (by show 8 < 10; decide), e, je, rfl, lt23 _ hje23, hE'.isErr, true, rfl, hR⟩
      refine ⟨Nat.zero_le _, fun D2 nD2 => ?_⟩
      have s9D : Same H9 (upd H9 D (.lst [])) := same_new nD
      have sDD : Same (upd H9 D (.lst [])) (upd (upd H9 D (.lst [])) D2 (.lst [])) := same_new nD2
      refine ne_same (nil_dp (sDD _ _ upd_same)) (nil_dp upd_same) shaped0 ?_
      generalize upd (upd H9 D (.lst [])) D2 (.lst []) = H10
      -- the two without a field
      refine seq_set ?_
      refine fun x1 m1 x2 m2 => ⟨by show 2 ≤ sizeLine; exact small_list (by decide), fun l nl => ?_⟩
      have k1 : Same (upd H10 x1 (exo x1 (c 23) none)) (upd (upd H10 x1 (exo x1 (c 23) none)) x2 (exo x2 (c 24) none)) := same_new m2
      have k2 : Same (upd (upd H10 x1 (exo x1 (c 23) none)) x2 (exo x2 (c 24) none)) (upd (upd (upd H10 x1 (exo x1 (c 23) none)) x2 (exo x2 (c 24) none)) l (.lst [.ref x1, .ref x2])) := same_new nl
      have i1 : IsErr (upd (upd (upd H10 x1 (exo x1 (c 23) none)) x2 (exo x2 (c 24) none)) l (.lst [.ref x1, .ref x2])) (c 23) x1 := .inl (k2 _ _ (k1 _ _ upd_same))
      have i2 : IsErr (upd (upd (upd H10 x1 (exo x1 (c 23) none)) x2 (exo x2 (c 24) none)) l (.lst [.ref x1, .ref x2])) (c 24) x2 := .inl (k2 _ _ upd_same)
      have hl : (upd (upd (upd H10 x1 (exo x1 (c 23) none)) x2 (exo x2 (c 24) none)) l (.lst [.ref x1, .ref x2])) l = some (.lst [.ref x1, .ref x2]) := upd_same
      generalize upd (upd (upd H10 x1 (exo x1 (c 23) none)) x2 (exo x2 (c 24) none)) l (.lst [.ref x1, .ref x2]) = H11 at i1 i2 hl ⊢
      refine seq_or ?_
      refine test_op ?_
      refine codes_ok (js := [23, 24]) (es := [x1, x2]) rfl hl (.cons ⟨by decide, i1⟩ (.cons ⟨by decide, i2⟩ .nil)) (by show 8 < 10; decide) (by decide) fun H12 D12 ps12 s12 n12 hd12 hr12 => ?_
      refine ⟨by show 1 ≤ sizeLine; exact small_list (by decide), fun a1 na1 => ⟨by show 1 ≤ sizeLine; exact small_list (by decide), fun a2 na2 => ⟨by show 2 ≤ sizeLine; exact small_list (by decide), fun a3 na3 => ?_⟩⟩⟩
      have j1 : Same H12 (upd H12 a1 (.lst [.int 23])) := same_new na1
      have j2 : Same (upd H12 a1 (.lst [.int 23])) (upd (upd H12 a1 (.lst [.int 23])) a2 (.lst [.int 24])) := same_new na2
      have j3 : Same (upd (upd H12 a1 (.lst [.int 23])) a2 (.lst [.int 24])) (upd (upd (upd H12 a1 (.lst [.int 23])) a2 (.lst [.int 24])) a3 (.lst [.ref a1, .ref a2])) := same_new na3
      have o1 := j3 _ _ (j2 _ _ (upd_same (H := H12) (a := a1) (o := .lst [.int 23])))
      have o2 := j3 _ _ (upd_same (H := upd H12 a1 (.lst [.int 23])) (a := a2) (o := .lst [.int 24]))
      have o3 : (upd (upd (upd H12 a1 (.lst [.int 23])) a2 (.lst [.int 24])) a3 (.lst [.ref a1, .ref a2])) a3 = some (.lst [.ref a1, .ref a2]) := upd_same
      have j123 := (j1.trans j2).trans j3
      generalize upd (upd (upd H12 a1 (.lst [.int 23])) a2 (.lst [.int 24])) a3 (.lst [.ref a1, .ref a2]) = H13 at o1 o2 o3 j123 ⊢
      have dA : Dp K H13 (.ref D12) (.list [.list [.int 23], .list [.int 24]]) :=
        .lst (.inl (.inl (j123 _ _ hd12))) (rows_data (g := codeD) (fun i => code_data i) (rows_mono hr12 fun b o _ z => j123 _ _ z))
      have dB : Dp K H13 (.ref a3) (.list [.list [.int 23], .list [.int 24]]) :=
        .lst (.inl (.inl o3)) (.cons (.lst (.inl (.inl o1)) (.cons (.int 23) .nil)) (.cons (.lst (.inl (.inl o2)) (.cons (.int 24) .nil)) .nil))
      have sh : SeqAt.shaped (.list [.list [.int 23], .list [.int 24]]) = true := by decide +kernel
      refine ⟨_, _, dA, dB, sh, sh, _, rfl, ifF (by rw [eqv_same sh]; rfl) ?_⟩
      have hl13 := j123 _ _ (s12 _ _ hl)
      have i13 := (i1.same s12).same j123
      have i23 := (i2.same s12).same j123
      refine ⟨.ref l, rfl, l, _, 0, .ref x1, rfl, rfl, .inl (.inl hl13), rfl, x1, 23, rfl, by decide, i13, true, rfl, ifF rfl ?_⟩
      refine ⟨.ref l, rfl, l, _, 1, .ref x2, rfl, rfl, .inl (.inl hl13), rfl, x2, 24, rfl, by decide, i23, true, rfl, ifF rfl ?_⟩
      -- the one over all
      refine fun x3 m3 => ⟨x3, 25, rfl, by decide, .inl upd_same, true, rfl, ifT rfl ?_⟩
      refine fun x4 m4 => ⟨x4, 25, rfl, by decide, .inl upd_same, fun H14 D14 s14 n14 hd14 => ?_⟩
      refine ⟨Nat.zero_le _, fun D15 n15 => ?_⟩
      have s15 : Same H14 (upd H14 D15 (.lst [])) := same_new n15
      refine ⟨_, _, nil_dp (s15 _ _ hd14), nil_dp upd_same, shaped0, shaped0, ?_⟩
      rw [eqv_same shaped0]
      exact q _
end
end Eld
end L2

set_option Elab.async false
set_option linter.all false
set_option maxRecDepth 100000
set_option maxHeartbeats 8000000
/-! ## what the top has written of the errors, as one look -/
namespace L2
namespace Eld
open PySem PySem.Spec PyProof.Rows PySem.EldX
/-- the class at C is an error's -/
def clsB (K : PySem.W.Frag) (C : Addr) : Bool := match K.lookup C with
  | some ⟨.type "type", _, .cls cd, sl⟩ => (match cd.mro, sl.toList with
    | .ref C' :: bm, [_, _, _, _, some (.builtin n), _] => C' == C && n == "ValueError.__new__" && !cd.hasDel && PySem.HandSPX.refsVE bm && cd.hasDict
    | _, _ => false)
  | _ => false
theorem clsB_ok {K : PySem.W.Frag} {C : Addr} (q : clsB K C = true) : ∃ nm qn N bs bm sn sub ab col dd k0 k1 k2 k3 k5,
    K.lookup C = some (excClassObj nm qn C N bs bm true sn sub ab col dd k0 k1 k2 k3 k5 "ValueError.__new__") ∧ PySem.HandSPX.refsVE bm = true := by
  unfold clsB at q
  split at q
  · rename_i dd cd sl ho
    split at q
    · rename_i C' bm k0 k1 k2 k3 n k5 hm hs
      simp only [Bool.and_eq_true, beq_iff_eq, Bool.not_eq_true'] at q
      obtain ⟨⟨⟨⟨rfl, rfl⟩, hdel⟩, hv⟩, hh⟩ := q
      obtain ⟨nm, bs, mro, ns, qn, hd, sn, sub, ab, col, del⟩ := cd
      dsimp only at hm hdel hh
      subst hm hdel hh
      have hsl : sl = #[k0, k1, k2, k3, some (.builtin "ValueError.__new__"), k5] := by
        obtain ⟨l⟩ := sl
        simp only at hs
        rw [hs]
      subst hsl
      exact ⟨nm, qn, ns, bs, bm, sn, sub, ab, col, dd, k0, k1, k2, k3, k5, ho, hv⟩
    · cases q
  · cases q
def errCB (K : PySem.W.Frag) (C : Addr) : Bool :=
  clsB K C && (PySem.W.findIn K (.ref C) "__setattr__" == some (some (.builtin "object.__setattr__")) && (PySem.W.findIn K (.ref C) "__getattribute__" == some (some (.builtin "BaseException.__getattribute__")) &&
    (PySem.W.findIn K (.ref C) "__getattr__" == some none && (PySem.W.subIn K (.ref C) (.type "BaseException") == some true && (PySem.W.findIn K (.ref C) "__class__" == some (some (.builtin "object.__class__")) &&
      (PySem.W.mroIn K C (.type "object") == some true && (PySem.W.hasDictIn K C && PySem.W.keepIn K (.ref C))))))))
theorem errCB_ok {K : PySem.W.Frag} {C : Addr} (q : errCB K C = true) : ErrC K C := by
  unfold errCB at q
  simp only [Bool.and_eq_true, beq_iff_eq] at q
  obtain ⟨h1, h2, h3, h4, h5, h6, h7, h8, h9⟩ := q
  exact ⟨clsB_ok h1, h2, h3, h4, h5, h6, h7, h8, h9⟩
/-- the def at f is __init__(self, value=None): self.value = value -/
def fdB (K : PySem.W.Frag) : FuncData → Bool
  | ⟨n, q, ⟨[], [⟨a1, none, _⟩, ⟨a2, none, _⟩], none, [], [], none, [.Constant .none _ _]⟩, .stmts [.Assign [.Attribute (.Name x1 _) x2 _] (.Name x3 _) _], ⟨.function, [(s1, .local), (s2, .local)], false, false, []⟩, g, [], .ref T, _, _, _, _, cdv, _, bl⟩ =>
    n == "__init__" && (a1 == "self" && (a2 == "value" && (x1 == "self" && (x2 == "value" && (x3 == "value" && (s1 == "self" && (s2 == "value" && (g == mainGlobals && (bl == builtinsNs && (PySem.W.codeIn K cdv q &&
      (match K.lookup T with | some ⟨_, _, .seq its _, _⟩ => its == #[.none] | _ => false)))))))))))
  | _ => false
def errIB (K : PySem.W.Frag) (C : Addr) : Bool := PySem.W.findIn K (.ref C) "value" == some none && (match PySem.W.findIn K (.ref C) "__init__" with
  | some (some (.ref f)) => PySem.W.typeIn K (.ref f) == some (.type "function") && (match K.lookup f with
    | some ⟨_, _, .func fd, _⟩ => fdB K fd
    | _ => false)
  | _ => false)
theorem errIB_ok {K : PySem.W.Frag} {C : Addr} (q : errIB K C = true) : ErrI K C := by
  unfold errIB at q
  rw [Bool.and_eq_true, beq_iff_eq] at q
  obtain ⟨hno, q⟩ := q
  refine ⟨hno, ?_⟩
  split at q
  · rename_i f hf
    rw [Bool.and_eq_true, beq_iff_eq] at q
    obtain ⟨ht, q⟩ := q
    split at q
    · rename_i oc od fd osl ho
      unfold fdB at q
      split at q
      · rename_i n qn a1 p1 a2 p2 kk p3 x1 q1 x2 q2 x3 q3 q4 s1 s2 g T kV doc pm an cdv ct bl
        simp only [Bool.and_eq_true, beq_iff_eq] at q
        obtain ⟨rfl, rfl, rfl, rfl, rfl, rfl, rfl, rfl, rfl, rfl, hc, hT⟩ := q
        split at hT
        · rename_i _ _ its m _ hlT
          refine ⟨f, qn, oc, od, T, _, m, kV, doc, pm, an, cdv, ct, osl, p1, p2, p3, q1, q2, q3, q4, kk, hf, ht, ho, hc, hlT, ?_⟩
          rw [beq_iff_eq] at hT
          subst hT
          rfl
        · cases hT
      · cases q
    · cases q
  · cases q
/-- where the i-th class stands -/
def cAt (K : PySem.W.Frag) (i : Nat) : Addr := match PySem.W.nsIn K mainGlobals (nm i) with
  | some (some (.ref C)) => C
  | _ => 0
def topB (K : PySem.W.Frag) : Bool :=
  (List.range 26).all (fun i => PySem.W.nsIn K mainGlobals (nm i) == some (some (.ref (cAt K i)))) && ((List.range 26).all (fun i => errCB K (cAt K i)) && ((List.range 23).all (fun i => errIB K (cAt K i)) &&
  ([23, 24, 25].all (fun i => PySem.W.excIn K (cAt K i) [.type "ValueError", .type "Exception", .type "BaseException", .type "object"] "ValueError.__new__") &&
  ((List.range 26).all (fun i => (List.range 25).all fun j => PySem.W.kitOne K (.ref (cAt K i)) (.ref (cAt K j)) == some (i == j)) && ((List.range 26).all (fun i => PySem.W.kitOne K (.ref (cAt K i)) (.ref (cAt K 25)) == some true) &&
  ((List.range 26).all (fun i => PySem.W.kitOne K (.ref (cAt K i)) (.type "ValueError") == some true) &&
  (PySem.W.specialIn K (.builtin "object.__class__") "__get__" == some (some (.builtin "getset_descriptor.__get__")) && PySem.W.takesIn K (.builtin "object.__class__") == some true)))))))
theorem topB_ok {K : PySem.W.Frag} {h : Heap} {mg : Str → Option Value} (X : K.In h) (G : h.Ns mainGlobals mg) (q : topB K = true) : ErrTop K mg (cAt K) := by
  unfold topB at q
  simp only [Bool.and_eq_true, List.all_eq_true, List.mem_range, beq_iff_eq] at q
  obtain ⟨h1, h2, h3, h4, h5, h6, h7, h8, h9⟩ := q
  refine ⟨fun i hi => PySem.W.mg_of X G (h1 i hi), fun i hi => errCB_ok (h2 i hi), fun i hi => errIB_ok (h3 i hi), fun i h23 hi => h4 i ?_, fun i j hi hj => ?_, fun i hi => h6 i hi, fun i hi => h7 i hi, ⟨h8, h9⟩⟩
  · have e : i = 23 ∨ i = 24 ∨ i = 25 := by omega
    rcases e with rfl | rfl | rfl <;> decide
  · rw [h5 i hi j hj]
    rfl
end Eld
end L2

set_option Elab.async false
set_option linter.all false
set_option maxRecDepth 100000
set_option maxHeartbeats 8000000
namespace L2
namespace Eld
open PySem PySem.Spec PyProof.Rows PySem.EldX
theorem all_mk {l : PySem.W.OpenLaw} {w : World} {K : PySem.W.Frag} {h : Heap} {mg : Str → Option Value} {fa : Addr} (X : K.In h) (G : h.Ns mainGlobals mg) (hfa : mg "law" = some (.ref fa))
    {f0 f1 f2 f3 f4 f5 f6 f7 f8 f9 f10 f11 : Addr} {od0 an0 od1 an1 od2 an2 od3 an3 od4 an4 od5 an5 od6 an6 od7 an7 od8 an8 od9 an9 od10 an10 od11 an11 : Option Addr} {sl0 sl1 sl2 sl3 sl4 sl5 sl6 sl7 sl8 sl9 sl10 sl11 : Array (Option Value)}
    {oc0 kV0 dc0 pm0 cd0 ct0 oc1 kV1 dc1 pm1 cd1 ct1 oc2 kV2 dc2 pm2 cd2 ct2 oc3 kV3 dc3 pm3 cd3 ct3 oc4 kV4 dc4 pm4 cd4 ct4 oc5 kV5 dc5 pm5 cd5 ct5 oc6 kV6 dc6 pm6 cd6 ct6 oc7 kV7 dc7 pm7 cd7 ct7 oc8 kV8 dc8 pm8 cd8 ct8 oc9 kV9 dc9 pm9 cd9 ct9 oc10 kV10 dc10 pm10 cd10 ct10 oc11 kV11 dc11 pm11 cd11 ct11 : Value}
    (a0 : PySem.W.nsIn K mainGlobals "_law_purse" = some (some (.ref f0))) (l0 : K.lookup f0 = some ⟨oc0, od0, .func (PySem.W.fnOf "_law_purse" "_law_purse" (defArgs sPurse) (defBody sPurse) (defScope sPurse) .none kV0 dc0 pm0 an0 cd0 ct0), sl0⟩)
    (c0 : PySem.W.codeIn K cd0 "_law_purse" = true) (k0 : PySem.W.keepIn K (.ref f0) = true)
    (a1 : PySem.W.nsIn K mainGlobals "_law_mixed" = some (some (.ref f1))) (l1 : K.lookup f1 = some ⟨oc1, od1, .func (PySem.W.fnOf "_law_mixed" "_law_mixed" (defArgs sMixed) (defBody sMixed) (defScope sMixed) .none kV1 dc1 pm1 an1 cd1 ct1), sl1⟩)
    (c1 : PySem.W.codeIn K cd1 "_law_mixed" = true) (k1 : PySem.W.keepIn K (.ref f1) = true)
    (a2 : PySem.W.nsIn K mainGlobals "_law_draw" = some (some (.ref f2))) (l2 : K.lookup f2 = some ⟨oc2, od2, .func (PySem.W.fnOf "_law_draw" "_law_draw" (defArgs sDraw) (defBody sDraw) (defScope sDraw) .none kV2 dc2 pm2 an2 cd2 ct2), sl2⟩)
    (c2 : PySem.W.codeIn K cd2 "_law_draw" = true) (k2 : PySem.W.keepIn K (.ref f2) = true)
    (a3 : PySem.W.nsIn K mainGlobals "_law_purses" = some (some (.ref f3))) (l3 : K.lookup f3 = some ⟨oc3, od3, .func (PySem.W.fnOf "_law_purses" "_law_purses" (defArgs sPurses) (defBody sPurses) (defScope sPurses) .none kV3 dc3 pm3 an3 cd3 ct3), sl3⟩)
    (c3 : PySem.W.codeIn K cd3 "_law_purses" = true) (k3 : PySem.W.keepIn K (.ref f3) = true)
    (a4 : PySem.W.nsIn K mainGlobals "_law_one_of" = some (some (.ref f4))) (l4 : K.lookup f4 = some ⟨oc4, od4, .func (PySem.W.fnOf "_law_one_of" "_law_one_of" (defArgs sOneOf) (defBody sOneOf) (defScope sOneOf) .none kV4 dc4 pm4 an4 cd4 ct4), sl4⟩)
    (c4 : PySem.W.codeIn K cd4 "_law_one_of" = true) (k4 : PySem.W.keepIn K (.ref f4) = true)
    (a5 : PySem.W.nsIn K mainGlobals "_law_word" = some (some (.ref f5))) (l5 : K.lookup f5 = some ⟨oc5, od5, .func (PySem.W.fnOf "_law_word" "_law_word" (defArgs sWord) (defBody sWord) (defScope sWord) .none kV5 dc5 pm5 an5 cd5 ct5), sl5⟩)
    (c5 : PySem.W.codeIn K cd5 "_law_word" = true) (k5 : PySem.W.keepIn K (.ref f5) = true)
    (a6 : PySem.W.nsIn K mainGlobals "_law_first" = some (some (.ref f6))) (l6 : K.lookup f6 = some ⟨oc6, od6, .func (PySem.W.fnOf "_law_first" "_law_first" (defArgs sFirst) (defBody sFirst) (defScope sFirst) .none kV6 dc6 pm6 an6 cd6 ct6), sl6⟩)
    (c6 : PySem.W.codeIn K cd6 "_law_first" = true) (k6 : PySem.W.keepIn K (.ref f6) = true)
    (a7 : PySem.W.nsIn K mainGlobals "_law_named" = some (some (.ref f7))) (l7 : K.lookup f7 = some ⟨oc7, od7, .func (PySem.W.fnOf "_law_named" "_law_named" (defArgs sNamed) (defBody sNamed) (defScope sNamed) .none kV7 dc7 pm7 an7 cd7 ct7), sl7⟩)
    (c7 : PySem.W.codeIn K cd7 "_law_named" = true) (k7 : PySem.W.keepIn K (.ref f7) = true)
    (a8 : PySem.W.nsIn K mainGlobals "_law_bare" = some (some (.ref f8))) (l8 : K.lookup f8 = some ⟨oc8, od8, .func (PySem.W.fnOf "_law_bare" "_law_bare" (defArgs sBare) (defBody sBare) (defScope sBare) .none kV8 dc8 pm8 an8 cd8 ct8), sl8⟩)
    (c8 : PySem.W.codeIn K cd8 "_law_bare" = true) (k8 : PySem.W.keepIn K (.ref f8) = true)
    (a9 : PySem.W.nsIn K mainGlobals "_law_code" = some (some (.ref f9))) (l9 : K.lookup f9 = some ⟨oc9, od9, .func (PySem.W.fnOf "_law_code" "_law_code" (defArgs sCode) (defBody sCode) (defScope sCode) .none kV9 dc9 pm9 an9 cd9 ct9), sl9⟩)
    (c9 : PySem.W.codeIn K cd9 "_law_code" = true) (k9 : PySem.W.keepIn K (.ref f9) = true)
    (a10 : PySem.W.nsIn K mainGlobals "_law_is_error" = some (some (.ref f10))) (l10 : K.lookup f10 = some ⟨oc10, od10, .func (PySem.W.fnOf "_law_is_error" "_law_is_error" (defArgs sIsError) (defBody sIsError) (defScope sIsError) .none kV10 dc10 pm10 an10 cd10 ct10), sl10⟩)
    (c10 : PySem.W.codeIn K cd10 "_law_is_error" = true) (k10 : PySem.W.keepIn K (.ref f10) = true)
    (a11 : PySem.W.nsIn K mainGlobals "law" = some (some (.ref f11))) (l11 : K.lookup f11 = some ⟨oc11, od11, .func (PySem.W.fnOf "law" "law" (defArgs sLaw) (defBody sLaw) (defScope sLaw) .none kV11 dc11 pm11 an11 cd11 ct11), sl11⟩)
    (c11 : PySem.W.codeIn K cd11 "law" = true) (k11 : PySem.W.keepIn K (.ref f11) = true)
    (z0 : PySem.W.nsIn K mainGlobals "sum" = some none)
    (z1 : PySem.W.nsIn K mainGlobals "max" = some none)
    (z2 : PySem.W.nsIn K mainGlobals "min" = some none)
    (z3 : PySem.W.nsIn K mainGlobals "range" = some none)
    (z4 : PySem.W.nsIn K mainGlobals "len" = some none)
    (z5 : PySem.W.nsIn K mainGlobals "isinstance" = some none)
    (z6 : PySem.W.nsIn K mainGlobals "ValueError" = some none)
    (z7 : PySem.W.nsIn K mainGlobals "repr" = some none)
    (z8 : PySem.W.nsIn K mainGlobals "list" = some none)
    (ht : topB K = true) :
    ∃ fd : FuncData, (∀ (s : Shared) (v : Value), BindsTo s fd ⟨[v], []⟩ [("_law_script", v)]) ∧ ∀ base : Heap, K.In base → base.Ns mainGlobals mg → FnG l.prog w K mg base CX0 4 fa fd ["_law_script"] (spLaw K) := by
  have e := hfa.symm.trans (PySem.W.mg_of X G a11)
  cases e
  have F0 := fun_mk (st := sPurse) l0 c0 k0
  have F1 := fun_mk (st := sMixed) l1 c1 k1
  have F2 := fun_mk (st := sDraw) l2 c2 k2
  have F3 := fun_mk (st := sPurses) l3 c3 k3
  have F4 := fun_mk (st := sOneOf) l4 c4 k4
  have F5 := fun_mk (st := sWord) l5 c5 k5
  have F6 := fun_mk (st := sFirst) l6 c6 k6
  have F7 := fun_mk (st := sNamed) l7 c7 k7
  have F8 := fun_mk (st := sBare) l8 c8 k8
  have F9 := fun_mk (st := sCode) l9 c9 k9
  have F10 := fun_mk (st := sIsError) l10 c10 k10
  have F11 := fun_mk (st := sLaw) l11 c11 k11
  have L : Defs K mg f0 f1 f2 f3 f4 f5 f6 f7 f8 f9 f10 _ _ _ _ _ _ _ _ _ _ _ := ⟨F0, F1, F2, F3, F4, F5, F6, F7, F8, F9, F10, PySem.W.mg_of X G a0, PySem.W.mg_of X G a1, PySem.W.mg_of X G a2, PySem.W.mg_of X G a3, PySem.W.mg_of X G a4, PySem.W.mg_of X G a5, PySem.W.mg_of X G a6, PySem.W.mg_of X G a7, PySem.W.mg_of X G a8, PySem.W.mg_of X G a9, PySem.W.mg_of X G a10⟩
  have B : Blt mg := ⟨PySem.W.mg_none_of X G z0, PySem.W.mg_none_of X G z1, PySem.W.mg_none_of X G z2, PySem.W.mg_none_of X G z3, PySem.W.mg_none_of X G z4, PySem.W.mg_none_of X G z5, PySem.W.mg_none_of X G z6, PySem.W.mg_none_of X G z7, PySem.W.mg_none_of X G z8⟩
  exact ⟨PySem.W.fnOf "law" "law" (defArgs sLaw) (defBody sLaw) (defScope sLaw) .none kV11 dc11 pm11 an11 cd11 ct11, fun s v => .of_eq rfl, fun base _ _ => ok_law F11 L B (topB_ok X G ht)⟩
end Eld
end L2
open PySem PySem.W PyProof.Rows
set_option maxHeartbeats 0 in
theorem PySem.Challenge.cw_elderlink_k01_errors_made_holds : PySem.Challenge.rw_elderlink_k01_errors_made.Holds := by
  w_on; o_law; k_head; (case hw => w_witness2)
  k_fill
  refine L2.Eld.walkG (l := PySem.Challenge.rw_elderlink_k01_errors_made) (n := 63) (k := 4) (x := "_law_script") (sp := fun w => L2.Eld.spLaw _) rfl (by decide) rfl ⟨rfl, by decide, by decide⟩ (fun w h Y => PySem.W.kIn_of Y) ?F (fun _ _ a ns hl _ hS => ⟨a, ns, rfl, hS, hl, fun _ => rfl⟩)
  case F =>
    intro w mg fa h KX G hmg
    refine' L2.Eld.all_mk KX G hmg ?a0 ?l0 ?c0 ?k0 ?a1 ?l1 ?c1 ?k1 ?a2 ?l2 ?c2 ?k2 ?a3 ?l3 ?c3 ?k3 ?a4 ?l4 ?c4 ?k4 ?a5 ?l5 ?c5 ?k5 ?a6 ?l6 ?c6 ?k6 ?a7 ?l7 ?c7 ?k7 ?a8 ?l8 ?c8 ?k8 ?a9 ?l9 ?c9 ?k9 ?a10 ?l10 ?c10 ?k10 ?a11 ?l11 ?c11 ?k11 ?z0 ?z1 ?z2 ?z3 ?z4 ?z5 ?z6 ?z7 ?z8 ?ht
    (case a0 => k_is); (case l0 => k_is); (case c0 => k_is); (case k0 => k_is)
    (case a1 => k_is); (case l1 => k_is); (case c1 => k_is); (case k1 => k_is)
    (case a2 => k_is); (case l2 => k_is); (case c2 => k_is); (case k2 => k_is)
    (case a3 => k_is); (case l3 => k_is); (case c3 => k_is); (case k3 => k_is)
    (case a4 => k_is); (case l4 => k_is); (case c4 => k_is); (case k4 => k_is)
    (case a5 => k_is); (case l5 => k_is); (case c5 => k_is); (case k5 => k_is)
    (case a6 => k_is); (case l6 => k_is); (case c6 => k_is); (case k6 => k_is)
    (case a7 => k_is); (case l7 => k_is); (case c7 => k_is); (case k7 => k_is)
    (case a8 => k_is); (case l8 => k_is); (case c8 => k_is); (case k8 => k_is)
    (case a9 => k_is); (case l9 => k_is); (case c9 => k_is); (case k9 => k_is)
    (case a10 => k_is); (case l10 => k_is); (case c10 => k_is); (case k10 => k_is)
    (case a11 => k_is); (case l11 => k_is); (case c11 => k_is); (case k11 => k_is)
    (case z0 => k_is); (case z1 => k_is); (case z2 => k_is); (case z3 => k_is); (case z4 => k_is); (case z5 => k_is); (case z6 => k_is); (case z7 => k_is); (case z8 => k_is)
    (case ht => kernel_rfl)

