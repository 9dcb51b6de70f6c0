import PyProof.Rows.All
import Wide.All
import OpenK.AllK
import Wide.FinOn
import HandS.ForMost
import HandS.IsInst
import HandS.More
import PyProof.TypeEq
import PyProof.InstEq
import HandS.Codes
import HandS.TupLe
import HandS.Walk
import HandS.StrMore
import PyProof.StrBlock2
import HandS.Property
import HandS.DictComp
import HandS.HeadHook3
import HandS.Zip
import HandS.FStr
import HandS.TupAny
import PyProof.FitsInt
import KE.DataCmp
import HandS.Exc
import HandS.ExcOwn
import HandS.ExcIs
import HandS.TryOnly
import PyProof.EqAt
import PyProof.EqKinds
import PyProof.DictRoadsH
import HandS.Base
import HandS.Dict
import HandS.NoneIn
import HandS.SetKeys
import HandS.Star
import KE.KDictPairs
import KE.SortData
import HandS.Lambda
import HandS.SortKw
import HandS.EndTab
import KE.SortKeyHeap
import HandS.TupMul
import PySem.Challenge.RW_lettersonce_k08_letters_by_key
set_option Elab.async false
set_option linter.all false
set_option maxRecDepth 100000
set_option maxHeartbeats 4000000
namespace TyNe
open PySem PySem.Spec PyProof.Rows L2 PySem.TypeEq Builtin

theorem slot_type_ne : Slot "type" (cmpInfo .NotEq).2.1 "object.__ne__" :=
  .of (owner := "object") (n := "__ne__") (by rw [typeLookup_type, builtinLookup_eq_fast]; kernel_rfl) (by decide +kernel) (by decide +kernel) (by decide +kernel)
    (by first | exact .inl (by decide +kernel) | exact .inr (by decide +kernel)) (by rw [isSubtype_type]; kernel_rfl)
theorem slot_type_ne_refl : Slot "type" (cmpInfo .NotEq).2.2 "object.__ne__" :=
  .of (owner := "object") (n := "__ne__") (by rw [typeLookup_type, builtinLookup_eq_fast]; kernel_rfl) (by decide +kernel) (by decide +kernel) (by decide +kernel)
    (by first | exact .inl (by decide +kernel) | exact .inr (by decide +kernel)) (by rw [isSubtype_type]; kernel_rfl)
theorem slot_type_eq' : Slot "type" "__eq__" "object.__eq__" := slot_type_eq
section
variable {prog : Program} {w : World} {A : Around} {E : Value → Shared → Prop} {s : Shared}
theorem ne_entry_same {X : String} (hX : ∀ s' : Shared, s'.TypeIs (.type X) "type") {Q : Fin → Shared → Prop} (h : Q (.done (.ret (.bool false))) s) :
    wpAny (model prog w) A (Builtin.«object.__ne__» ⟨[.type X, .type X], []⟩) Q E s := by
  unfold Builtin.«object.__ne__»
  repeat (first
    | with_reducible refine wpAny_cRoomFor_or (.inl rfl) ?_
    | (refine wpAny_bind (m := callSpecialIfBound? (.type X) (Str.ofString "__eq__") [.type X]) (wpAny_callSpecialIfBound?_slot (hX s) slot_type_eq'
        (call_gives slot_type_eq' (hX s) F.entry_object_eq (F.args_object_eq_2 _ _) (object_eq_same rfl (by simp)) ?_)))
    | wp_step)
  show wpAny _ A _ Q E s
  repeat (first | exact h | exact wpAny_pure h | (refine wpAny_bind (m := truthy (.bool _)) (wpAny_truthy_bool ?_)) | wp_step)
theorem ne_entry_other {X Y : String} (hX : ∀ s' : Shared, s'.TypeIs (.type X) "type") (hne : (Value.type X == Value.type Y) = false) {Q : Fin → Shared → Prop} (h : Q (.done (.ret .notImplemented)) s) :
    wpAny (model prog w) A (Builtin.«object.__ne__» ⟨[.type X, .type Y], []⟩) Q E s := by
  unfold Builtin.«object.__ne__»
  repeat (first
    | with_reducible refine wpAny_cRoomFor_or (.inl rfl) ?_
    | (refine wpAny_bind (m := callSpecialIfBound? (.type X) (Str.ofString "__eq__") [.type Y]) (wpAny_callSpecialIfBound?_slot (hX s) slot_type_eq'
        (call_gives slot_type_eq' (hX s) F.entry_object_eq (F.args_object_eq_2 _ _) (object_eq_other rfl hne) ?_)))
    | wp_step)
  show wpAny _ A _ Q E s
  repeat (first | exact h | exact wpAny_pure h | wp_step)
theorem call_ne_same {X : String} (hX : ∀ s' : Shared, s'.TypeIs (.type X) "type") {Q : Value → Shared → Prop} (h : Q (.bool false) s) :
    wpAny (model prog w) A (call (.builtin "object.__ne__") [.type X, .type X]) Q E s :=
  wpAny_call_entry slot_type_ne (hX s) F.cmpEntry_ne (ne_entry_same hX ⟨_, rfl, h⟩) (F.cmpArgs_ne _ _)
theorem call_ne_other {X Y : String} (hX : ∀ s' : Shared, s'.TypeIs (.type X) "type") (hne : (Value.type X == Value.type Y) = false) {Q : Value → Shared → Prop} (h : Q .notImplemented s) :
    wpAny (model prog w) A (call (.builtin "object.__ne__") [.type X, .type Y]) Q E s :=
  wpAny_call_entry slot_type_ne (hX s) F.cmpEntry_ne (ne_entry_other hX hne ⟨_, rfl, h⟩) (F.cmpArgs_ne _ _)
theorem ne_type_same {Q : Value → Shared → Prop} {X : String} (hX : ∀ s' : Shared, s'.TypeIs (.type X) "type") (h : Q (.bool false) s) : wpAny (model prog w) A (compareOp .NotEq (.type X) (.type X)) Q E s := by
  show wpAny _ A (richCompare .NotEq _ _) Q E s
  exact wpAny_richCompare_same (T := "type") (hX s) (hX s) slot_type_ne (call_ne_same hX ⟨(by intro e; cases e), h⟩)
theorem rich_ne_decline {M : Model} {a b : Value} {T id : String} {k : Bool} {Q : Value → Shared → Prop} (ha : ∀ s' : Shared, s'.TypeIs a T) (hb : ∀ s' : Shared, s'.TypeIs b T)
    (h1 : Slot T (cmpInfo .NotEq).2.1 id) (h2 : Slot T (cmpInfo .NotEq).2.2 id) (hv : [a, b].any Value.onHeap = false) (hk : isSame a b = pure k)
    (hc : wpAny M A (call (.builtin id) [a, b]) (fun v s₁ => v = .notImplemented ∧ wpAny M A (call (.builtin id) [b, a]) (fun v s₂ => v = .notImplemented ∧ Q (.bool (!k)) s₂) E s₁) E s) :
    wpAny M A (richCompare .NotEq a b) Q E s := by
  rcases hi : cmpInfo CmpOp.NotEq with ⟨sym, f, r⟩
  rw [hi] at h1 h2
  simp only [richCompare, hi, (ha s).oneThing_none]
  try with_reducible refine wpAny_holding ?_
  refine wpAny_bind (wpAny_cRoomFor_or (.inl hv) ?_)
  refine wpAny_bind (wpAny_typeOf (ha s) (wpAny_bind (wpAny_typeOf (hb s) ?_)))
  simp only [bne_self_eq_false, Bool.false_eq_true, if_false, pure_bind, Bool.not_false, if_true]
  refine wpAny_bind (m := tryCompare a _ b) (wpAny_tryCompare_declines (ha s) h1 (wpAny_mono hc (fun v s₁ h₁ => ⟨h₁.1, ?_⟩) fun _ _ x => x))
  refine wpAny_bind (m := tryCompare b _ a) (wpAny_tryCompare_declines (hb s₁) h2 (wpAny_mono h₁.2 (fun v s₂ h₂ => ⟨h₂.1, ?_⟩) fun _ _ x => x))
  refine wpAny_bind (wpAny_rule (wpAny_bind (wpAny_of_eq hk (wpAny_pure h₂.2))))
theorem ne_type_other {Q : Value → Shared → Prop} {X Y : String} (hX : ∀ s' : Shared, s'.TypeIs (.type X) "type") (hY : ∀ s' : Shared, s'.TypeIs (.type Y) "type") (hne : (Value.type X == Value.type Y) = false) (h : Q (.bool true) s) : wpAny (model prog w) A (compareOp .NotEq (.type X) (.type Y)) Q E s := by
  have hne' : (Value.type Y == Value.type X) = false := by
    rw [Bool.eq_false_iff] at hne ⊢
    intro e
    exact hne (by rw [beq_iff_eq] at e ⊢; exact e.symm)
  show wpAny _ A (richCompare .NotEq _ _) Q E s
  exact rich_ne_decline (T := "type") (k := false) hX hY slot_type_ne slot_type_ne_refl rfl (by rw [isSame_plain rfl, hne])
    (call_ne_other hX hne ⟨rfl, call_ne_other hY hne' ⟨rfl, h⟩⟩)
end
/-- the types whose own type is plainly `type` -/
def Ty9 (a : String) : Prop := ∀ s' : Shared, s'.TypeIs (.type a) "type"
section
variable {X : Cx}
def rEqTy : R2 := fun x y H Q => ∃ a b, x = .ty a ∧ y = .ty b ∧ Ty9 a ∧ Ty9 b ∧ Q (.bl (decide (a = b))) H
def rNeTy : R2 := fun x y H Q => ∃ a b, x = .ty a ∧ y = .ty b ∧ Ty9 a ∧ Ty9 b ∧ Q (.bl (!decide (a = b))) H
theorem op_eqTy : OpR X (compareOp .Eq) rEqTy := by
  intro pins s σ H x y v u Q I rx ry h
  obtain ⟨a, b, rfl, rfl, ta, tb, q⟩ := h
  cases (show v = Value.type a from rx)
  cases (show u = Value.type b from ry)
  by_cases e : a = b
  · subst e
    exact eq_type_same ta (fin_bl I q (by simp))
  · exact eq_type_other ta tb (by rw [ty_beq]; exact decide_eq_false e) (fin_bl I q (by simp [e]))
theorem op_neTy : OpR X (compareOp .NotEq) rNeTy := by
  intro pins s σ H x y v u Q I rx ry h
  obtain ⟨a, b, rfl, rfl, ta, tb, q⟩ := h
  cases (show v = Value.type a from rx)
  cases (show u = Value.type b from ry)
  by_cases e : a = b
  · subst e
    exact ne_type_same ta (fin_bl I q (by simp))
  · exact ne_type_other ta tb (by rw [ty_beq]; exact decide_eq_false e) (fin_bl I q (by simp [e]))
end
end TyNe

namespace Wp
open PySem PySem.Spec PyProof.Rows L2 TyNe

/-! ### the rules' readings under short names -/
abbrev qAdd : R2 := rI0 fun i j => .int (i + j)
abbrev qSub : R2 := rI0 fun i j => .int (i - j)
abbrev qMul : R2 := rI CMul fun i j => .int (i * j)
abbrev qFdiv : R2 := rI CDiv fun i j => .int (i / j)
abbrev qMod : R2 := rI (fun _ j => 0 < j) fun i j => .int (i % j)
abbrev qPow : R2 := rI CPow fun i j => .int (i ^ j.toNat)
abbrev qNeg : V → Hp → VK → Prop := rU fun i => .int (-i)
abbrev qLt : R2 := rI0 fun i j => .bl (decide (i < j))
abbrev qLe : R2 := rI0 fun i j => .bl (decide (i ≤ j))
abbrev qGt : R2 := rI0 fun i j => .bl (decide (j < i))
abbrev qGe : R2 := rI0 fun i j => .bl (decide (j ≤ i))
abbrev qAddS : R2 := fun x y H Q => ∃ i j, x = .str i ∧ y = .str j ∧ i.length + j.length ≤ sizeLine ∧ Q (.str (i ++ j)) H
abbrev qInSign : R2 := fun x y H Q => ∃ (c : Nat) (z : Str), x = .str ⟨#[c]⟩ ∧ y = .str z ∧ Q (.bl (decide (c ∈ z.cps.toList))) H
abbrev qNinSign : R2 := fun x y H Q => ∃ (c : Nat) (z : Str), x = .str ⟨#[c]⟩ ∧ y = .str z ∧ Q (.bl (!decide (c ∈ z.cps.toList))) H
abbrev qLtS : R2 := fun x y H Q => ∃ i j, x = .str i ∧ y = .str j ∧ Q (.bl (decide (i.cps.toList < j.cps.toList))) H
abbrev qLeS : R2 := fun x y H Q => ∃ i j, x = .str i ∧ y = .str j ∧ Q (.bl (!decide (j.cps.toList < i.cps.toList))) H
abbrev qGtS : R2 := fun x y H Q => ∃ i j, x = .str i ∧ y = .str j ∧ Q (.bl (decide (j.cps.toList < i.cps.toList))) H
abbrev qGeS : R2 := fun x y H Q => ∃ i j, x = .str i ∧ y = .str j ∧ Q (.bl (!decide (i.cps.toList < j.cps.toList))) H
abbrev qIsBl : R2 := fun x y H Q => ∃ a b, x = .bl a ∧ y = .bl b ∧ Q (.bl (decide (a = b))) H
abbrev qLenStr : List V → Hp → VK → Prop := fun xs H Q => ∃ z, xs = [.str z] ∧ z.length ≤ sizeLine ∧ Q (.int z.length) H
abbrev qLenSeq (K : PySem.W.Frag) : List V → Hp → VK → Prop := fun xs H Q => ∃ p ys, xs = [.ref p] ∧ (SqL K H p ys ∨ SqT K H p ys) ∧ Q (.int ys.length) H
abbrev qInt1 : List V → Hp → VK → Prop := fun xs H Q => (∃ i, xs = [.int i] ∧ Q (.int i) H) ∨ ∃ k, xs = [.bl k] ∧ Q (.int (if k then 1 else 0)) H
abbrev qStrInt : List V → Hp → VK → Prop := fun xs H Q => ∃ i : Int, xs = [.int i] ∧ i.natAbs.log2 < 1920 ∧ Q (.str (toString i)) H
abbrev qTupleOf (K : PySem.W.Frag) : List V → Hp → VK → Prop := fun xs H Q => ∃ p ys, xs = [.ref p] ∧ ((SqL K H p ys ∧ ∀ l, H l = none → Q (.ref l) (upd H l (.tup ys))) ∨ (SqT K H p ys ∧ Q (.ref p) H))
abbrev qListOf (K : PySem.W.Frag) : List V → Hp → VK → Prop := fun xs H Q => ∃ p ys, xs = [.ref p] ∧ (SqL K H p ys ∨ SqT K H p ys) ∧ ∀ l, H l = none → Q (.ref l) (upd H l (.lst ys))
abbrev qIsN : R2 := fun x y H Q => y = .non ∧ Q (.bl (decide (x = .non))) H
abbrev qNotN : R2 := fun x y H Q => y = .non ∧ Q (.bl (!decide (x = .non))) H
abbrev qMax2 : List V → Hp → VK → Prop := fun xs H Q => ∃ i j, xs = [.int i, .int j] ∧ Q (.int (if j > i then j else i)) H
abbrev qMin2 : List V → Hp → VK → Prop := fun xs H Q => ∃ i j, xs = [.int i, .int j] ∧ Q (.int (if j < i then j else i)) H

/-! ### heaps -/
/-- what was tracked stands as it stood, but p -/
def Kp (p : Addr) (H H' : Hp) : Prop := ∀ b o, b ≠ p → H b = some o → H' b = some o
theorem Same.kp {p : Addr} {H H' : Hp} (h : Same H H') : Kp p H H' := fun b o _ e => h b o e
theorem Kp.refl {p : Addr} {H : Hp} : Kp p H H := fun _ _ _ e => e
theorem Kp.trans {p : Addr} {H H1 H2 : Hp} (a : Kp p H H1) (b : Kp p H1 H2) : Kp p H H2 := fun c o n e => b c o n (a c o n e)
theorem Kp.get {p : Addr} {H H' : Hp} (h : Kp p H H') {b : Addr} {o : HO} (n : b ≠ p) (e : H b = some o) : H' b = some o := h b o n e
theorem Kp.updp {p : Addr} {H H' : Hp} {o : HO} (h : Kp p H H') : Kp p H (upd H' p o) := fun b u n e => by
  rw [upd_ne n]
  exact h b u n e
theorem Kp.upd {p a : Addr} {H H' : Hp} {o : HO} (h : Kp p H H') (n : H a = none) : Kp p H (upd H' a o) := fun b u m e => by
  rw [upd_ne (ne_of_none e n)]
  exact h b u m e
theorem Same.upd {a : Addr} {H H' : Hp} {o : HO} (h : Same H H') (n : H a = none) : Same H (L2.upd H' a o) := fun b u e => by
  rw [upd_ne (ne_of_none e n)]
  exact h b u e
theorem Kp.same {p : Addr} {H H' : Hp} (h : Kp p H H') (n : H p = none) : Same H H' := fun b o e => h b o (ne_of_none e n) e
theorem Kp.free {p a : Addr} {H H' : Hp} (h : Kp p H H') (n : a ≠ p) (e : H' a = none) : H a = none := by
  cases q : H a with
  | none => rfl
  | some o => rw [h a o n q] at e; cases e
/-- a stream -/
def Stm (H : Hp) (p : Addr) : Prop := ∃ a b : Int, H p = some (.lst [.int a, .int b]) ∧ 0 ≤ a ∧ 0 ≤ b
theorem Stm.ne {H : Hp} {p a : Addr} (h : Stm H p) (e : H a = none) : a ≠ p := by
  obtain ⟨x, y, h, _⟩ := h
  exact (ne_of_none h e).symm
theorem Stm.same {H H' : Hp} {p : Addr} (h : Stm H p) (s : Same H H') : Stm H' p := by
  obtain ⟨x, y, h, r⟩ := h
  exact ⟨x, y, s _ _ h, r⟩
theorem Stm.up {H : Hp} {p a : Addr} {o : HO} (h : Stm H p) (e : H a = none) : Stm (L2.upd H a o) p := by
  obtain ⟨x, y, h, r⟩ := h
  exact ⟨x, y, by rw [upd_ne (ne_of_none h e)]; exact h, r⟩

/-! ### steps, in the order of the reading -/
section
variable {K : PySem.W.Frag} {σ : L2.St} {H : Hp} {Q : VK} {v : V} {ta tb tc te : TE} {tt uu : TT} {r r' : R2} {D : Ends} {t u : TS}
theorem w_var {i : Nat} (h : σ[i]? = some (some v)) (q : Q v H) : tVar i σ H Q := ⟨v, h, q⟩
theorem w_c (q : Q v H) : tC v σ H Q := q
theorem w_op (q : ta σ H fun x H1 => tb σ H1 fun y H2 => r x y H2 Q) : tOp r ta tb σ H Q := q
theorem w_un {r : V → Hp → VK → Prop} (q : ta σ H fun x H1 => r x H1 Q) : tUn r ta σ H Q := q
theorem w_I0 {g : Int → Int → V} {i j : Int} (q : Q (g i j) H) : rI0 g (.int i) (.int j) H Q := ⟨i, j, rfl, rfl, q⟩
theorem w_I {C : Int → Int → Prop} {g : Int → Int → V} {i j : Int} (c : C i j) (q : Q (g i j) H) : rI C g (.int i) (.int j) H Q := ⟨i, j, rfl, rfl, c, q⟩
theorem w_U {g : Int → V} {i : Int} (q : Q (g i) H) : rU g (.int i) H Q := ⟨i, rfl, q⟩
theorem w_eqI {i j : Int} (q : Q (.bl (decide (i = j))) H) : rEq (.int i) (.int j) H Q := ⟨rfl, by
  have e : decide (V.int i = V.int j) = decide (i = j) := by rw [decide_eq_decide]; exact ⟨fun z => V.int.inj z, fun z => by rw [z]⟩
  rw [e]; exact q⟩
theorem w_neI {i j : Int} (q : Q (.bl (decide (i ≠ j))) H) : rNe (.int i) (.int j) H Q := ⟨rfl, by
  have e : (!decide (V.int i = V.int j)) = decide (i ≠ j) := by rw [decide_not]; congr 1; rw [decide_eq_decide]; exact ⟨fun z => V.int.inj z, fun z => by rw [z]⟩
  rw [e]; exact q⟩
theorem w_eqS {i j : Str} (q : Q (.bl (decide (i = j))) H) : rEq (.str i) (.str j) H Q := ⟨rfl, by
  have e : decide (V.str i = V.str j) = decide (i = j) := by rw [decide_eq_decide]; exact ⟨fun z => V.str.inj z, fun z => by rw [z]⟩
  rw [e]; exact q⟩
theorem w_neS {i j : Str} (q : Q (.bl (decide (i ≠ j))) H) : rNe (.str i) (.str j) H Q := ⟨rfl, by
  have e : (!decide (V.str i = V.str j)) = decide (i ≠ j) := by rw [decide_not]; congr 1; rw [decide_eq_decide]; exact ⟨fun z => V.str.inj z, fun z => by rw [z]⟩
  rw [e]; exact q⟩
theorem w_eqB {i j : Bool} (q : Q (.bl (decide (i = j))) H) : rEq (.bl i) (.bl j) H Q := ⟨rfl, by
  have e : decide (V.bl i = V.bl j) = decide (i = j) := by rw [decide_eq_decide]; exact ⟨fun z => V.bl.inj z, fun z => by rw [z]⟩
  rw [e]; exact q⟩
theorem w_eqTy {a b : String} (ha : Ty9 a) (hb : Ty9 b) (q : Q (.bl (decide (a = b))) H) : rEqTy (.ty a) (.ty b) H Q := ⟨a, b, rfl, rfl, ha, hb, q⟩
theorem w_neTy {a b : String} (ha : Ty9 a) (hb : Ty9 b) (q : Q (.bl (decide (a ≠ b))) H) : rNeTy (.ty a) (.ty b) H Q := ⟨a, b, rfl, rfl, ha, hb, by rw [← decide_not]; exact q⟩
theorem w_addS {i j : Str} (h : i.length + j.length ≤ sizeLine) (q : Q (.str (i ++ j)) H) : qAddS (.str i) (.str j) H Q := ⟨i, j, rfl, rfl, h, q⟩
theorem w_inSign {c : Nat} {z : Str} (q : Q (.bl (decide (c ∈ z.cps.toList))) H) : qInSign (.str ⟨#[c]⟩) (.str z) H Q := ⟨c, z, rfl, rfl, q⟩
theorem w_ninSign {c : Nat} {z : Str} (q : Q (.bl (!decide (c ∈ z.cps.toList))) H) : qNinSign (.str ⟨#[c]⟩) (.str z) H Q := ⟨c, z, rfl, rfl, q⟩
theorem w_ixL {p : Addr} {xs : List V} {i : Int} (h : SqL K H p xs) (ha : atI xs i = some v) (q : Q v H) : rIxL K (.ref p) (.int i) H Q := ⟨p, xs, i, v, rfl, rfl, h, ha, q⟩
theorem w_ixT {p : Addr} {xs : List V} {i : Int} (h : SqT K H p xs) (ha : atI xs i = some v) (q : Q v H) : rIxT K (.ref p) (.int i) H Q := ⟨p, xs, i, v, rfl, rfl, h, ha, q⟩
theorem w_ixS {z : Str} {i : Int} {c : Nat} (h : z.length ≤ sizeLine) (ha : atI z.cps.toList i = some c) (q : Q (.str ⟨#[c]⟩) H) : rIxS (.str z) (.int i) H Q := ⟨z, i, c, rfl, rfl, h, ha, q⟩
theorem w_nil {R : List V → Hp → Prop} (q : R [] H) : tNil σ H R := q
theorem w_cons {tr : TA} {R : List V → Hp → Prop} (q : ta σ H fun x H1 => tr σ H1 fun xs H2 => R (x :: xs) H2) : tCons ta tr σ H R := q
theorem w_tup {tr : TA} (q : tr σ H fun xs H1 => xs.length ≤ sizeLine ∧ ∀ p, H1 p = none → Q (.ref p) (upd H1 p (.tup xs))) : tTup tr σ H Q := q
theorem w_lst {tr : TA} (q : tr σ H fun xs H1 => xs.length ≤ sizeLine ∧ ∀ p, H1 p = none → Q (.ref p) (upd H1 p (.lst xs))) : tLst tr σ H Q := q
theorem w_cb {r : List V → Hp → VK → Prop} {tr : TA} (q : tr σ H fun vs H1 => r vs H1 Q) : tCB r tr σ H Q := q
theorem w_lenStr {z : Str} (h : z.length ≤ sizeLine) (q : Q (.int z.length) H) : qLenStr [.str z] H Q := ⟨z, rfl, h, q⟩
theorem w_lenL {p : Addr} {xs : List V} (h : SqL K H p xs) (q : Q (.int xs.length) H) : qLenSeq K [.ref p] H Q := ⟨p, xs, rfl, .inl h, q⟩
theorem w_lenT {p : Addr} {xs : List V} (h : SqT K H p xs) (q : Q (.int xs.length) H) : qLenSeq K [.ref p] H Q := ⟨p, xs, rfl, .inr h, q⟩
theorem w_int1 {i : Int} (q : Q (.int i) H) : qInt1 [.int i] H Q := .inl ⟨i, rfl, q⟩
theorem w_int1b {c : Prop} [Decidable c] (q : Q (.int (if c then 1 else 0)) H) : qInt1 [.bl (decide c)] H Q := .inr ⟨_, rfl, by
  by_cases h : c
  · simp only [h, decide_true, if_true] at q ⊢; exact q
  · simp only [h, decide_false, if_false, Bool.false_eq_true] at q ⊢; exact q⟩
theorem w_strInt {i : Int} (h0 : 0 ≤ i) (h1 : i ≤ 100000000000000000000) (q : Q (.str (toString i)) H) : qStrInt [.int i] H Q := ⟨i, rfl, by
  have h2 : i.natAbs ≤ 100000000000000000000 := by omega
  have h3 : i.natAbs.log2 < 67 := by
    by_cases h : i.natAbs = 0
    · rw [h]; decide
    · exact (Nat.log2_lt h).mpr (Nat.lt_of_le_of_lt h2 (by decide))
  omega, q⟩
theorem w_tupleOfL {p : Addr} {ys : List V} (h : SqL K H p ys) (q : ∀ l, H l = none → Q (.ref l) (upd H l (.tup ys))) : qTupleOf K [.ref p] H Q := ⟨p, ys, rfl, .inl ⟨h, q⟩⟩
theorem w_tupleOfT {p : Addr} {ys : List V} (h : SqT K H p ys) (q : Q (.ref p) H) : qTupleOf K [.ref p] H Q := ⟨p, ys, rfl, .inr ⟨h, q⟩⟩
theorem w_listOf {p : Addr} {ys : List V} (h : SqL K H p ys ∨ SqT K H p ys) (q : ∀ l, H l = none → Q (.ref l) (upd H l (.lst ys))) : qListOf K [.ref p] H Q := ⟨p, ys, rfl, h, q⟩
theorem w_isN (q : Q (.bl (decide (v = .non))) H) : qIsN v .non H Q := ⟨rfl, q⟩
theorem w_notN (q : Q (.bl (!decide (v = .non))) H) : qNotN v .non H Q := ⟨rfl, q⟩
theorem w_bm {T : String} {r : V → List V → Hp → VK → Prop} {tr : TA} (q : te σ H fun x H1 => tyV K T x H1 ∧ tr σ H1 fun xs H2 => r x xs H2 Q) : tBM K T r te tr σ H Q := q
theorem w_tyL {p : Addr} {xs : List V} {A : Prop} (h : H p = some (.lst xs)) (q : A) : tyV K "list" (.ref p) H ∧ A := ⟨.inl ⟨rfl, xs, SqL.of h⟩, q⟩
theorem w_app {p : Addr} {xs : List V} (h : H p = some (.lst xs)) (z : xs.length < sizeLine) (q : Q .non (upd H p (.lst (xs ++ [v])))) : rAppend (.ref p) [v] H Q := ⟨p, xs, v, rfl, rfl, h, z, q⟩
theorem w_inL {neg : Bool} {p : Addr} {xs : List V} (h : SqL K H p xs) (f : flatV v = true) (fs : xs.all flatV = true) (q : Q (.bl (if neg then !inV v xs else inV v xs)) H) : rIn K neg v (.ref p) H Q := ⟨p, xs, rfl, .inl h, f, fs, q⟩
theorem w_inT {neg : Bool} {p : Addr} {xs : List V} (h : SqT K H p xs) (f : flatV v = true) (fs : xs.all flatV = true) (q : Q (.bl (if neg then !inV v xs else inV v xs)) H) : rIn K neg v (.ref p) H Q := ⟨p, xs, rfl, .inr h, f, fs, q⟩
theorem inV_strs (z : Str) (ys : List Str) : inV (.str z) (ys.map V.str) = decide (z ∈ ys) := by
  unfold inV
  rw [List.any_map, Bool.eq_iff_iff, List.any_eq_true, decide_eq_true_eq]
  constructor
  · rintro ⟨y, hy, e⟩
    have e' : (y == z) = true := e
    rw [beq_iff_eq] at e'
    exact e' ▸ hy
  · intro h
    refine ⟨z, h, ?_⟩
    show (z == z) = true
    exact beq_self_eq_true z
theorem flat_strs (ys : List Str) : (ys.map V.str).all flatV = true := by
  rw [List.all_map, List.all_eq_true]
  intro y _
  rfl
theorem w_max2 {i j : Int} (q : Q (.int (if j > i then j else i)) H) : qMax2 [.int i, .int j] H Q := ⟨i, j, rfl, q⟩
theorem w_min2 {i j : Int} (q : Q (.int (if j < i then j else i)) H) : qMin2 [.int i, .int j] H Q := ⟨i, j, rfl, q⟩
theorem w_test {R : Bool → Hp → Prop} (q : te σ H fun x H' => ∃ k, x = .bl k ∧ R k H') : tTest te σ H R := q
theorem w_B {R : Bool → Hp → Prop} (q : te σ H fun x H' => ∃ k, x = .bl k ∧ R k H') : tB te σ H R := q
theorem w_exb {b : Bool} {R : Bool → Prop} (q : R b) : ∃ k, V.bl b = .bl k ∧ R k := ⟨b, rfl, q⟩
theorem w_and {R : Bool → Hp → Prop} (q : tt σ H fun c H1 => if c = true then uu σ H1 R else R false H1) : tAnd tt uu σ H R := q
theorem w_or {R : Bool → Hp → Prop} (q : tt σ H fun c H1 => if c = true then R true H1 else uu σ H1 R) : tOr tt uu σ H R := q
theorem w_not {R : Bool → Hp → Prop} (q : tt σ H fun c H1 => R (!c) H1) : tNot tt σ H R := q
theorem w_andV (q : ta σ H fun x H1 => ∃ c, x = .bl c ∧ if c = true then tb σ H1 Q else Q (.bl false) H1) : tAndV ta tb σ H Q := q
theorem w_orV (q : ta σ H fun x H1 => ∃ c, x = .bl c ∧ if c = true then Q (.bl true) H1 else tb σ H1 Q) : tOrV ta tb σ H Q := q
theorem w_notV (q : ta σ H fun x H1 => ∃ c, x = .bl c ∧ Q (.bl (!c)) H1) : tNotV ta σ H Q := q
theorem w_if (q : tt σ H fun c H1 => if c = true then ta σ H1 Q else tb σ H1 Q) : tIf tt ta tb σ H Q := q
theorem w_chain (q : ta σ H fun x H1 => tb σ H1 fun y H2 => r x y H2 fun z H3 => ∃ k, z = .bl k ∧ (if k = true then tc σ H3 fun w' H4 => r' y w' H4 Q else Q (.bl false) H3)) : tChain r r' ta tb tc σ H Q := q
theorem w_ifS (q : tt σ H fun b H1 => if b = true then t D σ H1 else u D σ H1) : tIfS tt t u D σ H := q
theorem w_ifCut {Mid : L2.St → Hp → Prop} (k : ∀ σ' H', Mid σ' H' → D.nx σ' H') (q : ∀ R : L2.St → Hp → Prop, (∀ σ' H', Mid σ' H' → R σ' H') → tIfS tt t u { D with nx := R } σ H) : tIfS tt t u D σ H := q _ k
theorem cmul_l {i j : Int} (h0 : -1000000000000 ≤ i) (h1 : i ≤ 1000000000000) : CMul i j := .inl ⟨by omega, by omega⟩
theorem cmul_r {i j : Int} (h0 : -1000000000000 ≤ j) (h1 : j ≤ 1000000000000) : CMul i j := .inr ⟨by omega, by omega⟩
theorem w_ite {c A B : Prop} [Decidable c] (h1 : c → A) (h2 : ¬ c → B) : if decide c = true then A else B := by
  by_cases h : c
  · rw [if_pos (decide_eq_true h)]; exact h1 h
  · rw [if_neg (by rw [decide_eq_true_iff]; exact h)]; exact h2 h
theorem w_iteN {c A B : Prop} [Decidable c] (h1 : ¬ c → A) (h2 : c → B) : if (!decide c) = true then A else B := by
  by_cases h : c
  · rw [decide_eq_true h, if_neg (by decide)]; exact h2 h
  · rw [decide_eq_false h]; exact h1 h
theorem w_iteb {b : Bool} {A B : Prop} (h1 : b = true → A) (h2 : b = false → B) : if b = true then A else B := by
  cases b
  · rw [if_neg (by decide)]; exact h2 rfl
  · rw [if_pos rfl]; exact h1 rfl
theorem w_seq (q : t { D with nx := u D } σ H) : tSeq t u D σ H := q
theorem w_next (q : D.nx σ H) : tNext D σ H := q
theorem w_asg {g : TG} (q : te σ H fun x H1 => g x σ H1 D.nx) : tAsg te g D σ H := q
theorem w_name {i : Nat} {R : L2.St → Hp → Prop} (q : R (σ.set i (some v)) H) : gName i v σ H R := q
theorem w_sub {to ti : TE} {ts : TSet} {R : L2.St → Hp → Prop} (q : to σ H fun o H1 => ti σ H1 fun i H2 => ts o i v H2 fun H3 => R σ H3) : gSub to ti ts v σ H R := q
theorem w_setL {p : Addr} {xs : List V} {k : Int} {j : Nat} {R : Hp → Prop} (h : H p = some (.lst xs)) (hj : ixN xs.length k = some j) (q : R (upd H p (.lst (xs.set j v)))) : rSetL (.ref p) (.int k) v H R := ⟨p, xs, k, j, rfl, rfl, h, hj, q⟩
theorem w_ret (q : te σ H D.rt) : tRet te D σ H := q
theorem w_retN (q : D.rt .non H) : tRetN D σ H := q
theorem w_drop (q : te σ H fun _ H1 => D.nx σ H1) : tDrop te D σ H := q
theorem w_call {sp : Sp} {dvs : List V} {E : XK} {tr : TA} (q : tr σ H fun vs H1 => sp (vs ++ dvs) H1 Q E) : tCall sp dvs E tr σ H Q := q
theorem w_sl {r : V → Option Int → Option Int → Hp → VK → Prop} {tl th : TO} (q : te σ H fun x H1 => tl σ H1 fun l H2 => th σ H2 fun u H3 => r x l u H3 Q) : tSl r te tl th σ H Q := q
theorem w_noPart {R : Option Int → Hp → Prop} (q : R none H) : tNoPart σ H R := q
theorem w_part {R : Option Int → Hp → Prop} (q : te σ H fun x H1 => ∃ i, x = .int i ∧ R (some i) H1) : tPart te σ H R := q
theorem w_exi {i : Int} {R : Int → Prop} (q : R i) : ∃ k, V.int i = .int k ∧ R k := ⟨i, rfl, q⟩
theorem w_slS {z : Str} {lo hi : Option Int} (h : z.length ≤ sizeLine) (q : Q (.str (cutS z lo hi)) H) : rSlS (.str z) lo hi H Q := ⟨z, rfl, h, q⟩
theorem w_isi {x : V} {t : Value} {T : String} {b : Bool} (h : TyX K H x t) (k : PySem.W.kitOne K t (.type T) = some b) (q : Q (.bl b) H) : rIsi K [x, .ty T] H Q := ⟨x, _, t, _, b, rfl, .ty T, h, k, q⟩
theorem w_typ {x : V} {T : String} (h : TyB K H x T) (q : Q (.ty T) H) : rTyp K [x] H Q := ⟨x, T, rfl, h, q⟩
theorem w_cat {l b : Addr} {xs zs : List V} (h : H l = some (.lst xs)) (h' : H b = some (.lst zs)) (z : xs.length + zs.length ≤ sizeLine) (q : ∀ p, H p = none → Q (.ref p) (upd H p (.lst (xs ++ zs)))) : rCat (.ref l) (.ref b) H Q := ⟨l, b, xs, zs, rfl, rfl, h, h', z, q⟩
theorem w_isBl {a b : Bool} (q : Q (.bl (decide (a = b))) H) : qIsBl (.bl a) (.bl b) H Q := ⟨a, b, rfl, rfl, q⟩
theorem w_nf {A B : Prop} (q : A) : if (!false) = true then A else B := q
theorem w_nt {A B : Prop} (q : B) : if (!true) = true then A else B := q
theorem w_len0 {n : Nat} {A : Prop} (h : n ≤ sizeLine) (q : A) : n ≤ sizeLine ∧ A := ⟨h, q⟩
end
theorem sz {n : Nat} (h : n ≤ 100000) : n ≤ sizeLine := Nat.le_trans h (by decide)
theorem atI_of {α : Type} {xs : List α} {i : Int} {v : α} (h0 : 0 ≤ i) (h : xs[i.toNat]? = some v) : atI xs i = some v := by
  have e : ((i.toNat : Nat) : Int) = i := Int.toNat_of_nonneg h0
  rw [← e]
  exact atI_nat h
end Wp

namespace Wp
open PySem PySem.Spec PyProof.Rows L2 TyNe

/-! ### what is made of data -/
mutual
/-- v denotes d at H; every object on the way stands at an address that ok takes -/
inductive Dn (ok : Addr → Prop) (H : Hp) : V → PyData → Prop where
  | non : Dn ok H .non .none
  | bl (b : Bool) : Dn ok H (.bl b) (.bool b)
  | int (i : Int) : Dn ok H (.int i) (.int i)
  | str (x : Str) : Dn ok H (.str x) (.str x)
  | lst {a : Addr} {xs : List V} {ds : List PyData} (ha : ok a) (h : H a = some (.lst xs)) (hs : DnAll ok H xs ds) : Dn ok H (.ref a) (.list ds)
  | tup {a : Addr} {xs : List V} {ds : List PyData} (ha : ok a) (h : H a = some (.tup xs)) (hs : DnAll ok H xs ds) : Dn ok H (.ref a) (.tuple ds)
  | dic {a : Addr} {kvs : List (Key × V)} (ha : ok a) (h : H a = some (.dK kvs)) : Dn ok H (.ref a) (.dict [])
inductive DnAll (ok : Addr → Prop) (H : Hp) : List V → List PyData → Prop where
  | nil : DnAll ok H [] []
  | cons {v : V} {vs : List V} {d : PyData} {ds : List PyData} (h : Dn ok H v d) (hs : DnAll ok H vs ds) : DnAll ok H (v :: vs) (d :: ds)
end
mutual
theorem Dn.step {ok : Addr → Prop} {H H' : Hp} (k : ∀ a o, ok a → H a = some o → H' a = some o) {v : V} {d : PyData} : Dn ok H v d → Dn ok H' v d
  | .non => .non
  | .bl b => .bl b
  | .int i => .int i
  | .str x => .str x
  | .lst ha h hs => .lst ha (k _ _ ha h) (DnAll.step k hs)
  | .tup ha h hs => .tup ha (k _ _ ha h) (DnAll.step k hs)
  | .dic ha h => .dic ha (k _ _ ha h)
theorem DnAll.step {ok : Addr → Prop} {H H' : Hp} (k : ∀ a o, ok a → H a = some o → H' a = some o) {vs : List V} {ds : List PyData} : DnAll ok H vs ds → DnAll ok H' vs ds
  | .nil => .nil
  | .cons h hs => .cons (Dn.step k h) (DnAll.step k hs)
end
mutual
theorem Dn.weak {ok ok' : Addr → Prop} {H : Hp} (k : ∀ a o, ok a → H a = some o → ok' a) {v : V} {d : PyData} : Dn ok H v d → Dn ok' H v d
  | .non => .non
  | .bl b => .bl b
  | .int i => .int i
  | .str x => .str x
  | .lst ha h hs => .lst (k _ _ ha h) h (DnAll.weak k hs)
  | .tup ha h hs => .tup (k _ _ ha h) h (DnAll.weak k hs)
  | .dic ha h => .dic (k _ _ ha h) h
theorem DnAll.weak {ok ok' : Addr → Prop} {H : Hp} (k : ∀ a o, ok a → H a = some o → ok' a) {vs : List V} {ds : List PyData} : DnAll ok H vs ds → DnAll ok' H vs ds
  | .nil => .nil
  | .cons h hs => .cons (Dn.weak k h) (DnAll.weak k hs)
end
/-- off the address p -/
abbrev Off (p : Addr) : Addr → Prop := fun a => a ≠ p
abbrev Any : Addr → Prop := fun _ => True
theorem Dn.same {ok : Addr → Prop} {H H' : Hp} {v : V} {d : PyData} (h : Dn ok H v d) (s : Same H H') : Dn ok H' v d := h.step fun a o _ e => s a o e
theorem Dn.kp {p : Addr} {H H' : Hp} {v : V} {d : PyData} (h : Dn (Off p) H v d) (s : Kp p H H') : Dn (Off p) H' v d := h.step fun a o n e => s a o n e
theorem Dn.any {ok : Addr → Prop} {H : Hp} {v : V} {d : PyData} (h : Dn ok H v d) : Dn Any H v d := h.weak fun _ _ _ _ => trivial
theorem Dn.off {ok : Addr → Prop} {p : Addr} {H : Hp} {v : V} {d : PyData} (h : Dn ok H v d) (n : H p = none) : Dn (Off p) H v d := h.weak fun a o _ e => ne_of_none e n
theorem DnAll.same {ok : Addr → Prop} {H H' : Hp} {v : List V} {d : List PyData} (h : DnAll ok H v d) (s : Same H H') : DnAll ok H' v d := h.step fun a o _ e => s a o e
theorem DnAll.kp {p : Addr} {H H' : Hp} {v : List V} {d : List PyData} (h : DnAll (Off p) H v d) (s : Kp p H H') : DnAll (Off p) H' v d := h.step fun a o n e => s a o n e
theorem DnAll.any {ok : Addr → Prop} {H : Hp} {v : List V} {d : List PyData} (h : DnAll ok H v d) : DnAll Any H v d := h.weak fun _ _ _ _ => trivial
theorem DnAll.off {ok : Addr → Prop} {p : Addr} {H : Hp} {v : List V} {d : List PyData} (h : DnAll ok H v d) (n : H p = none) : DnAll (Off p) H v d := h.weak fun a o _ e => ne_of_none e n
theorem DnAll.len {ok : Addr → Prop} {H : Hp} : ∀ {vs : List V} {ds : List PyData}, DnAll ok H vs ds → vs.length = ds.length
  | _, _, .nil => rfl
  | _, _, .cons _ hs => congrArg (· + 1) (DnAll.len hs)
theorem DnAll.get {ok : Addr → Prop} {H : Hp} : ∀ {vs : List V} {ds : List PyData} {i : Nat} {v : V}, DnAll ok H vs ds → vs[i]? = some v → ∃ d, ds[i]? = some d ∧ Dn ok H v d
  | _, _, _, _, .nil, e => by simp at e
  | _, _, 0, _, .cons h _, e => by
    have e' := Option.some.inj e
    subst e'
    exact ⟨_, rfl, h⟩
  | _, _, i + 1, v, .cons _ hs, e => DnAll.get (i := i) hs e
theorem DnAll.app {ok : Addr → Prop} {H : Hp} : ∀ {vs ws : List V} {ds es : List PyData}, DnAll ok H vs ds → DnAll ok H ws es → DnAll ok H (vs ++ ws) (ds ++ es)
  | _, _, _, _, .nil, h => h
  | _, _, _, _, .cons h hs, h' => .cons h (DnAll.app hs h')
def tyN : PyData → String
  | .none => "NoneType" | .bool _ => "bool" | .int _ => "int" | .str _ => "str" | .list _ => "list" | .tuple _ => "tuple" | .dict _ => "dict"
theorem Dn.tyB {K : PySem.W.Frag} {ok : Addr → Prop} {H : Hp} {v : V} {d : PyData} (h : Dn ok H v d) : TyB K H v (tyN d) := by
  cases h with
  | non => exact .non
  | bl b => exact .bl b
  | int i => exact .int i
  | str x => exact .str x
  | lst ha h hs => exact .lst (SqL.of h)
  | tup ha h hs => exact .tup (SqT.of h)
  | dic ha h => exact .dK h
theorem Dn.tyX {K : PySem.W.Frag} {ok : Addr → Prop} {H : Hp} {v : V} {d : PyData} (h : Dn ok H v d) : TyX K H v (.type (tyN d)) := by
  cases h with
  | non => exact .base .non
  | bl b => exact .base (.bl b)
  | int i => exact .base (.int i)
  | str x => exact .base (.str x)
  | lst ha h hs => exact .base (.lst h)
  | tup ha h hs => exact .base (.tup h)
  | dic ha h => exact .base (.dK h)
theorem ty9 (d : PyData) : Ty9 (tyN d) := by
  cases d
  · exact TypeEq.meta_NoneType
  · exact TypeEq.meta_bool
  · exact TypeEq.meta_int
  · exact TypeEq.meta_str
  · exact TypeEq.meta_list
  · exact TypeEq.meta_tuple
  · exact TypeEq.meta_dict
theorem kit_str {K : PySem.W.Frag} (d : PyData) : PySem.W.kitOne K (.type (tyN d)) (.type "str") = some (decide (tyN d = "str")) := by
  have hh : ∀ a ∈ ["NoneType", "bool", "int", "str", "list", "tuple", "dict"], kitB a "str" = some (decide (a = "str")) := by decide +kernel
  exact kit_ty (hh _ (by cases d <;> simp [tyN]))
theorem kit_tuple {K : PySem.W.Frag} (d : PyData) : PySem.W.kitOne K (.type (tyN d)) (.type "tuple") = some (decide (tyN d = "tuple")) := by
  have hh : ∀ a ∈ ["NoneType", "bool", "int", "str", "list", "tuple", "dict"], kitB a "tuple" = some (decide (a = "tuple")) := by decide +kernel
  exact kit_ty (hh _ (by cases d <;> simp [tyN]))
theorem kit_list {K : PySem.W.Frag} (d : PyData) : PySem.W.kitOne K (.type (tyN d)) (.type "list") = some (decide (tyN d = "list")) := by
  have hh : ∀ a ∈ ["NoneType", "bool", "int", "str", "list", "tuple", "dict"], kitB a "list" = some (decide (a = "list")) := by decide +kernel
  exact kit_ty (hh _ (by cases d <;> simp [tyN]))
theorem kit_bool {K : PySem.W.Frag} (d : PyData) : PySem.W.kitOne K (.type (tyN d)) (.type "bool") = some (decide (tyN d = "bool")) := by
  have hh : ∀ a ∈ ["NoneType", "bool", "int", "str", "list", "tuple", "dict"], kitB a "bool" = some (decide (a = "bool")) := by decide +kernel
  exact kit_ty (hh _ (by cases d <;> simp [tyN]))
theorem kit_int {K : PySem.W.Frag} (d : PyData) : PySem.W.kitOne K (.type (tyN d)) (.type "int") = some (decide (tyN d = "int" ∨ tyN d = "bool")) := by
  have hh : ∀ a ∈ ["NoneType", "bool", "int", "str", "list", "tuple", "dict"], kitB a "int" = some (decide (a = "int" ∨ a = "bool")) := by decide +kernel
  exact kit_ty (hh _ (by cases d <;> simp [tyN]))

/-! ### loops -/
section
variable {K : PySem.W.Frag} {σ : L2.St} {H : Hp} {Q : VK} {ta : TA} {te : TE} {g : TG} {tb : TS} {D : Ends} {tt : TT}
theorem w_forR (q : ta σ H fun vs H1 => ∃ n : Int, vs = [.int n] ∧ -(2 ^ 62) ≤ n ∧ n < 2 ^ 62 ∧ ∃ Pv : Nat → L2.St → Hp → Prop, Pv 0 σ H1 ∧
    (∀ (i : Nat) σ H, (i : Int) < n → Pv i σ H → g (.int (i : Int)) σ H fun σ2 H2 => tb { D with nx := Pv (i + 1), ct := Pv (i + 1), bk := D.nx } σ2 H2) ∧ ∀ σ H, Pv n.toNat σ H → D.nx σ H)
    (mono : ∀ R R' : List V → Hp → Prop, (∀ vs H, R vs H → R' vs H) → ta σ H R → ta σ H R') : tFor (iRng1 ta) g tb D σ H := by
  refine mono _ _ (fun vs H1 h => ?_) q
  obtain ⟨n, rfl, h1, h2, Pv, p0, ps, pd⟩ := h
  refine ⟨n, rfl, h1, h2, for_range (lo := 0) (n := n.toNat) Pv p0 (fun i σ' H' hi p => ?_) pd⟩
  have e0 : (0 : Int) + (i : Int) = (i : Int) := Int.zero_add _
  rw [e0]
  exact ps i σ' H' (by omega) p
theorem w_for {wi : TI} (q : wi σ H fun J H1 => ∃ W : Nat → Nat → L2.St → Hp → Prop, (∃ m, W 0 m σ H1) ∧ ∀ i m σ H, W i m σ H →
  (J.stop i H ∧ D.nx σ H) ∨ (J.go i H ∧ ∃ N : L2.St → Hp → Prop, (∀ σ' H', N σ' H' → ∃ m', m' < m ∧ W (i + 1) m' σ' H') ∧ ∀ x H', J.yld i H x H' → g x σ H' fun σ2 H2 => tb { D with nx := N, ct := N, bk := D.nx } σ2 H2)) : tFor wi g tb D σ H := q
theorem w_iRng1 {R : It → Hp → Prop} (q : ta σ H fun vs H1 => ∃ j : Int, vs = [.int j] ∧ -(2 ^ 62) ≤ j ∧ j < 2 ^ 62 ∧ R (Itr 0 j.toNat) H1) : iRng1 ta σ H R := q
theorem w_iRng2 {R : It → Hp → Prop} (q : ta σ H fun vs H1 => ∃ i j : Int, vs = [.int i, .int j] ∧ (-(2 ^ 62) ≤ i ∧ i < 2 ^ 62 ∧ -(2 ^ 62) ≤ j ∧ j < 2 ^ 62) ∧ R (Itr i (j - i).toNat) H1) : iRng2 ta σ H R := q
theorem w_iList {R : It → Hp → Prop} (q : te σ H fun x H1 => ∃ a, x = .ref a ∧ (∃ xs, SqL K H1 a xs) ∧ R (Itl K a) H1) : iList K te σ H R := q
theorem w_iTup {R : It → Hp → Prop} (q : te σ H fun x H1 => ∃ a, x = .ref a ∧ (∃ xs, SqT K H1 a xs) ∧ R (Itt K a) H1) : iTup K te σ H R := q
theorem w_iStr {R : It → Hp → Prop} (q : te σ H fun v H1 => ∃ x, v = .str x ∧ R (Its x) H1) : iStr te σ H R := q
/-- the end of iRng1's reading in a for -/
theorem w_rng {n : Int} (h1 : -(2 ^ 62) ≤ n) (h2 : n < 2 ^ 62) (Pv : Nat → L2.St → Hp → Prop) (p0 : Pv 0 σ H)
    (ps : ∀ (i : Nat) σ H, (i : Int) < n → Pv i σ H → g (.int (i : Int)) σ H fun σ2 H2 => tb { D with nx := Pv (i + 1), ct := Pv (i + 1), bk := D.nx } σ2 H2) (pd : ∀ σ H, Pv n.toNat σ H → D.nx σ H) :
    ∃ j : Int, [V.int n] = [.int j] ∧ -(2 ^ 62) ≤ j ∧ j < 2 ^ 62 ∧ ∃ W : Nat → Nat → L2.St → Hp → Prop, (∃ m, W 0 m σ H) ∧ ∀ i m σ H, W i m σ H →
  ((Itr 0 j.toNat).stop i H ∧ D.nx σ H) ∨ ((Itr 0 j.toNat).go i H ∧ ∃ N : L2.St → Hp → Prop, (∀ σ' H', N σ' H' → ∃ m', m' < m ∧ W (i + 1) m' σ' H') ∧ ∀ x H', (Itr 0 j.toNat).yld i H x H' → g x σ H' fun σ2 H2 => tb { D with nx := N, ct := N, bk := D.nx } σ2 H2) := by
  refine ⟨n, rfl, h1, h2, for_range (lo := 0) (n := n.toNat) Pv p0 (fun i σ' H' hi p => ?_) pd⟩
  have e0 : (0 : Int) + (i : Int) = (i : Int) := Int.zero_add _
  rw [e0]
  exact ps i σ' H' (by omega) p
/-- the end of iList's reading in a for -/
theorem w_lstF {a : Addr} {xs : List V} (hx : SqL K H a xs) (Pv : Nat → L2.St → Hp → Prop) (p0 : Pv 0 σ H) (hl : ∀ i σ H, i ≤ xs.length → Pv i σ H → SqL K H a xs)
    (ps : ∀ i x σ H, xs[i]? = some x → Pv i σ H → g x σ H fun σ2 H2 => tb { D with nx := Pv (i + 1), ct := Pv (i + 1), bk := D.nx } σ2 H2) (pd : ∀ σ H, Pv xs.length σ H → D.nx σ H) :
    ∃ b, V.ref a = .ref b ∧ (∃ xs, SqL K H b xs) ∧ ∃ W : Nat → Nat → L2.St → Hp → Prop, (∃ m, W 0 m σ H) ∧ ∀ i m σ H, W i m σ H →
  ((Itl K b).stop i H ∧ D.nx σ H) ∨ ((Itl K b).go i H ∧ ∃ N : L2.St → Hp → Prop, (∀ σ' H', N σ' H' → ∃ m', m' < m ∧ W (i + 1) m' σ' H') ∧ ∀ x H', (Itl K b).yld i H x H' → g x σ H' fun σ2 H2 => tb { D with nx := N, ct := N, bk := D.nx } σ2 H2) :=
  ⟨a, rfl, ⟨xs, hx⟩, for_list (xs := xs) Pv p0 hl ps pd⟩
end
/-! ### comprehensions whose element and test leave all that was tracked -/
section
variable {K : PySem.W.Frag} {σ : L2.St} {H : Hp} {Q : VK} {te : TE} {tt : TT} {vs : List Nat} {g : TG}
theorem lc_fm {Qd : Addr → Hp → Prop} {J : It} {its : List V} {G : Hp → Prop} {Y : Nat → Hp → V → Hp → Prop} (w : Walk J its.length G Y) (hy : ∀ i H x H', i < its.length → Y i H x H' → H' = H ∧ its[i]? = some x)
    (hG : ∀ H1, Same H H1 → G H1) (f : V → V) (k : V → Bool) (bind : V → L2.St)
    (hg : ∀ x H1 (R : L2.St → Hp → Prop), R (bind x) H1 → g x (wipe σ vs) H1 R) (hw : ∀ x, wipe (bind x) vs = wipe σ vs)
    (ht : ∀ x ∈ its, ∀ H1, Same H H1 → ∀ R : Bool → Hp → Prop, (∀ H2, Same H1 H2 → R (k x) H2) → tt (bind x) H1 R)
    (he : ∀ x ∈ its, k x = true → ∀ H1, Same H H1 → ∀ R : VK, (∀ H2, Same H1 H2 → R (f x) H2) → te (bind x) H1 R)
    (hlen : its.length < sizeLine) (q : ∀ D H1, H D = none → Same H H1 → H1 D = some (.lst ((its.filter k).map f)) → Qd D H1) :
    ∀ D, H D = none → ∃ W : Nat → Nat → Hp → Prop, (∃ m, W 0 m (upd H D (.lst []))) ∧ ∀ i m H, W i m H →
  (J.stop i H ∧ Qd D H) ∨ (J.go i H ∧ ∃ Nx : Hp → Prop, (∀ H', Nx H' → ∃ m', m' < m ∧ W (i + 1) m' H') ∧ ∀ x H', J.yld i H x H' → g x (wipe σ vs) H' fun σ2 H2 => wipe σ2 vs = wipe σ vs ∧ tt σ2 H2 fun b H3 =>
    if b = true then te σ2 H3 fun y H4 => ∃ acc, H4 D = some (.lst acc) ∧ acc.length < sizeLine ∧ Nx (upd H4 D (.lst (acc ++ [y]))) else Nx H3) := by
  intro D hD
  refine lc_it w (Pv := fun i H' => Same H H' ∧ H' D = some (.lst (((its.take i).filter k).map f))) ⟨Same.upd (Same.refl H) hD, upd_same⟩ (fun i H' _ p => hG H' p.1) (fun i x H' H'' hi p y => ?_) (fun H' p => ?_)
  · obtain ⟨e, hx⟩ := hy i H' x H'' hi y
    subst e
    obtain ⟨s, hD'⟩ := p
    have hm : x ∈ its := List.mem_of_getElem? hx
    have et : its.take (i + 1) = its.take i ++ [x] := by rw [List.take_add_one, hx]; rfl
    refine hg x H'' _ ⟨hw x, ht x hm H'' s _ fun H2 s2 => ?_⟩
    cases hk : k x with
    | true =>
      rw [if_pos rfl]
      refine he x hm hk H2 (s.trans s2) _ fun H3 s3 => ?_
      have hD3 : H3 D = some (.lst (((its.take i).filter k).map f)) := s3 _ _ (s2 _ _ hD')
      refine ⟨_, hD3, ?_, ?_, ?_⟩
      · rw [List.length_map]
        have h1 := List.length_filter_le k (its.take i)
        have h2 : (its.take i).length ≤ its.length := by rw [List.length_take]; omega
        omega
      · exact fun b o e => by
          rw [upd_ne (ne_of_none e hD)]
          exact s3 _ _ (s2 _ _ (s _ _ e))
      · rw [upd_same, et, List.filter_append, List.map_append, List.filter_cons_of_pos hk]
        rfl
    | false =>
      rw [if_neg (by decide)]
      refine ⟨s.trans s2, ?_⟩
      rw [et, List.filter_append, List.filter_cons_of_neg (by simp [hk]), List.filter_nil, List.append_nil]
      exact s2 _ _ hD'
  · obtain ⟨s, hD'⟩ := p
    rw [List.take_length] at hD'
    exact q D H' hD s hD'
/-- over a text, one name bound -/
def sgns (z : Str) : List V := z.cps.toList.map fun c => V.str ⟨#[c]⟩
theorem sgns_len {z : Str} : (sgns z).length = z.cps.size := by unfold sgns; simp
theorem w_lc {wi : TI} (q : wi σ H fun J H1 => ∀ D, H1 D = none → ∃ W : Nat → Nat → Hp → Prop, (∃ m, W 0 m (upd H1 D (.lst []))) ∧ ∀ i m H, W i m H →
  (J.stop i H ∧ Q (.ref D) H) ∨ (J.go i H ∧ ∃ Nx : Hp → Prop, (∀ H', Nx H' → ∃ m', m' < m ∧ W (i + 1) m' H') ∧ ∀ x H', J.yld i H x H' → g x (wipe σ vs) H' fun σ2 H2 => wipe σ2 vs = wipe σ vs ∧ tt σ2 H2 fun b H3 =>
    if b = true then te σ2 H3 fun y H4 => ∃ acc, H4 D = some (.lst acc) ∧ acc.length < sizeLine ∧ Nx (upd H4 D (.lst (acc ++ [y]))) else Nx H3)) : tLc wi g tt te vs σ H Q := q
theorem lcStr {Qd : Addr → Hp → Prop} {z : Str} {i : Nat} (hz : z.length ≤ 100000) (f : V → V) (k : V → Bool) (hw : ∀ x, wipe ((wipe σ vs).set i (some x)) vs = wipe σ vs)
    (ht : ∀ x ∈ sgns z, ∀ H1, Same H H1 → ∀ R : Bool → Hp → Prop, (∀ H2, Same H1 H2 → R (k x) H2) → tt ((wipe σ vs).set i (some x)) H1 R)
    (he : ∀ x ∈ sgns z, k x = true → ∀ H1, Same H H1 → ∀ R : VK, (∀ H2, Same H1 H2 → R (f x) H2) → te ((wipe σ vs).set i (some x)) H1 R)
    (q : ∀ D H1, H D = none → Same H H1 → H1 D = some (.lst (((sgns z).filter k).map f)) → Qd D H1) :
    ∀ D, H D = none → ∃ W : Nat → Nat → Hp → Prop, (∃ m, W 0 m (upd H D (.lst []))) ∧ ∀ j m H, W j m H →
  ((Its z).stop j H ∧ Qd D H) ∨ ((Its z).go j H ∧ ∃ Nx : Hp → Prop, (∀ H', Nx H' → ∃ m', m' < m ∧ W (j + 1) m' H') ∧ ∀ x H', (Its z).yld j H x H' → gName i x (wipe σ vs) H' fun σ2 H2 => wipe σ2 vs = wipe σ vs ∧ tt σ2 H2 fun b H3 =>
    if b = true then te σ2 H3 fun y H4 => ∃ acc, H4 D = some (.lst acc) ∧ acc.length < sizeLine ∧ Nx (upd H4 D (.lst (acc ++ [y]))) else Nx H3) := by
  have hl : (sgns z).length < sizeLine := by
    rw [sgns_len]
    exact Nat.lt_of_le_of_lt hz (by decide)
  refine lc_fm (its := sgns z) (by rw [sgns_len]; exact walk_str) (fun j H x H' hj y => ?_) (fun _ _ => trivial) f k (fun x => (wipe σ vs).set i (some x)) (fun x H1 R r => r) hw ht he hl q
  obtain ⟨e, c, hc, rfl⟩ := y
  refine ⟨e, ?_⟩
  unfold sgns
  rw [List.getElem?_map, Array.getElem?_toList, hc]
  rfl
theorem lcL {Qd : Addr → Hp → Prop} {a : Addr} {its : List V} {i : Nat} (hS : ∀ H1, Same H H1 → SqL K H1 a its) (hl : its.length < sizeLine) (f : V → V) (k : V → Bool) (hw : ∀ x, wipe ((wipe σ vs).set i (some x)) vs = wipe σ vs)
    (ht : ∀ x ∈ its, ∀ H1, Same H H1 → ∀ R : Bool → Hp → Prop, (∀ H2, Same H1 H2 → R (k x) H2) → tt ((wipe σ vs).set i (some x)) H1 R)
    (he : ∀ x ∈ its, k x = true → ∀ H1, Same H H1 → ∀ R : VK, (∀ H2, Same H1 H2 → R (f x) H2) → te ((wipe σ vs).set i (some x)) H1 R)
    (q : ∀ D H1, H D = none → Same H H1 → H1 D = some (.lst ((its.filter k).map f)) → Qd D H1) :
    ∃ b, V.ref a = .ref b ∧ (∃ xs, SqL K H b xs) ∧ ∀ D, H D = none → ∃ W : Nat → Nat → Hp → Prop, (∃ m, W 0 m (upd H D (.lst []))) ∧ ∀ j m H, W j m H →
  ((Itl K b).stop j H ∧ Qd D H) ∨ ((Itl K b).go j H ∧ ∃ Nx : Hp → Prop, (∀ H', Nx H' → ∃ m', m' < m ∧ W (j + 1) m' H') ∧ ∀ x H', (Itl K b).yld j H x H' → gName i x (wipe σ vs) H' fun σ2 H2 => wipe σ2 vs = wipe σ vs ∧ tt σ2 H2 fun b H3 =>
    if b = true then te σ2 H3 fun y H4 => ∃ acc, H4 D = some (.lst acc) ∧ acc.length < sizeLine ∧ Nx (upd H4 D (.lst (acc ++ [y]))) else Nx H3) :=
  ⟨a, rfl, ⟨its, hS H (Same.refl H)⟩, lc_fm (its := its) walk_list (fun j H x H' hj y => y) hS f k (fun x => (wipe σ vs).set i (some x)) (fun x H1 R r => r) hw ht he hl q⟩
theorem lcT {Qd : Addr → Hp → Prop} {a : Addr} {its : List V} {i : Nat} (hS : ∀ H1, Same H H1 → SqT K H1 a its) (hl : its.length < sizeLine) (f : V → V) (k : V → Bool) (hw : ∀ x, wipe ((wipe σ vs).set i (some x)) vs = wipe σ vs)
    (ht : ∀ x ∈ its, ∀ H1, Same H H1 → ∀ R : Bool → Hp → Prop, (∀ H2, Same H1 H2 → R (k x) H2) → tt ((wipe σ vs).set i (some x)) H1 R)
    (he : ∀ x ∈ its, k x = true → ∀ H1, Same H H1 → ∀ R : VK, (∀ H2, Same H1 H2 → R (f x) H2) → te ((wipe σ vs).set i (some x)) H1 R)
    (q : ∀ D H1, H D = none → Same H H1 → H1 D = some (.lst ((its.filter k).map f)) → Qd D H1) :
    ∃ b, V.ref a = .ref b ∧ (∃ xs, SqT K H b xs) ∧ ∀ D, H D = none → ∃ W : Nat → Nat → Hp → Prop, (∃ m, W 0 m (upd H D (.lst []))) ∧ ∀ j m H, W j m H →
  ((Itt K b).stop j H ∧ Qd D H) ∨ ((Itt K b).go j H ∧ ∃ Nx : Hp → Prop, (∀ H', Nx H' → ∃ m', m' < m ∧ W (j + 1) m' H') ∧ ∀ x H', (Itt K b).yld j H x H' → gName i x (wipe σ vs) H' fun σ2 H2 => wipe σ2 vs = wipe σ vs ∧ tt σ2 H2 fun b H3 =>
    if b = true then te σ2 H3 fun y H4 => ∃ acc, H4 D = some (.lst acc) ∧ acc.length < sizeLine ∧ Nx (upd H4 D (.lst (acc ++ [y]))) else Nx H3) :=
  ⟨a, rfl, ⟨its, hS H (Same.refl H)⟩, lc_fm (its := its) walk_tup (fun j H x H' hj y => y) hS f k (fun x => (wipe σ vs).set i (some x)) (fun x H1 R r => r) hw ht he hl q⟩
theorem w_exs {z : Str} {R : Str → Prop} (q : R z) : ∃ x, V.str z = .str x ∧ R x := ⟨z, rfl, q⟩
theorem w_lcStr {z : Str} {tz : TE} {i : Nat} (hz : z.length ≤ 100000) (f : V → V) (k : V → Bool)
    (hq : ∀ R : It → Hp → Prop, R (Its z) H → iStr tz σ H R) (hw : ∀ x, wipe ((wipe σ vs).set i (some x)) vs = wipe σ vs)
    (ht : ∀ x ∈ sgns z, ∀ H1, Same H H1 → ∀ R : Bool → Hp → Prop, (∀ H2, Same H1 H2 → R (k x) H2) → tt ((wipe σ vs).set i (some x)) H1 R)
    (he : ∀ x ∈ sgns z, k x = true → ∀ H1, Same H H1 → ∀ R : VK, (∀ H2, Same H1 H2 → R (f x) H2) → te ((wipe σ vs).set i (some x)) H1 R)
    (q : ∀ D H1, H D = none → Same H H1 → H1 D = some (.lst (((sgns z).filter k).map f)) → Q (.ref D) H1) :
    tLc (iStr tz) (gName i) tt te vs σ H Q := hq _ (lcStr hz f k hw ht he q)
theorem w_all {a : Addr} {bs : List Bool} (h : SqL K H a (bs.map V.bl)) (q : Q (.bl (bs.all id)) H) : rAll K [.ref a] H Q := ⟨a, bs, rfl, h, q⟩
end
end Wp

namespace Wp
open PySem PySem.Spec PyProof.Rows L2 TyNe

/-! ### what an expression yields, as data, while one stream at p is drawn from -/
def EvS (p : Addr) (te : TE) (σ : L2.St) (H : Hp) (P : PyData → Prop) : Prop := ∀ H1, Kp p H H1 → Stm H1 p → ∀ Q : VK, (∀ v d H2, Kp p H1 H2 → Stm H2 p → P d → Dn (Off p) H2 v d → Q v H2) → te σ H1 Q
def EvSs (p : Addr) (ta : TA) (σ : L2.St) (H : Hp) (P : List PyData → Prop) : Prop := ∀ H1, Kp p H H1 → Stm H1 p → ∀ Q : List V → Hp → Prop, (∀ vs ds H2, Kp p H1 H2 → Stm H2 p → P ds → DnAll (Off p) H2 vs ds → Q vs H2) → ta σ H1 Q
section
variable {p : Addr} {te : TE} {ta : TA} {σ : L2.St} {H : Hp} {P P' : PyData → Prop} {R : List PyData → Prop}
theorem EvS.weak (h : EvS p te σ H P) (k : ∀ d, P d → P' d) : EvS p te σ H P' := fun H1 a s Q q => h H1 a s Q fun v d H2 b s' x y => q v d H2 b s' (k d x) y
theorem EvSs.weak {R' : List PyData → Prop} (h : EvSs p ta σ H R) (k : ∀ d, R d → R' d) : EvSs p ta σ H R' := fun H1 a s Q q => h H1 a s Q fun v d H2 b s' x y => q v d H2 b s' (k d x) y
theorem evs_non (h : P .none) : EvS p (tC .non) σ H P := fun H1 _ s Q q => q _ _ H1 Kp.refl s h .non
theorem evs_bl {b : Bool} (h : P (.bool b)) : EvS p (tC (.bl b)) σ H P := fun H1 _ s Q q => q _ _ H1 Kp.refl s h (.bl b)
theorem evs_int {i : Int} (h : P (.int i)) : EvS p (tC (.int i)) σ H P := fun H1 _ s Q q => q _ _ H1 Kp.refl s h (.int i)
theorem evs_str {x : Str} (h : P (.str x)) : EvS p (tC (.str x)) σ H P := fun H1 _ s Q q => q _ _ H1 Kp.refl s h (.str x)
theorem evs_var {i : Nat} {v : V} {d : PyData} (e : σ[i]? = some (some v)) (hd : Dn (Off p) H v d) (h : P d) : EvS p (tVar i) σ H P := fun H1 k s Q q => ⟨v, e, q v d H1 Kp.refl s h (hd.kp k)⟩
theorem evss_nil (h : R []) : EvSs p tNil σ H R := fun H1 _ s Q q => q _ _ H1 Kp.refl s h .nil
theorem evss_cons {R' : List PyData → Prop} (h : EvS p te σ H P) (hs : EvSs p ta σ H R) (k : ∀ d r, P d → R r → R' (d :: r)) : EvSs p (tCons te ta) σ H R' := fun H1 a s Q q =>
  h H1 a s _ fun v d H2 b s2 x y => hs H2 (a.trans b) s2 _ fun vs ds H3 c s3 xs ys => q (v :: vs) (d :: ds) H3 (b.trans c) s3 (k d ds x xs) (.cons (y.kp c) ys)
theorem evs_tup (h : EvSs p ta σ H R) (k : ∀ ds, R ds → ds.length ≤ 100000 ∧ P (.tuple ds)) : EvS p (tTup ta) σ H P := fun H1 a s Q q =>
  h H1 a s _ fun vs ds H2 b s2 x y => ⟨sz (by rw [y.len]; exact (k ds x).1), fun t ht => by
    have hn : t ≠ p := (Stm.ne s2 ht)
    exact q (.ref t) (.tuple ds) _ (b.upd (b.free hn ht)) (s2.up ht) (k ds x).2 (.tup hn upd_same (y.step fun c o n e => by rw [upd_ne (ne_of_none e ht)]; exact e))⟩
theorem evs_lst (h : EvSs p ta σ H R) (k : ∀ ds, R ds → ds.length ≤ 100000 ∧ P (.list ds)) : EvS p (tLst ta) σ H P := fun H1 a s Q q =>
  h H1 a s _ fun vs ds H2 b s2 x y => ⟨sz (by rw [y.len]; exact (k ds x).1), fun t ht => by
    have hn : t ≠ p := (Stm.ne s2 ht)
    exact q (.ref t) (.list ds) _ (b.upd (b.free hn ht)) (s2.up ht) (k ds x).2 (.lst hn upd_same (y.step fun c o n e => by rw [upd_ne (ne_of_none e ht)]; exact e))⟩
theorem evs_dnew (h : P (.dict [])) : EvS p tDNewK σ H P := fun H1 a s Q q t ht =>
  have hn : t ≠ p := (Stm.ne s ht)
  q (.ref t) (.dict []) _ (Kp.refl.upd ht) (s.up ht) h (.dic hn upd_same)
theorem evs_disp1 {k : Str} {v : Int} (h : P (.dict [])) : EvS p (tDisp [(tC (.str k), tC (.int v))]) σ H P := fun H1 a s Q q t ht =>
  have hn : t ≠ p := (Stm.ne s ht)
  ⟨upd_same, [(Sum.inr k, .int v)], rfl, (show 1 ≤ 15 by decide), q (.ref t) (.dict []) _ ((Kp.refl.upd ht).upd ht) (by
    obtain ⟨x, y, e, r⟩ := s
    exact ⟨x, y, by rw [upd_ne (ne_of_none e ht), upd_ne (ne_of_none e ht)]; exact e, r⟩) h (.dic hn upd_same)⟩
theorem evs_call {sp : Sp} (h : ∀ vs ds H1, Kp p H H1 → Stm H1 p → R ds → DnAll (Off p) H1 vs ds → ∀ Q : VK, (∀ v d H2, Kp p H1 H2 → Stm H2 p → P d → Dn (Off p) H2 v d → Q v H2) → sp vs H1 Q C8.E0) (ha : EvSs p ta σ H R) : EvS p (tCall sp [] C8.E0 ta) σ H P := fun H1 a s Q q =>
  ha H1 a s _ fun vs ds H2 b s2 x y => by
    show sp (vs ++ []) H2 Q C8.E0
    rw [List.append_nil]
    exact h vs ds H2 (a.trans b) s2 x y Q fun v d H3 c s3 x3 y3 => q v d H3 (b.trans c) s3 x3 y3
/-- used in a reading -/
theorem EvS.use {Q : VK} (h : EvS p te σ H P) (s : Stm H p) (q : ∀ v d H2, Kp p H H2 → Stm H2 p → P d → Dn (Off p) H2 v d → Q v H2) : te σ H Q := h H Kp.refl s Q q
theorem EvSs.use {Q : List V → Hp → Prop} (h : EvSs p ta σ H R) (s : Stm H p) (q : ∀ vs ds H2, Kp p H H2 → Stm H2 p → R ds → DnAll (Off p) H2 vs ds → Q vs H2) : ta σ H Q := h H Kp.refl s Q q
end
end Wp

namespace Wp
open PySem PySem.Spec PyProof.Rows L2 TyNe

/-! ### text * int -/
abbrev qMulS : R2 := fun x y H Q => ∃ (z : Str) (n : Int), x = .str z ∧ y = .int n ∧ MulOk z n ∧ Q (.str (Txt.mul z n)) H
theorem op_mulS {X : Cx} : OpR X (binaryOp .Mult) qMulS := by
  intro pins s σ H x y v u Q I rx ry h
  obtain ⟨i, j, rfl, rfl, hz, q⟩ := h
  obtain ⟨t, rfl⟩ := rx
  obtain ⟨t', rfl⟩ := ry
  exact SB.mul hz fun t' k => ⟨.str (Txt.mul i j), H, I.tok _, ⟨_, rfl⟩, q⟩
theorem foldl_size : ∀ (l : List (Array Nat)) (a : Array Nat), (l.foldl (· ++ ·) a).size = a.size + (l.map Array.size).sum
  | [], a => by simp
  | x :: l, a => by
    rw [List.foldl_cons, foldl_size l, Array.size_append, List.map_cons, List.sum_cons]
    omega
theorem rep_sum (n k : Nat) : ((List.replicate n k) : List Nat).sum = n * k := by
  induction n with
  | zero => simp
  | succ n ih => rw [List.replicate_succ, List.sum_cons, ih, Nat.succ_mul, Nat.add_comm]
theorem mul_len (x : Str) {n : Int} (h : 0 ≤ n) : (Txt.mul x n).length ≤ x.length * n.toNat := by
  unfold Txt.mul
  by_cases h1 : n < 1
  · rw [if_pos h1]
    exact Nat.zero_le _
  · rw [if_neg h1]
    by_cases h2 : (n == 1 || x.length == 0) = true
    · rw [if_pos h2]
      have : 1 ≤ n.toNat := by omega
      exact Nat.le_mul_of_pos_right _ this
    · rw [if_neg h2]
      show ((List.replicate n.toNat x.cps).foldl (· ++ ·) (#[] : Array Nat)).size ≤ _
      rw [foldl_size, List.map_replicate, rep_sum]
      show 0 + n.toNat * x.cps.size ≤ x.cps.size * n.toNat
      rw [Nat.zero_add, Nat.mul_comm]
      exact Nat.le_refl _
theorem mulOk {x : Str} {n : Int} (h0 : 0 ≤ n) (h1 : n ≤ 1000) (hx : x.length ≤ 10000) : MulOk x n := by
  refine ⟨?_, fun a b => ?_, fun a b => ?_⟩
  · rw [decide_eq_false (by omega), decide_eq_false (by omega)]
    rfl
  · have e : (2 ^ 63 - 1 : Int) / n ≥ (2 ^ 63 - 1 : Int) / 1000 := by
      rw [ge_iff_le, Int.le_ediv_iff_mul_le (by omega)]
      have e2 : (2 ^ 63 - 1 : Int) / 1000 = 9223372036854775 := by decide
      rw [e2]
      have := Int.mul_le_mul_of_nonneg_left h1 (show (0 : Int) ≤ 9223372036854775 by decide)
      omega
    have e2 : (2 ^ 63 - 1 : Int) / 1000 = 9223372036854775 := by decide
    omega
  · unfold Builtin.Str.tooLong
    have h2 : n.toNat ≤ 1000 := by omega
    have h3 : x.length * n.toNat ≤ 10000 * 1000 := Nat.mul_le_mul hx h2
    exact decide_eq_false (by
      have : (10000 * 1000 : Nat) ≤ sizeLine := by decide
      omega)
section
variable {H : Hp} {Q : VK}
theorem w_mulS {z : Str} {n : Int} (h0 : 0 ≤ n) (h1 : n ≤ 1000) (hx : z.length ≤ 10000) (q : (Txt.mul z n).length ≤ z.length * n.toNat → Q (.str (Txt.mul z n)) H) : qMulS (.str z) (.int n) H Q := ⟨z, n, rfl, rfl, mulOk h0 h1 hx, q (mul_len z h0)⟩
end

/-! ### the place of a sign -/
abbrev q_rfind4 : V → List V → Hp → VK → Prop := fun x xs H Q => ∃ (a b : Str) (i j : Int), x = .str a ∧ xs = [.str b, .int i, .int j] ∧ Q (.int (Txt.rfindIn a b i j)) H
abbrev q_find3 : V → List V → Hp → VK → Prop := fun x xs H Q => ∃ (a b : Str) (i : Int), x = .str a ∧ xs = [.str b, .int i] ∧ Q (.int (Txt.find3 a b i)) H
open Builtin Builtin.Str StrLaws in
theorem at_one {x : Str} {c hi i : Nat} (h : hi ≤ x.length) : At x ⟨#[c]⟩ hi i ↔ i < hi ∧ x.cps.toList[i]? = some c := by
  have e : (⟨#[c]⟩ : Str).length = 1 := rfl
  constructor
  · rintro ⟨h1, h2⟩
    rw [e] at h1
    exact ⟨by omega, (subAt_one x c i).mp ⟨by rw [e]; omega, h2⟩⟩
  · rintro ⟨h1, h2⟩
    exact ⟨by rw [e]; omega, ((subAt_one x c i).mpr h2).2⟩
open Builtin Builtin.Str StrLaws in
/-- the last c in [lo, hi) -/
theorem last_one (x : Str) (c lo hi : Nat) (h : hi ≤ x.length) : (lastOccurrence x ⟨#[c]⟩ lo hi = none ∧ ∀ i, lo ≤ i → i < hi → x.cps.toList[i]? ≠ some c) ∨
    ∃ i, lastOccurrence x ⟨#[c]⟩ lo hi = some i ∧ lo ≤ i ∧ i < hi ∧ x.cps.toList[i]? = some c ∧ ∀ k, i < k → k < hi → x.cps.toList[k]? ≠ some c := by
  rw [last_eq]
  have key := last_run x ⟨#[c]⟩ hi (List.range' lo (hi + 1 - lo)) [] none (fun _ h => nomatch h) (fun _ h => nomatch h) (by simpa using List.pairwise_lt_range' (s := lo) (n := hi + 1 - lo))
  have mem : ∀ i, lo ≤ i → i < hi → i ∈ [] ++ List.range' lo (hi + 1 - lo) := fun i h1 h2 => by
    simp [List.mem_range']
    exact ⟨i - lo, by omega, by omega⟩
  cases hr : (forIn (List.range' lo (hi + 1 - lo)) none (lastBody x ⟨#[c]⟩ hi)).run with
  | none =>
    rw [hr] at key
    exact .inl ⟨rfl, fun i h1 h2 e => key i (mem i h1 h2) ((at_one h).mpr ⟨h2, e⟩)⟩
  | some a =>
    rw [hr] at key
    have ka := (at_one h).mp key.1
    refine .inr ⟨a, rfl, ?_, ka.1, ka.2, fun k h1 h2 e => ?_⟩
    · -- it was among the places looked at
      have hmem : ∀ (l : List Nat) (st : Option Nat) (r : Nat), (forIn l st (lastBody x ⟨#[c]⟩ hi)).run = some r → r ∈ l ∨ st = some r := by
        intro l
        induction l with
        | nil => intro st r e; exact .inr e
        | cons b l ih =>
          intro st r e
          rw [List.forIn_cons] at e
          unfold lastBody at e
          split at e
          · rcases ih _ _ e with hm | hm
            · exact .inl (List.mem_cons_of_mem _ hm)
            · exact .inl (by cases hm; exact List.mem_cons_self ..)
          · rcases ih _ _ e with hm | hm
            · exact .inl (List.mem_cons_of_mem _ hm)
            · exact .inr hm
      rcases hmem _ _ _ hr with hm | hm
      · simp [List.mem_range'] at hm
        omega
      · exact nomatch hm
    · by_cases hk : lo ≤ k
      · exact key.2 k (mem k hk h2) h1 ((at_one h).mpr ⟨h2, e⟩)
      · exact key.2 k (by
          have hk2 : k < lo := by omega
          have : lo ≤ a := by
            have hmem : ∀ (l : List Nat) (st : Option Nat) (r : Nat), (forIn l st (lastBody x ⟨#[c]⟩ hi)).run = some r → r ∈ l ∨ st = some r := by
              intro l
              induction l with
              | nil => intro st r e; exact .inr e
              | cons b l ih =>
                intro st r e
                rw [List.forIn_cons] at e
                unfold lastBody at e
                split at e
                · rcases ih _ _ e with hm | hm
                  · exact .inl (List.mem_cons_of_mem _ hm)
                  · exact .inl (by cases hm; exact List.mem_cons_self ..)
                · rcases ih _ _ e with hm | hm
                  · exact .inl (List.mem_cons_of_mem _ hm)
                  · exact .inr hm
            rcases hmem _ _ _ hr with hm | hm
            · simp [List.mem_range'] at hm
              omega
            · exact nomatch hm
          omega) h1 ((at_one h).mpr ⟨h2, e⟩)
open Builtin Builtin.Str StrLaws in
/-- the first c from lo on -/
theorem first_one (x : Str) (c lo : Nat) : (occurrences x ⟨#[c]⟩ lo x.length 1 = [] ∧ ∀ i, lo ≤ i → x.cps.toList[i]? ≠ some c) ∨
    ∃ i r, occurrences x ⟨#[c]⟩ lo x.length 1 = i :: r ∧ lo ≤ i ∧ x.cps.toList[i]? = some c ∧ ∀ k, lo ≤ k → k < i → x.cps.toList[k]? ≠ some c := by
  rw [occ_eq]
  have inr : ∀ i c, x.cps.toList[i]? = some c → i < x.length := fun i c e => by
    have h := (List.getElem?_eq_some_iff.mp e).1
    simpa [Str.length] using h
  rcases occ_first x ⟨#[c]⟩ x.length 1 (Nat.le_refl _) (List.range' lo (x.length + 1 - lo)) lo (fun i hi => by simp [List.mem_range'] at hi; omega) with ⟨h0, hn⟩ | ⟨pre, a, post, e, h0, ha, hn⟩
  · refine .inl ⟨by rw [h0], fun i h1 e => ?_⟩
    have := inr i c e
    exact hn i (by simp [List.mem_range']; exact ⟨i - lo, by omega, by omega⟩) ((at_one (Nat.le_refl _)).mpr ⟨this, e⟩)
  · have hm : a ∈ List.range' lo (x.length + 1 - lo) := by rw [e]; simp
    have hlo : lo ≤ a := by simp [List.mem_range'] at hm; omega
    have ka := (at_one (Nat.le_refl _)).mp ha
    generalize hl : (forIn (List.range' lo (x.length + 1 - lo)) ((#[] : Array Nat), lo) (occBody x ⟨#[c]⟩ x.length 1)).run.fst = arr at h0
    rw [← Array.getElem?_toList] at h0
    cases hal : arr.toList with
    | nil => rw [hal] at h0; exact nomatch h0
    | cons b r =>
      rw [hal] at h0
      have hb : b = a := Option.some.inj h0
      subst hb
      refine .inr ⟨b, r, rfl, hlo, ka.2, fun k h1 h2 ek => ?_⟩
      have hk := inr k c ek
      refine hn k ?_ ((at_one (Nat.le_refl _)).mpr ⟨hk, ek⟩)
      have hp : (List.range' lo (x.length + 1 - lo)).Pairwise (· < ·) := by simpa using List.pairwise_lt_range' (s := lo) (n := x.length + 1 - lo)
      rw [e] at hp
      have hmk : k ∈ pre ++ b :: post := by rw [← e]; simp [List.mem_range']; exact ⟨k - lo, by omega, by omega⟩
      rcases List.mem_append.mp hmk with g | g
      · exact g
      · rcases List.mem_cons.mp g with g | g
        · omega
        · have := (List.pairwise_cons.mp (List.pairwise_append.mp hp).2.1).1 k g
          omega
end Wp

namespace Wp
open PySem PySem.Spec PyProof.Rows L2 TyNe

/-! ### a property of an own class -/
structure Prp (P : Program) (w : World) (K : PySem.W.Frag) (mg : Str → Option Value) (base : Heap) (k : Nat) (C : Addr) (m : Str) (sp : Sp) : Prop where
  ex : ∃ (f p : Addr) (fd : FuncData) (ps : List Str), Cls K C ∧ PropOf K C m p f ∧ FnOk P w K mg base C8.CX0 k f fd ps sp ∧ Binds K fd ps []
theorem prp0 {P : Program} {w : World} {K : PySem.W.Frag} {mg : Str → Option Value} {base : Heap} {m x qual : Str} {C p : Addr} {st : Stmt} {f : Addr} {fd : FuncData} {N ps : List Str} {k : Nat} {sp : Sp} (c : Cls K C) (hp : PropOf K C m p f) (F : C8.Fun K x qual st f fd) (b : Binds K fd ps []) (S : FnScope N ps (C8.fnScope st)) (len : ∀ vs H Q E, sp vs H Q E → vs.length = ps.length)
    (hbody : ∀ (cdv : Value) (A : Around) (outer : List Env) (s : Shared) (H : Hp) (vs : List V) (Q : VK) (E : XK), Room k (A.deeper (envOfC qual (C8.fnScope st) s.heap.objs.size f cdv)) → sp vs H Q E →
      ∃ t, PSs (cxOf C8.CX0 P w K mg base N qual (C8.fnScope st) f cdv A outer s H E).nox (C8.fnBody st) t ∧ t { nx := fun _ H' => Q .non H', rt := Q } (start N vs) H) : Prp P w K mg base (k + 1) C m sp :=
  ⟨f, p, fd, ps, c, hp, C8.fn0 F S len hbody, b⟩
theorem pe_pp {X : Cx} {k j : Nat} {C : Addr} {m : Str} {sp : Sp} {e : Expr} {pos : Pos} {ta : TE} (c : Prp X.prog X.w X.K X.mg X.base k C m sp) (hr : Room j X.A) (hk : k + 1 ≤ j) (he : PE X e ta)
    (hab : attributeBase e m X.env (eval e X.env) = eval e X.env) : PE X (.Attribute e m pos) (tProp C sp [] C8.E0 ta) := by
  obtain ⟨f, p, fd, ps, hc, hp, F, b⟩ := c.ex
  exact pe_prop he hc hp F (hr.mono hk) b .nil C8.pass0 hab
theorem hu1 {j : Nat} {A : Around} (hr : Room j A) : A.units + 1 < cLine := by
  have := hr.units
  omega
abbrev qSortedD : List V → Hp → VK → Prop := fun xs H Q => ∃ (a : Addr) (kvs : List (Key × V)) (ks : List Str), xs = [.ref a] ∧ Rd H a (.dK kvs) ∧ kvs.map (·.1) = ks.map Sum.inr ∧ ks.length < 64 ∧
    ∀ ys p, ys.Perm ks → sortedS ys = true → H p = none → Q (.ref p) (upd H p (.lst (ys.map V.str)))

section
variable {K : PySem.W.Frag} {σ : L2.St} {H : Hp} {v : V} {Q : VK} {D : Ends} {te ta td ty tv tx : TE}
theorem w_yes {R : Bool → Hp → Prop} (q : R true H) : tYes σ H R := q
theorem iteT_ {A B : Prop} (q : A) : if (true : Bool) = true then A else B := q
theorem gc {t : TG} {u : TGs} {v : V} {r : List V} {Q : L2.St → Hp → Prop} (q : t v σ H fun σ' H' => u r σ' H' Q) : gCons t u (v :: r) σ H Q := ⟨v, r, rfl, q⟩
theorem gn {Q : L2.St → Hp → Prop} (q : Q σ H) : gNil [] σ H Q := ⟨rfl, q⟩
theorem w_fld {f : Str} (q : ta σ H fun x H1 => ∃ a C dx fs v, x = .ref a ∧ H1 a = some (.ins C dx fs) ∧ Cls K C ∧ NoAttr K C f ∧ fs.lookup f = some v ∧ Q v H1) : tFld K ta f σ H Q := q
theorem w_prop {C : Addr} {sp : Sp} {dvs : List V} {E : XK} (q : ta σ H fun x H1 => ∃ a dx fs, x = .ref a ∧ H1 a = some (.ins C dx fs) ∧ sp (.ref a :: dvs) H1 Q E) : tProp C sp dvs E ta σ H Q := q
theorem w_meth {C : Addr} {m : Str} {sp : Sp} {dvs : List V} {E : XK} {t : TA} (q : ta σ H fun x H1 => ∃ a dx fs, x = .ref a ∧ H1 a = some (.ins C dx fs) ∧ fs.lookup m = none ∧ t σ H1 fun vs H2 => sp (x :: (vs ++ dvs)) H2 Q E) : tMeth C m sp dvs E ta t σ H Q := q
theorem w_make {C : Addr} {sp : Sp} {dvs : List V} {E : XK} {t : TA} (q : t σ H fun vs H1 => ∀ x dx, H1 x = none → H1 dx = none → dx ≠ x → sp (.ref x :: (vs ++ dvs)) (upd (upd H1 dx (.own x)) x (.ins C dx [])) (fun v H2 => v = .non ∧ Q (.ref x) H2) E) : tMake C sp dvs E t σ H Q := q
theorem w_dget (q : td σ H fun x H1 => ty σ H1 fun y H2 => ∃ a v, x = .ref a ∧ DGet H2 a y (some v) ∧ Q v H2) : tDGet td ty σ H Q := q
theorem w_dget2 (q : td σ H fun x H1 => ∃ a, x = .ref a ∧ IsD H1 a ∧ ty σ H1 fun y H2 => tx σ H2 fun z H3 => ∃ o, DGet H3 a y o ∧ Q (o.getD z) H3) : tDGet2 td ty tx σ H Q := q
theorem w_dput (q : tv σ H fun v H1 => td σ H1 fun x H2 => ty σ H2 fun y H3 => ∃ a H4, x = .ref a ∧ DPut H3 a y v H4 ∧ D.nx σ H4) : sDPut td ty tv D σ H := q
theorem w_sfld {f : Str} (q : tv σ H fun y H1 => ta σ H1 fun x H2 => ∃ a C dx fs, x = .ref a ∧ H2 a = some (.ins C dx fs) ∧ Cls K C ∧ NoAttr K C f ∧ fs.length < 1000 ∧ D.nx σ (upd H2 a (.ins C dx (putF f y fs)))) : sFld K ta tv f D σ H := q
end
end Wp

namespace Wp
open PySem PySem.Spec PyProof.Rows L2 TyNe He

/-! ### a dict of the module with text keys, asked by get -/
structure MDict (K : PySem.W.Frag) (w : World) (d : Addr) (g : Str → Option V) : Prop where
  ex : ∃ es n, KDict K w d es n ∧ ∀ z, ∃ r, PySem.W.nsIn K d z = some r ∧ RelO (g z) r
/-- NAME.get(k, x) -/
def tKGet2 (g : Str → Option V) (ty tx : TE) : TE := fun σ H Q => ty σ H fun y H1 => tx σ H1 fun z H2 => ∃ w : Str, y = .str w ∧ Q ((g w).getD z) H2
theorem pe_kget2 {X : Cx} {d : Addr} {g : Str → Option V} {x : Str} {e f : Expr} {p apos cpos : Pos} {ty tx : TE} (M : MDict X.K X.w d g) (hg : Gl X x) (hm : X.mg x = some (.ref d)) (he : PE X e ty) (hf : PE X f tx)
    (m : M2 X (.Name x p) "get" apos e f cpos) (hd : (x == ("__debug__" : Str)) = false := by decide) : PE X (.Call (.Attribute (.Name x p) "get" apos) [e, f] [] cpos) (tKGet2 g ty tx) := by
  obtain ⟨es, n, D, hn⟩ := M.ex
  refine ⟨fun pins s σ H Q I h => ?_⟩
  refine wpAny_Call_method m.base m.few m.line PySem.F.plainAttrs_dict PySem.F.slot_dict_get PySem.F.type_dict_get (thn ((C8.pe_gc (pos := p) (v := .ref d) hg ⟨_, hm, rfl⟩ hd).run pins s σ H (fun v H1 => v = .ref d ∧ ty σ H1 fun y H1 => tx σ H1 fun z H2 => ∃ w : Str, y = .str w ∧ Q ((g w).getD z) H2) I ⟨rfl, h⟩) fun u s1 ⟨x, H1, I1, rx, ex, q1⟩ => ?_)
  subst ex
  obtain rfl : u = Value.ref d := rx
  have mo : ∀ {s' : Shared} {σ' : L2.St} {H' : Hp}, Inv X pins σ' H' s' → s'.heap.MapOf (strKind X.prog X.w) d (fun k => findBy Value.isStrOf es k) := fun I' => PySem.W.mapOf_K (prog := X.prog) I'.kIn D.at_ D.lit
  refine ⟨(mo I1).typeIs, (mo I1).noDict, ?_⟩
  rw [m.trees]
  refine Calls.callWith_builtin rfl (Calls.evalArgs_plain (Calls.spliced_cons (thn (he.run pins s1 σ H1 _ I1 q1) fun iv s2 ⟨y, H2, I2, ry, q2⟩ =>
    Calls.spliced_cons (thn (hf.run pins s2 σ H2 _ I2 q2) fun fv s3 ⟨z, H3, I3, rz, w, ey, q3⟩ => Calls.spliced_nil ?_))))
  subst ey
  obtain ⟨t, rfl⟩ := ry
  obtain ⟨r, hr, rel⟩ := hn w
  refine call_meetsIn PySem.F.slot_dict_get (mo I3).typeIs PySem.F.entry_dict_get (PySem.F.args_dict_get_3 _ _ _) (meets_dict_get_default (strKind X.prog X.w) d (PySem.strKind_is X.prog X.w w t) D.low fv) ⟨_, mo I3, ?_⟩
  rw [PySem.W.find_K D.at_ hr]
  exact ⟨_, H3, I3.tok _, rel.getD rz, q3⟩
/-- from the keys, and what stands at each -/
theorem mdict {K : PySem.W.Frag} {w : World} {d : Addr} {kvs : List (Str × V)} (hk : dicW K d = some (keysIn w.params (kvs.map (·.1)))) (hv : ∀ p ∈ kvs, ∃ u, PySem.W.nsIn K d p.1 = some (some u) ∧ RelV p.2 u) :
    MDict K w d (fun z => (kvs.find? fun p => decide (p.1 = z)).map (·.2)) := by
  obtain ⟨es, n, D⟩ := dicW_ok hk
  refine ⟨es, n, D, fun z => ?_⟩
  cases hf : kvs.find? fun p => decide (p.1 = z) with
  | some p =>
    have hp := List.mem_of_find?_eq_some hf
    have hz0 := List.find?_some hf
    have hz : p.1 = z := of_decide_eq_true hz0
    obtain ⟨u, h1, h2⟩ := hv p hp
    rw [hz] at h1
    exact ⟨some u, h1, h2⟩
  | none =>
    refine ⟨none, ?_, trivial⟩
    have he : es.toList.map He.keyOf = keysIn w.params (kvs.map (·.1)) := by
      unfold dicW at hk
      rw [D.at_] at hk
      have hl := D.low
      simp [hl] at hk
      exact hk
    have hkey : ∀ e ∈ es.toList, ∃ x t, e.key = .str x t ∧ x ≠ z := fun e hm => by
      have h1 : He.keyOf e ∈ keysIn w.params (kvs.map (·.1)) := by rw [← he]; exact List.mem_map.mpr ⟨e, hm, rfl⟩
      obtain ⟨k, hkm, h2⟩ := List.mem_map.mp h1
      obtain ⟨p, hpm, rfl⟩ := List.mem_map.mp hkm
      obtain ⟨x, t, e1, e2⟩ := D.lit.all e hm
      refine ⟨x, t, e1, fun ez => ?_⟩
      unfold He.keyOf at h2
      rw [e1] at h2
      have h3 := congrArg Prod.fst (Option.some.inj h2)
      exact (List.find?_eq_none.mp hf p hpm) (decide_eq_true (h3.trans ez))
    unfold PySem.W.nsIn
    rw [D.at_]
    dsimp only
    have f0 : es.toList.find? (·.key.isStr z) = none := List.find?_eq_none.mpr fun e hm h => by
      obtain ⟨x, t, e1, e2⟩ := hkey e hm
      rw [e1] at h
      exact e2 (beq_iff_eq.mp h)
    have a0 : es.toList.any (·.refKey) = false := List.any_eq_false.mpr fun e hm h => by
      obtain ⟨x, t, e1, e2⟩ := hkey e hm
      unfold DictEntry.refKey at h
      rw [e1] at h
      exact nomatch h
    rw [f0, a0]
    rfl
end Wp

/-! zip of a tuple and a list -/
namespace ZMix
open PySem PySem.Spec PyProof.Rows L2 RZ
section
variable {prog : Program} {w : World} {A : Around} {E : Value → Shared → Prop} {s : Shared}
/-- what a zip object looks like: the tuple's iterator first, then the list's -/
structure Zst (h : Heap) (z TI TO i j p l : Addr) (n : Nat) (f : Value) : Prop where
  Z : IsZip h z TI TO f
  I : IsPair h TI (.ref i) (.ref j)
  O : ∃ a b, IsPair h TO a b
  P : h.IsTupleIter i p n
  L : h.IsListIter j l n
theorem step {z TI TO i j p l : Addr} {n : Nat} {xs ys : Array Value} {x y : Value} {Q : Value → Shared → Prop} (D : ZipApart z TI TO i j p l) (S : Zst s.heap z TI TO i j p l n .none)
    (hp : s.heap.IsTuple p xs) (hl : s.heap.IsList l ys) (hx : xs[n]? = some x) (hy : ys[n]? = some y)
    (q : ∀ h', Zst h' z TI TO i j p l (n + 1) (rawInt s.heap.objs.size) → IsPair h' s.heap.objs.size x y → h'.objs.size = s.heap.objs.size + 1 →
      (∀ c o, c ≠ z ∧ c ≠ TO ∧ c ≠ i ∧ c ≠ j → s.heap.get? c = some o → h'.get? c = some o) → Q (.ref s.heap.objs.size) { s with heap := h' }) :
    wpAny (model prog w) A (Builtin.«zip.__next__» ⟨[.ref z], []⟩) (fun r s' => ∃ v, r = .done (.ret v) ∧ Q v s') E s := by
  obtain ⟨a, b, hO⟩ := S.O
  show wpAny _ _ (field (.ref z) 2 >>= _) _ _ _; refine wpAny_bind (wpAny_field S.Z rfl (x := .bool false) rfl ?_)
  show wpAny _ _ (field (.ref z) 3 >>= _) _ _ _; refine wpAny_bind (wpAny_field S.Z rfl (x := .ref TI) rfl (wpAny_bind (wpAny_seqItems S.I rfl ?_)))
  show wpAny _ _ (Builtin.SmallTypes.ownedTupleIsFree (.ref z) >>= _) _ _ _; refine wpAny_bind ?_; unfold Builtin.SmallTypes.ownedTupleIsFree
  refine wpAny_bind (wpAny_field S.Z rfl (x := .none) rfl (wpAny_pure ?_)); simp only [if_true]
  refine wpAny_bind (wpAny_rule (wpAny_bind (wpAny_field S.Z rfl (x := .ref TO) rfl (wpAny_bind (wpAny_setField_rec S.Z (by simp) fun k1 u1 e1 => wpAny_bind ?_)))))
  have Z1 : IsZip k1 z TI TO .ellipsis := u1
  simp only [List.zipIdx_cons, List.zipIdx_nil, List.forIn_cons, List.forIn_nil]; refine wpAny_bind (wpAny_bind (wpAny_onRaise ?_))
  show wpAny _ _ (Builtin.SmallTypes.nextOf (.ref i) >>= _) _ _ _; refine wpAny_bind (nextOf_tuple_item (S.P.extBut e1.extBut D.i1z) (hp.extBut e1.extBut D.l1z) hx fun k2 P2 e2 => wpAny_pure ?_)
  have O2 : IsPair k2 TO a b := e2.extBut _ _ D.TOi1 (e1.extBut _ _ D.TOz hO)
  refine wpAny_bind (wpAny_seqItems O2 rfl (wpAny_bind (wpAny_updateSeq_pair O2 fun k3 u3 e3 => wpAny_bind (wpAny_letGo (wpAny_pure (wpAny_bind (wpAny_bind (wpAny_onRaise ?_))))))))
  have O3 : IsPair k3 TO x b := u3
  have up13 : ∀ c o, c ≠ TO → c ≠ i → k1.get? c = some o → k3.get? c = some o := fun c o c1 c2 e => e3.extBut _ _ c1 (e2.extBut _ _ c2 e)
  have up3 : ∀ c o, c ≠ z → c ≠ TO → c ≠ i → s.heap.get? c = some o → k3.get? c = some o := fun c o c0 c1 c2 e => up13 c o c1 c2 (e1.extBut _ _ c0 e)
  show wpAny _ _ (Builtin.SmallTypes.nextOf (.ref j) >>= _) _ _ _
  refine wpAny_bind (wpAny_nextOf_list_item (S.L.at fun o e => up3 j o D.i2z D.TOi2.symm D.i12.symm e) (hl.at fun o e => up3 l o D.l2z D.l2TO D.l2i1 e) hy fun k4 L4 e4 => wpAny_pure ?_)
  have O4 : IsPair k4 TO x b := e4.extBut _ _ D.TOi2 O3
  refine wpAny_bind (wpAny_seqItems O4 rfl (wpAny_bind (wpAny_updateSeq_pair O4 fun k5 u5 e5 => wpAny_bind (wpAny_letGo (wpAny_pure (wpAny_pure ?_))))))
  have O5 : IsPair k5 TO x y := u5
  refine wpAny_bind (wpAny_seqItems O5 rfl (wpAny_bind (wpAny_newTuple ?_)))
  have sz : k5.objs.size = s.heap.objs.size := by rw [e5.1, e4.1, e3.1, e2.1, e1.1]
  have up5 : ∀ c o, c ≠ TO → c ≠ i → c ≠ j → k1.get? c = some o → k5.get? c = some o := fun c o c1 c2 c3 e => e5.extBut _ _ c1 (e4.extBut _ _ c3 (up13 c o c1 c2 e))
  have Z5 : IsZip k5 z TI TO .ellipsis := up5 _ _ D.TOz.symm D.i1z.symm D.i2z.symm Z1
  have P5 : k5.IsTupleIter i p (n + 1) := P2.at fun o e => e5.extBut _ _ D.TOi1.symm (e4.extBut _ _ D.i12 (e3.extBut _ _ D.TOi1.symm e))
  have L5 : k5.IsListIter j l (n + 1) := L4.extBut e5.extBut D.TOi2.symm
  have lz : z < k5.objs.size := Heap.lt_size Z5
  show wpAny _ _ (Builtin.SmallTypes.ownedTupleHandOut (.ref z) (.ref k5.objs.size) >>= _) _ _ _; refine wpAny_bind ?_; unfold Builtin.SmallTypes.ownedTupleHandOut
  have Z6 : IsZip (k5.push { cls := .type "tuple", data := .seq #[x, y] }) z TI TO .ellipsis := Heap.get?_push_of_some _ Z5
  refine wpAny_bind (wpAny_setField_rec Z6 (by simp) fun k7 u7 e7 => ?_)
  have Z7 : IsZip k7 z TI TO (rawInt k5.objs.size) := u7
  refine wpAny_setField_rec Z7 (by simp) fun k8 u8 e8 => ?_
  have Z8 : IsZip k8 z TI TO (rawInt k5.objs.size) := u8
  have up8 : ∀ c o, c ≠ z → k5.get? c = some o → k8.get? c = some o := fun c o c0 e => e8.extBut _ _ c0 (e7.extBut _ _ c0 (Heap.get?_push_of_some _ e))
  have T8 : IsPair k8 k5.objs.size x y := e8.extBut _ _ (Nat.ne_of_gt lz) (e7.extBut _ _ (Nat.ne_of_gt lz) (Heap.get?_push_size _ rfl))
  have s8 : k8.objs.size = k5.objs.size + 1 := by rw [e8.1, e7.1, Heap.size_push]
  rw [sz] at Z8 T8 s8
  have I8 : IsPair k8 TI (.ref i) (.ref j) := up8 _ _ D.TIz (up5 _ _ D.TITO D.TIi1 D.TIi2 (e1.extBut _ _ D.TIz S.I))
  refine wpAny_pure ⟨_, rfl, ?_⟩
  rw [show k5.objs.size = s.heap.objs.size from sz]
  exact q k8 ⟨Z8, I8, ⟨x, y, up8 _ _ D.TOz O5⟩, P5.at fun o e => up8 _ o D.i1z e, L5.at fun o e => up8 _ o D.i2z e⟩ T8 s8 fun c o c0 e => up8 c o c0.1 (up5 c o c0.2.1 c0.2.2.1 c0.2.2.2 (e1.extBut _ _ c0.1 e))
theorem stop {z TI TO i j p l : Addr} {n : Nat} {xs ys : Array Value} {Q : PySem.Fin → Shared → Prop} (hh : A.handled = none) (D : ZipApart z TI TO i j p l) (S : Zst s.heap z TI TO i j p l n .none)
    (hp : s.heap.IsTuple p xs) (hl : s.heap.IsList l ys) (he : xs[n]? = none ∨ ys[n]? = none)
    (q : ∀ h' e, (∀ c o, c ≠ z ∧ c ≠ TO ∧ c ≠ i ∧ c ≠ j → s.heap.get? c = some o → h'.get? c = some o) → (∃ o, h'.get? e = some o ∧ o.cls = .type "StopIteration") → E (.ref e) { s with heap := h' }) :
    wpAny (model prog w) A (Builtin.«zip.__next__» ⟨[.ref z], []⟩) Q E s := by
  obtain ⟨a, b, hO⟩ := S.O
  show wpAny _ _ (field (.ref z) 2 >>= _) _ _ _; refine wpAny_bind (wpAny_field S.Z rfl (x := .bool false) rfl ?_)
  show wpAny _ _ (field (.ref z) 3 >>= _) _ _ _; refine wpAny_bind (wpAny_field S.Z rfl (x := .ref TI) rfl (wpAny_bind (wpAny_seqItems S.I rfl ?_)))
  show wpAny _ _ (Builtin.SmallTypes.ownedTupleIsFree (.ref z) >>= _) _ _ _; refine wpAny_bind ?_; unfold Builtin.SmallTypes.ownedTupleIsFree
  refine wpAny_bind (wpAny_field S.Z rfl (x := .none) rfl (wpAny_pure ?_)); simp only [if_true]
  refine wpAny_bind (wpAny_rule (wpAny_bind (wpAny_field S.Z rfl (x := .ref TO) rfl (wpAny_bind (wpAny_setField_rec S.Z (by simp) fun k1 u1 e1 => wpAny_bind ?_)))))
  have Z1 : IsZip k1 z TI TO .ellipsis := u1
  simp only [List.zipIdx_cons, List.zipIdx_nil, List.forIn_cons, List.forIn_nil]; refine wpAny_bind (wpAny_bind (wpAny_onRaise ?_))
  show wpAny _ _ (Builtin.SmallTypes.nextOf (.ref i) >>= _) _ _ _
  have apart : ∀ {k : Heap} {e : Addr} {oe : Obj}, IsZip k z TI TO .ellipsis → k.get? e = some oe → oe.cls = .type "StopIteration" → e ≠ z := fun {k e oe} hz h1 h2 h3 => by
    rw [h3, show k.get? z = _ from hz] at h1
    cases h1
    exact absurd (show Value.type "zip" = .type "StopIteration" from h2) (by decide)
  cases hx : xs[n]? with
  | none =>
    refine wpAny_bind (nextOf_tuple_end hh (S.P.extBut e1.extBut D.i1z) (hp.extBut e1.extBut D.l1z) hx fun k2 e e2 ⟨oe, h1, h2⟩ => ?_)
    have Z2 : IsZip k2 z TI TO .ellipsis := e2 _ _ D.i1z.symm Z1
    exact wpAny_setField_rec Z2 (by simp) fun k3 _ e3 => q k3 e (fun c o c0 x => e3.extBut _ _ c0.1 (e2 _ _ c0.2.2.1 (e1.extBut _ _ c0.1 x))) ⟨oe, e3.extBut _ _ (apart Z2 h1 h2) h1, h2⟩
  | some x =>
    have hy : ys[n]? = none := he.resolve_left (by rw [hx]; exact nofun)
    refine wpAny_bind (nextOf_tuple_item (S.P.extBut e1.extBut D.i1z) (hp.extBut e1.extBut D.l1z) hx fun k2 P2 e2 => wpAny_pure ?_)
    have O2 : IsPair k2 TO a b := e2.extBut _ _ D.TOi1 (e1.extBut _ _ D.TOz hO)
    refine wpAny_bind (wpAny_seqItems O2 rfl (wpAny_bind (wpAny_updateSeq_pair O2 fun k3 u3 e3 => wpAny_bind (wpAny_letGo (wpAny_pure (wpAny_bind (wpAny_bind (wpAny_onRaise ?_))))))))
    have up3 : ∀ c o, c ≠ z → c ≠ TO → c ≠ i → s.heap.get? c = some o → k3.get? c = some o := fun c o c0 c1 c2 e => e3.extBut _ _ c1 (e2.extBut _ _ c2 (e1.extBut _ _ c0 e))
    show wpAny _ _ (Builtin.SmallTypes.nextOf (.ref j) >>= _) _ _ _
    refine wpAny_bind (wpAny_nextOf_list_end hh (S.L.at fun o e => up3 j o D.i2z D.TOi2.symm D.i12.symm e) (hl.at fun o e => up3 l o D.l2z D.l2TO D.l2i1 e) hy fun k4 e e4 ⟨oe, h1, h2⟩ => ?_)
    have Z4 : IsZip k4 z TI TO .ellipsis := e4 _ _ D.i2z.symm (e3.extBut _ _ D.TOz.symm (e2.extBut _ _ D.i1z.symm Z1))
    exact wpAny_setField_rec Z4 (by simp) fun k5 _ e5 => q k5 e (fun c o c0 x => e5.extBut _ _ c0.1 (e4 _ _ c0.2.2.2 (up3 c o c0.1 c0.2.1 c0.2.2.1 x))) ⟨oe, e5.extBut _ _ (apart Z4 h1 h2) h1, h2⟩
theorem nxt {z TI TO i j p l : Addr} {n : Nat} {xs ys : Array Value} {x y : Value} {Q : Option Value → Shared → Prop} (D : ZipApart z TI TO i j p l) (S : Zst s.heap z TI TO i j p l n .none)
    (hp : s.heap.IsTuple p xs) (hl : s.heap.IsList l ys) (hx : xs[n]? = some x) (hy : ys[n]? = some y)
    (q : ∀ h', Zst h' z TI TO i j p l (n + 1) (rawInt s.heap.objs.size) → IsPair h' s.heap.objs.size x y → h'.objs.size = s.heap.objs.size + 1 →
      (∀ c o, c ≠ z ∧ c ≠ TO ∧ c ≠ i ∧ c ≠ j → s.heap.get? c = some o → h'.get? c = some o) → Q (some (.ref s.heap.objs.size)) { s with heap := h' }) : wpAny (model prog w) A (pyNext (.ref z)) Q E s := by
  unfold pyNext
  refine wpAny_bind (wpAny_attempt (wpAny_callSpecial?_slot (name := Str.ofString "__next__") ⟨_, S.Z, rfl⟩ F.slot_zip_next (wpAny_call_entry F.slot_zip_next ⟨_, S.Z, rfl⟩ F.entry_zip_next ?_ (F.args_zip_next_1 _))))
  exact step D S hp hl hx hy fun h' a b c d => wpAny_pure (q h' a b c d)
theorem nxtE {z TI TO i j p l : Addr} {n : Nat} {xs ys : Array Value} {Q : Option Value → Shared → Prop} (hh : A.handled = none) (D : ZipApart z TI TO i j p l) (S : Zst s.heap z TI TO i j p l n .none)
    (hp : s.heap.IsTuple p xs) (hl : s.heap.IsList l ys) (he : xs[n]? = none ∨ ys[n]? = none)
    (q : ∀ h', (∀ c o, c ≠ z ∧ c ≠ TO ∧ c ≠ i ∧ c ≠ j → s.heap.get? c = some o → h'.get? c = some o) → Q none { s with heap := h' }) : wpAny (model prog w) A (pyNext (.ref z)) Q E s := by
  unfold pyNext
  refine wpAny_bind (wpAny_attempt (wpAny_callSpecial?_slot (name := Str.ofString "__next__") ⟨_, S.Z, rfl⟩ F.slot_zip_next (wpAny_call_entry F.slot_zip_next ⟨_, S.Z, rfl⟩ F.entry_zip_next ?_ (F.args_zip_next_1 _))))
  exact stop hh D S hp hl he fun h' e k ⟨o, h1, h2⟩ => wpAny_bind (wpAny_isInstance (T := "StopIteration") (b := true) ⟨o, h1, h2⟩ isSubtype_stop (wpAny_pure (q _ k)))
end
/-- the heap with the five new objects -/
def mk1 (h : Heap) (p : Addr) : Heap := h.push { cls := .type "tuple_iterator", data := .fields #[.ref p, .int 0 0] }
def mk2 (h : Heap) (p l : Addr) : Heap := (mk1 h p).push { cls := .type "list_iterator", data := .fields #[.ref l, .int 0 0] }
def mk3 (h : Heap) (p l : Addr) : Heap := (mk2 h p l).push { cls := .type "tuple", data := .seq #[.ref h.objs.size, .ref (mk1 h p).objs.size] }
def mk4 (h : Heap) (p l : Addr) : Heap := (mk3 h p l).push { cls := .type "tuple", data := .seq #[.none, .none] }
def mk5 (h : Heap) (p l : Addr) : Heap := (mk4 h p l).push { cls := .type "zip", data := .fields #[.none, .bool false, .bool false, .ref (mk2 h p l).objs.size, .ref (mk3 h p l).objs.size] }
theorem made (p l : Addr) (xs ys : Array Value) : Meets (Builtin.«zip.__new__» ⟨[.type "zip", .ref p, .ref l], []⟩) (fun _ R s => s.heap.IsTuple p xs ∧ s.heap.IsList l ys ∧ R (.ok (.ret (.ref (mk4 s.heap p l).objs.size))) { s with heap := mk5 s.heap p l }) :=
  .of_wp fun prog w A R s hyp => by
    obtain ⟨hp, g, d, tk, os⟩ := s
    obtain ⟨a1, a2, a3⟩ := hyp
    have hsub := sub_zip
    have b1 : Heap.IsTuple (Shared.heap ⟨hp, g, d, tk, os⟩) p xs := a1
    have b2 : Heap.IsList (Shared.heap ⟨hp.push { cls := .type "tuple_iterator", data := .fields #[.ref p, .int 0 0] }, g, d, tk, os⟩) l ys := Heap.IsList.push a2 _
    wp_walk using wpAny_pyIter_tuple b1, wpAny_pyIter_list b2
    exact ⟨_, rfl, a3⟩
theorem mk_all (h : Heap) (p l : Addr) : Zst (mk5 h p l) (h.objs.size + 4) (h.objs.size + 2) (h.objs.size + 3) h.objs.size (h.objs.size + 1) p l 0 .none ∧ (mk4 h p l).objs.size = h.objs.size + 4 ∧ ∀ c o, h.get? c = some o → (mk5 h p l).get? c = some o := by
  have s1 : (mk1 h p).objs.size = h.objs.size + 1 := Heap.size_push ..
  have s2 : (mk2 h p l).objs.size = h.objs.size + 2 := by unfold mk2; rw [Heap.size_push, s1]
  have s3 : (mk3 h p l).objs.size = h.objs.size + 3 := by unfold mk3; rw [Heap.size_push, s2]
  have s4 : (mk4 h p l).objs.size = h.objs.size + 4 := by unfold mk4; rw [Heap.size_push, s3]
  have u45 : ∀ c o, (mk4 h p l).get? c = some o → (mk5 h p l).get? c = some o := fun c o e => Heap.get?_push_of_some _ e
  have u35 : ∀ c o, (mk3 h p l).get? c = some o → (mk5 h p l).get? c = some o := fun c o e => u45 c o (Heap.get?_push_of_some _ e)
  have u25 : ∀ c o, (mk2 h p l).get? c = some o → (mk5 h p l).get? c = some o := fun c o e => u35 c o (Heap.get?_push_of_some _ e)
  have u15 : ∀ c o, (mk1 h p).get? c = some o → (mk5 h p l).get? c = some o := fun c o e => u25 c o (Heap.get?_push_of_some _ e)
  refine ⟨⟨?_, ?_, ⟨Value.none, Value.none, ?_⟩, ?_, ?_⟩, s4, fun c o e => u15 c o (Heap.get?_push_of_some _ e)⟩
  · show (mk5 h p l).get? (h.objs.size + 4) = _
    rw [← s4, ← s2, ← s3]
    exact Heap.get?_push_size _ rfl
  · show (mk5 h p l).get? (h.objs.size + 2) = _
    rw [← s2, ← s1]
    exact u35 _ _ (Heap.get?_push_size _ rfl)
  · show (mk5 h p l).get? (h.objs.size + 3) = _
    rw [← s3]
    exact u45 _ _ (Heap.get?_push_size _ rfl)
  · exact ⟨_, u15 _ _ (Heap.get?_push_size _ rfl), rfl, rfl⟩
  · exact ⟨_, by rw [← s1]; exact u25 _ _ (Heap.get?_push_size _ rfl), rfl, rfl⟩
section
variable {prog : Program} {w : World} {A : Around} {E : Value → Shared → Prop} {s : Shared}
theorem calls {p l : Addr} {xs ys : Array Value} {Q : Value → Shared → Prop} (hp : s.heap.IsTuple p xs) (hl : s.heap.IsList l ys) (q : Q (.ref (s.heap.objs.size + 4)) { s with heap := mk5 s.heap p l }) :
    wpAny (model prog w) A (call (.type "zip") [.ref p, .ref l]) Q E s := by
  refine callType_new F.called_zip (by decide) (F.typeCall_zip_2 _ _) (F.newCall_zip_2 _ _) (fun obj => F.args_object_init_3 obj _ _) F.entry_zip_new (made p l xs ys) ⟨hp, hl, ?_⟩
  have hk := mk_all s.heap p l
  show _ ∧ _
  rw [hk.2.1]
  exact ⟨⟨_, hk.1.Z, rfl⟩, q⟩
end
/-- the tuple at a and the list at b, the items in new pairs -/
def ItM (K : PySem.W.Frag) (a b : Addr) : It :=
  ⟨fun i H => ∃ (xs ys : List V) (x y : V), SqT K H a xs ∧ SqL K H b ys ∧ xs[i]? = some x ∧ ys[i]? = some y,
    fun i H v H' => ∃ T x y, v = .ref T ∧ H T = none ∧ H' = upd H T (.tup [x, y]) ∧ (∀ xs, SqT K H a xs → xs[i]? = some x) ∧ ∀ ys, SqL K H b ys → ys[i]? = some y,
    fun i H => ∃ xs ys : List V, SqT K H a xs ∧ SqL K H b ys ∧ (xs.length ≤ i ∨ ys.length ≤ i)⟩
theorem turnM {P : Program} {w : World} {K : PySem.W.Frag} {elts : List Expr} {kk : Nat} {tpos : Pos} {a b z TI TO i1 i2 : Addr} (D : ZipApart z TI TO i1 i2 a b) :
    Turn P w K (.Tuple elts kk tpos) (ItM K a b) [z, TI, TO, i1, i2] z (fun i h => Zst h z TI TO i1 i2 a b i .none) where
  mem := List.mem_cons_self ..
  obj := fun i h S c hc => by
    obtain ⟨x, y, hO⟩ := S.O
    obtain ⟨o1, e1, _, d1⟩ := S.P
    obtain ⟨o2, e2, _, d2⟩ := S.L
    simp only [List.mem_cons, List.not_mem_nil, or_false] at hc
    rcases hc with rfl | rfl | rfl | rfl | rfl
    · exact ⟨_, S.Z, fun v q => nomatch q⟩
    · exact ⟨_, S.I, fun v q => nomatch q⟩
    · exact ⟨_, hO, fun v q => nomatch q⟩
    · exact ⟨o1, e1, fun v q => by rw [d1] at q; cases q⟩
    · exact ⟨o2, e2, fun v q => by rw [d2] at q; cases q⟩
  keep := fun i h h' S k => by
    obtain ⟨x, y, hO⟩ := S.O
    exact ⟨k z (by simp) _ S.Z, k TI (by simp) _ S.I, ⟨x, y, k TO (by simp) _ hO⟩, S.P.at fun o q => k i1 (by simp) o q, S.L.at fun o q => k i2 (by simp) o q⟩
  item := by
    intro X e1 e2 e3 hc i pins s σ H E I hf S hg
    subst e1 e2 e3
    obtain ⟨xs, ys, x, y, hqx, hqy, hx, hy⟩ := hg
    obtain ⟨its, rv, p, _⟩ := I.tuple hqx
    obtain ⟨its2, rv2, p2, _⟩ := I.list hqy
    obtain ⟨u, hu, ru⟩ := rv.get hx
    obtain ⟨u2, hu2, ru2⟩ := rv2.get hy
    have lz : z < s.heap.objs.size := Heap.lt_size S.Z
    have lt : ∀ c, c ∈ [z, TI, TO, i1, i2] → c < s.heap.objs.size := fun c hc => by
      obtain ⟨x, y, hO⟩ := S.O
      simp only [List.mem_cons, List.not_mem_nil, or_false] at hc
      rcases hc with rfl | rfl | rfl | rfl | rfl
      · exact lz
      · exact Heap.lt_size S.I
      · exact Heap.lt_size hO
      · obtain ⟨_, e, _⟩ := S.P; exact Heap.lt_size e
      · obtain ⟨_, e, _⟩ := S.L; exact Heap.lt_size e
    refine nxt D S p p2.isList (x := u) (y := u2) (by simpa using hu) (by simpa using hu2) fun h1 S1 hT _ hk => ⟨_, rfl, wpAny_letOwnedTupleGo_zip (s := { s with heap := h1 }) S1.Z fun h2 Z2 sb => ?_⟩
    have T2 : h2.get? s.heap.objs.size = some { cls := .type "tuple", data := .seq #[u, u2] } := (sb.2 _ (Nat.ne_of_gt lz)).trans hT
    have ok : ObjOk X.prog X.w (upd H s.heap.objs.size (.tup [x, y])) h2 s.heap.objs.size (.tup [x, y]) := ⟨(show 2 ≤ sizeLine by decide), [u, u2], .cons ru (.cons ru2 .nil), ⟨_, T2, rfl, _, rfl⟩⟩
    have I1 : Inv X pins σ (upd H s.heap.objs.size (.tup [x, y])) { s with heap := h2 } := I.turnedNew (t' := s.toks) (ch := [z, TI, TO, i1, i2]) (fun c o hb q => (sb.2 c (fun e => hb (by simp [e]))).trans (hk c o ⟨fun e => hb (by simp [e]), fun e => hb (by simp [e]), fun e => hb (by simp [e]), fun e => hb (by simp [e])⟩ q)) hf (Nat.le_refl _) ok
    obtain ⟨a0, b0, O1⟩ := S1.O
    refine ⟨.ref s.heap.objs.size, _, I1, rfl, ⟨_, x, y, rfl, I.hok.fresh (Nat.le_refl _), rfl, fun l hl => by rw [I.tuple_inj hl hqx]; exact hx, fun l hl => by rw [I.list_inj hl hqy]; exact hy⟩, ⟨Z2, (sb.2 _ D.TIz).trans S1.I, ⟨a0, b0, (sb.2 _ D.TOz).trans O1⟩, S1.P.at fun o q => (sb.2 _ D.i1z).trans q, S1.L.at fun o q => (sb.2 _ D.i2z).trans q⟩, fun c hc => ?_⟩
    rw [upd_ne (Nat.ne_of_lt (lt c hc))]
    exact (hf c hc).1
  done := by
    intro X e1 e2 e3 hc i pins s σ H E I hf S hg
    subst e1 e2 e3
    obtain ⟨xs, ys, hqx, hqy, hend⟩ := hg
    obtain ⟨its, rv, p, _⟩ := I.tuple hqx
    obtain ⟨its2, rv2, p2, _⟩ := I.list hqy
    have l1 := rv.length
    have l2 := rv2.length
    have he : its.toArray[i]? = none ∨ its2.toArray[i]? = none := hend.elim (fun q => .inl (by simp; omega)) (fun q => .inr (by simp; omega))
    exact nxtE (I.ok.hd hc) D S p p2.isList he fun h' hk => ⟨rfl, I.turnedL (t' := s.toks) (ch := [z, TI, TO, i1, i2]) (fun c o hb q => hk c o ⟨fun e => hb (by simp [e]), fun e => hb (by simp [e]), fun e => hb (by simp [e]), fun e => hb (by simp [e])⟩ q) hf⟩
  self := fun A i s Q E S h => wpAny_pyIter_zip S.Z h
def iZipM (K : PySem.W.Frag) (ta : TA) : TI := fun σ H R => ta σ H fun vs H1 => ∃ a b xs ys, vs = [.ref a, .ref b] ∧ SqT K H1 a xs ∧ SqL K H1 b ys ∧ R (ItM K a b) H1
theorem pi_zipM {X : Cx} {e e2 : Expr} {ta : TA} {p pos tpos : Pos} {elts : List Expr} {kk : Nat} (hg : Gl X "zip") (hm : X.mg "zip" = none) (ha : PA X [e, e2] ta)
    (hs : starEach [e, e2] X.env = (false, eval e X.env) :: starEach [e2] X.env := by rfl) (hpl : (backTo pos (starEach [e2] X.env)).any (·.1) = false := by rfl) :
    PI X (.Tuple elts kk tpos) (.Call (.Name "zip" p) [e, e2] [] pos) (iZipM X.K ta) := by
  refine ⟨fun pins s σ H R I h => Call_ (ld_blt I hg hm PyProof.Rows.boot_zip (PyProof.Rows.callWith_type1 (thn (ha.run pos pins s σ H _ I h) fun us s1 ⟨vs, H1, I1, r1, a, b, xs, ys, ex, hqx, hqy, q⟩ => ?_) hs hpl))⟩
  subst ex
  obtain ⟨ua, ub, rfl, ra, rb⟩ : ∃ ua ub, us = [ua, ub] ∧ RelV (.ref a) ua ∧ RelV (.ref b) ub := by
    cases r1 with
    | cons r rr =>
      cases rr with
      | cons r' rr => cases rr; exact ⟨_, _, rfl, r, r'⟩
  obtain rfl : ua = .ref a := ra
  obtain rfl : ub = .ref b := rb
  obtain ⟨its, rv, p1, _⟩ := I1.tuple hqx
  obtain ⟨its2, rv2, p2, _⟩ := I1.list hqy
  obtain ⟨S, _, hk⟩ := mk_all s1.heap a b
  refine calls p1 p2.isList (wpAny_pyIter_zip S.Z ?_)
  have I2 : Inv X pins σ H1 { s1 with heap := mk5 s1.heap a b } := I1.kept (t' := s1.toks) hk
  obtain ⟨o1, ho1, _⟩ := id p1
  refine ⟨s1.heap.objs.size + 4, [s1.heap.objs.size + 4, s1.heap.objs.size + 2, s1.heap.objs.size + 3, s1.heap.objs.size, s1.heap.objs.size + 1], _, _, H1, rfl, I2, turnM (PySem.W.ktu_apart s1.heap.objs.size a b (Heap.lt_size ho1) p2.lt), S, fun c hc => ?_, q⟩
  have hle : s1.heap.objs.size ≤ c := by
    simp only [List.mem_cons, List.not_mem_nil, or_false] at hc
    rcases hc with e | e | e | e | e <;> rw [e] <;> first | exact Nat.le_add_right _ _ | exact Nat.le_refl _
  exact I1.fpOk hle (I1.hok.fresh hle)
theorem walkM {K : PySem.W.Frag} {a b : Addr} {xs ys : List V} {n : Nat} (hn : n = min xs.length ys.length) : Walk (ItM K a b) n (fun H => SqT K H a xs ∧ SqL K H b ys) (YPair (fun i => xs[i]?) (fun i => ys[i]?)) := by
  subst hn
  refine ⟨fun i _ hi q => ?_, fun _ q => ⟨xs, ys, q.1, q.2, by omega⟩, fun i H v H' _ q ⟨T, x, z, h1, h2, h3, h4, h5⟩ => ⟨T, x, z, h1, h2, h3, h4 xs q.1, h5 ys q.2⟩⟩
  exact ⟨xs, ys, xs[i]'(by omega), ys[i]'(by omega), q.1, q.2, List.getElem?_eq_getElem _, List.getElem?_eq_getElem _⟩
end ZMix

namespace Wp
open PySem PySem.Spec PyProof.Rows L2 TyNe He

/-! ### tuples and tables of the module -/
/-- a tuple of the module -/
structure TupK (K : PySem.W.Frag) (a : Addr) (xs : List V) : Prop where
  ex : ∃ (o : Obj) (its : Array Value) (n : Nat), K.lookup a = some o ∧ o.cls = .type "tuple" ∧ o.data = .seq its n ∧ its.size ≤ sizeLine ∧ Vals xs its.toList
theorem TupK.sq {K : PySem.W.Frag} {a : Addr} {xs : List V} {H : Hp} (h : TupK K a xs) : SqT K H a xs := .inr h.ex
theorem TupK.mk' {K : PySem.W.Frag} {a : Addr} {xs : List V} {od : Option Addr} {its : Array Value} {n : Nat} {sl : Array (Option Value)} (h : K.lookup a = some ⟨.type "tuple", od, .seq its n, sl⟩) (hz : its.size ≤ 1000) (hv : Vals xs its.toList) : TupK K a xs :=
  ⟨_, its, n, h, rfl, rfl, Nat.le_trans hz (by decide), hv⟩
def tabG (kv : List (Str × V)) : Str → Option V := fun z => (kv.find? fun p => decide (p.1 = z)).map (·.2)
def rTab (A : Addr) (g : Str → Option V) : R2 := fun x y H Q => ∃ z v, x = .ref A ∧ y = .str z ∧ g z = some v ∧ Q v H
theorem ix_tab {X : Cx} {A : Addr} {g : Str → Option V} (M : MDict X.K X.w A g) : IxR X (rTab A g) := by
  intro e1 e2 pins s σ H x y v u Q I rx ry ⟨z, r, ex, ey, hg, q⟩ hs
  obtain ⟨es, n, D, hn⟩ := M.ex
  obtain ⟨t, h1, h2⟩ := hn z
  rw [hg] at h2
  cases t with
  | none => exact h2.elim
  | some t => exact ix_kdict e1 e2 pins s σ H x y v u Q I rx ry ⟨A, z, r, ex, ey, ⟨es, n, t, D.at_, D.lit, h1, h2⟩, q⟩ hs
/-- the entries of a table -/
def EntLit (P : Params) : List DictEntry → List (Str × V) → Prop
  | [], [] => True
  | e :: r, p :: s => (∃ t, e.key = .str p.1 t ∧ e.hash = PyData.keyHash P p.1 ∧ RelV p.2 e.val) ∧ EntLit P r s
  | _, _ => False
theorem EntLit.keys {P : Params} : ∀ {l : List DictEntry} {kv : List (Str × V)}, EntLit P l kv → PySem.W.KeysLit P l
  | [], [], _ => trivial
  | e :: r, p :: s, h => ⟨by obtain ⟨⟨t, h1, h2, _⟩, _⟩ := h; exact ⟨_, t, h1, h2⟩, EntLit.keys h.2⟩
  | [], _ :: _, h => h.elim
  | _ :: _, [], h => h.elim
theorem EntLit.find {P : Params} (z : Str) : ∀ {l : List DictEntry} {kv : List (Str × V)}, EntLit P l kv → RelO ((kv.find? fun p => decide (p.1 = z)).map (·.2)) ((l.find? (·.key.isStr z)).map (·.val)) ∧ l.any (·.refKey) = false
  | [], [], _ => ⟨trivial, rfl⟩
  | e :: r, p :: s, h => by
    obtain ⟨⟨t, h1, h2, h3⟩, h4⟩ := h
    obtain ⟨i1, i2⟩ := EntLit.find z h4
    have hr : e.refKey = false := by unfold DictEntry.refKey; rw [h1]
    refine ⟨?_, by rw [List.any_cons, hr, i2]; rfl⟩
    rw [List.find?_cons, List.find?_cons]
    have hs : e.key.isStr z = decide (p.1 = z) := by
      rw [h1]
      show (p.1 == z) = _
      by_cases q : p.1 = z
      · rw [q, decide_eq_true rfl]; exact beq_self_eq_true z
      · rw [decide_eq_false q]; exact beq_eq_false_iff_ne.mpr q
    rw [hs]
    cases decide (p.1 = z)
    · exact i1
    · exact h3
  | [], _ :: _, h => h.elim
  | _ :: _, [], h => h.elim
theorem mdictL {K : PySem.W.Frag} {w : World} {d : Addr} {es : Array DictEntry} {n : Nat} {kv : List (Str × V)} (hl : K.lookup d = some ⟨.type "dict", none, .dict es n, #[]⟩) (he : EntLit w.params es.toList kv) (low : (d == sysModules) = false) : MDict K w d (tabG kv) := by
  refine ⟨es, n, ⟨hl, he.keys, low⟩, fun z => ?_⟩
  obtain ⟨h1, h2⟩ := he.find z
  refine ⟨_, ?_, h1⟩
  unfold PySem.W.nsIn
  rw [hl]
  dsimp only
  cases es.toList.find? (·.key.isStr z) with
  | some e => rfl
  | none => rw [h2]; rfl
/-! ### texts -/
abbrev tJS (ts : List TE) : TE := fun σ H Q => tJs ts Str.empty σ H fun out H1 => Q (.str out) H1
abbrev qJoin (K : PySem.W.Frag) : V → List V → Hp → VK → Prop := fun x xs H Q => ∃ a p, ∃ ys : List Str, x = .str a ∧ xs = [.ref p] ∧ (SqL K H p (ys.map V.str) ∨ SqT K H p (ys.map V.str)) ∧ (ys.map (·.length)).sum + ys.length * a.length ≤ 16777216 ∧ Q (.str (Txt.join a ys)) H
abbrev qCount : V → List V → Hp → VK → Prop := fun x xs H Q => ∃ a b, x = .str a ∧ xs = [.str b] ∧ Q (.int (Txt.count a b)) H
abbrev qSplit : V → List V → Hp → VK → Prop := fun x xs H Q => ∃ a b, x = .str a ∧ xs = [.str b] ∧ (b.length == 0) = false ∧ a.length + 2 ≤ sizeLine ∧ rNewStrs (Txt.split a b) H Q
abbrev qStarts : V → List V → Hp → VK → Prop := fun x xs H Q => ∃ a b, x = .str a ∧ xs = [.str b] ∧ Q (.bl (Txt.startswith a b)) H
section
variable {K : PySem.W.Frag} {σ : L2.St} {H : Hp} {Q : VK} {te : TE} {ts : List TE}
theorem w_js (q : tJs ts Str.empty σ H fun out H1 => Q (.str out) H1) : tJS ts σ H Q := q
theorem w_jcons {acc : Str} {R : Str → Hp → Prop} (q : te σ H fun x H1 => ∃ y : Str, x = .str y ∧ (acc ++ y).length ≤ sizeLine ∧ tJs ts (acc ++ y) σ H1 R) : tJs (te :: ts) acc σ H R := q
theorem w_jnil {acc : Str} {R : Str → Hp → Prop} (q : R acc H) : tJs [] acc σ H R := q
theorem w_jy {acc y : Str} {R : Str → Hp → Prop} (h : (acc ++ y).length ≤ 100000) (q : tJs ts (acc ++ y) σ H R) : ∃ z : Str, V.str y = .str z ∧ (acc ++ z).length ≤ sizeLine ∧ tJs ts (acc ++ z) σ H R := ⟨y, rfl, sz h, q⟩
theorem w_fmt (q : te σ H fun x H1 => (∃ y : Str, x = .str y ∧ y.length ≤ sizeLine ∧ Q (.str y) H1) ∨ ∃ i : Int, x = .int i ∧ i.natAbs.log2 < 1920 ∧ Q (.str (toString i)) H1) : tFmt te σ H Q := q
theorem w_fmtS {y : Str} {A : Prop} {R : Str → Prop} (h : y.length ≤ 100000) (q : R y) : (∃ z : Str, V.str y = .str z ∧ z.length ≤ sizeLine ∧ R z) ∨ A := .inl ⟨y, rfl, sz h, q⟩
theorem log_small {i : Int} (h0 : 0 ≤ i) (h1 : i ≤ 100000000000000000000) : i.natAbs.log2 < 1920 := by
  have h2 : i.natAbs ≤ 100000000000000000000 := by omega
  have h3 : i.natAbs.log2 < 67 := by
    by_cases h : i.natAbs = 0
    · rw [h]; decide
    · exact (Nat.log2_lt h).mpr (Nat.lt_of_le_of_lt h2 (by decide))
  omega
theorem w_fmtI {i : Int} {A : Prop} {R : Int → Prop} (h0 : 0 ≤ i) (h1 : i ≤ 100000000000000000000) (q : R i) : A ∨ ∃ j : Int, V.int i = .int j ∧ j.natAbs.log2 < 1920 ∧ R j := .inr ⟨i, rfl, log_small h0 h1, q⟩
theorem int_len {i : Int} (h0 : 0 ≤ i) (h1 : i ≤ 100000000000000000000) : (Str.ofString (toString i)).length ≤ 70 := by
  have h2 : i.natAbs.log2 < 67 := by
    by_cases h : i.natAbs = 0
    · rw [h]; decide
    · exact (Nat.log2_lt h).mpr (Nat.lt_of_le_of_lt (show i.natAbs ≤ 100000000000000000000 by omega) (by decide))
  have e := int_text_length_le (k := 67) (by decide) h2
  rw [PySem.ofString_length]
  omega
theorem w_joinL {a : Str} {p : Addr} {ys : List Str} (h : SqL K H p (ys.map V.str)) (z : (ys.map (·.length)).sum + ys.length * a.length ≤ 100000) (q : Q (.str (Txt.join a ys)) H) : qJoin K (.str a) [.ref p] H Q := ⟨a, p, ys, rfl, rfl, .inl h, Nat.le_trans z (by decide), q⟩
theorem w_joinT {a : Str} {p : Addr} {ys : List Str} (h : SqT K H p (ys.map V.str)) (z : (ys.map (·.length)).sum + ys.length * a.length ≤ 100000) (q : Q (.str (Txt.join a ys)) H) : qJoin K (.str a) [.ref p] H Q := ⟨a, p, ys, rfl, rfl, .inr h, Nat.le_trans z (by decide), q⟩
theorem w_count {a b : Str} (q : Q (.int (Txt.count a b)) H) : qCount (.str a) [.str b] H Q := ⟨a, b, rfl, rfl, q⟩
theorem strKind_pos (a : Str) : 1 ≤ Builtin.Str.strKind a := by
  unfold Builtin.Str.strKind
  split
  · exact Nat.le_refl _
  · split <;> decide
theorem w_split {a b : Str} (h : (b.length == 0) = false) (z : a.length ≤ 100000) (q : ∀ p, H p = none → Q (.ref p) (upd H p (.lst ((Txt.split a b).map V.str)))) : qSplit (.str a) [.str b] H Q :=
  ⟨a, b, rfl, rfl, h, Nat.le_trans (Nat.add_le_add_right z 2) (by decide), q⟩
theorem w_tab {A : Addr} {g : Str → Option V} {z : Str} {v : V} (h : g z = some v) (q : Q v H) : rTab A g (.ref A) (.str z) H Q := ⟨z, v, rfl, rfl, h, q⟩
theorem w_catA {a b : Addr} {xs ys : List V} (h : SqT K H a xs) (h' : SqT K H b ys) (z : xs.length + ys.length ≤ 1000) (q : ∀ p H', Same H H' → SqT K H' p (xs ++ ys) → Q (.ref p) H') : rCatA K (.ref a) (.ref b) H Q := by
  refine ⟨a, b, xs, ys, rfl, rfl, h, h', Nat.le_trans z (by decide), fun e => ?_, fun _ e => ?_, fun _ _ p hp => ?_⟩
  · subst e
    exact q b H (Same.refl H) h'
  · subst e
    rw [List.append_nil] at q
    exact q a H (Same.refl H) h
  · exact q p _ (Same.upd (Same.refl H) hp) (SqT.of upd_same)
end
/-! ### new objects as heaps of their own; tests that are known -/
theorem Same.get {H H' : Hp} {a : Addr} {o : HO} (h : Same H H') (e : H a = some o) : H' a = some o := h _ _ e
section
variable {K : PySem.W.Frag} {σ : L2.St} {H : Hp} {Q : VK} {v : V} {tr : TA}
/-- a new object -/
def New (H : Hp) (o : HO) (R : Addr → Hp → Prop) : Prop := ∀ p, H p = none → R p (upd H p o)
theorem w_new {o : HO} {R : Addr → Hp → Prop} (q : ∀ p H2, H p = none → Same H H2 → H2 p = some o → R p H2) : New H o R := fun p hp => q p _ hp (Same.upd (Same.refl H) hp) upd_same
theorem newT {t : Addr} {o : HO} (ht : H t = none) : ∃ G, G = upd H t o ∧ Same H G ∧ G t = some o := ⟨_, rfl, Same.upd (Same.refl H) ht, upd_same⟩
theorem Same.sqT {H H' : Hp} {a : Addr} {xs : List V} (e : Same H H') (h : SqT K H a xs) : SqT K H' a xs := h.elim (fun r => .inl (r.elim (fun r => .inl (e _ _ r)) fun ⟨o, r⟩ => .inr ⟨o, e _ _ r⟩)) .inr
theorem w_zipM {ta : TA} {R : It → Hp → Prop} (q : ta σ H fun vs H1 => ∃ a b xs ys, vs = [.ref a, .ref b] ∧ SqT K H1 a xs ∧ SqL K H1 b ys ∧ R (ZMix.ItM K a b) H1) : ZMix.iZipM K ta σ H R := q
theorem w_tupV (q : tr σ H fun xs H1 => xs.length ≤ sizeLine ∧ New H1 (.tup xs) fun p H2 => Q (.ref p) H2) : tTup tr σ H Q := q
theorem w_lstV (q : tr σ H fun xs H1 => xs.length ≤ sizeLine ∧ New H1 (.lst xs) fun p H2 => Q (.ref p) H2) : tLst tr σ H Q := q
theorem w_appV {p : Addr} {xs : List V} (h : H p = some (.lst xs)) (z : xs.length ≤ 100000) (q : ∀ H2, Kp p H H2 → H2 p = some (.lst (xs ++ [v])) → Q .non H2) : rAppend (.ref p) [v] H Q :=
  ⟨p, xs, v, rfl, rfl, h, Nat.lt_of_le_of_lt z (by decide), q _ Kp.refl.updp upd_same⟩
theorem w_catV {l b : Addr} {xs zs : List V} (h : H l = some (.lst xs)) (h' : H b = some (.lst zs)) (z : xs.length + zs.length ≤ 1000000) (q : ∀ p H2, H p = none → Same H H2 → H2 p = some (.lst (xs ++ zs)) → Q (.ref p) H2) : rCat (.ref l) (.ref b) H Q :=
  ⟨l, b, xs, zs, rfl, rfl, h, h', Nat.le_trans z (by decide), fun p hp => q p _ hp (Same.upd (Same.refl H) hp) upd_same⟩
theorem w_listOfV {p : Addr} {ys : List V} (h : SqL K H p ys ∨ SqT K H p ys) (q : ∀ l H2, H l = none → Same H H2 → H2 l = some (.lst ys) → Q (.ref l) H2) : qListOf K [.ref p] H Q :=
  ⟨p, ys, rfl, h, fun l hl => q l _ hl (Same.upd (Same.refl H) hl) upd_same⟩
theorem w_slTV {a : Addr} {xs : List V} {lo hi : Option Int} (h : SqT K H a xs) (n : ¬ (HT.sIx xs.length 0 lo = 0 ∧ HT.sIx xs.length xs.length hi = xs.length)) (q : ∀ p H2, H p = none → Same H H2 → H2 p = some (.tup (cutV xs lo hi)) → Q (.ref p) H2) : rSlT K (.ref a) lo hi H Q :=
  ⟨a, xs, rfl, h, n, fun p hp => q p _ hp (Same.upd (Same.refl H) hp) upd_same⟩
theorem w_slLV {a : Addr} {xs : List V} {lo hi : Option Int} (h : SqL K H a xs) (q : ∀ p H2, H p = none → Same H H2 → H2 p = some (.lst (cutV xs lo hi)) → Q (.ref p) H2) : rSlL K (.ref a) lo hi H Q :=
  ⟨a, xs, rfl, h, fun p hp => q p _ hp (Same.upd (Same.refl H) hp) upd_same⟩
theorem w_splitV {a b : Str} (h : (b.length == 0) = false) (z : a.length ≤ 100000) (q : ∀ p H2, H p = none → Same H H2 → H2 p = some (.lst ((Txt.split a b).map V.str)) → Q (.ref p) H2) : qSplit (.str a) [.str b] H Q :=
  ⟨a, b, rfl, rfl, h, Nat.le_trans (Nat.add_le_add_right z 2) (by decide), fun p hp => q p _ hp (Same.upd (Same.refl H) hp) upd_same⟩
theorem w_inTb {p : Addr} {xs : List V} {b : Bool} (h : SqT K H p xs) (f : flatV v = true) (fs : xs.all flatV = true) (e : inV v xs = b) (q : Q (.bl b) H) : rIn K false v (.ref p) H Q := w_inT h f fs (by rw [e]; exact q)
theorem w_inLb {p : Addr} {xs : List V} {b : Bool} (h : SqL K H p xs) (f : flatV v = true) (fs : xs.all flatV = true) (e : inV v xs = b) (q : Q (.bl b) H) : rIn K false v (.ref p) H Q := w_inL h f fs (by rw [e]; exact q)
theorem w_dec1 {c A B : Prop} [Decidable c] (h : c) (q : A) : if decide c = true then A else B := by rw [if_pos (decide_eq_true h)]; exact q
theorem w_dec0 {c A B : Prop} [Decidable c] (h : ¬ c) (q : B) : if decide c = true then A else B := by rw [if_neg (by rw [decide_eq_true_iff]; exact h)]; exact q
end
/-! ### join -/
theorem join_nil (a : Str) : Txt.join a [] = Str.empty := by rfl
theorem join_eq (a : Str) (ys : List Str) : Txt.join a ys = Str.join a ys := StrLaws.glued_eq_join a ys
theorem join_len (a : Str) (ys : List Str) : (Txt.join a ys).length ≤ (ys.map (·.length)).sum + ys.length * a.length := by
  rw [join_eq]
  exact StrLaws.join_length_le a ys
theorem sum_le {α : Type} (f : α → Nat) (m : Nat) : ∀ {l : List α}, (∀ x ∈ l, f x ≤ m) → (l.map f).sum ≤ l.length * m
  | [], _ => Nat.zero_le _
  | x :: l, h => by
    rw [List.map_cons, List.sum_cons, List.length_cons, Nat.succ_mul]
    have := sum_le f m (l := l) fun y hy => h y (List.mem_cons_of_mem _ hy)
    have := h x (List.mem_cons_self ..)
    omega
/-! ### lines of a text -/
theorem split_len {a b : Str} (hb : b.length = 1) (hk : ¬ (Builtin.Str.strKind a < Builtin.Str.strKind b)) : ((Txt.split a b).length : Int) = Txt.count a b + 1 := by
  unfold Txt.split Txt.count
  by_cases h : a.length < b.length
  · have h0 : a.length = 0 := by omega
    rw [if_pos (by rw [decide_eq_true h]; rfl)]
    have e : a = ⟨#[]⟩ := by
      obtain ⟨c⟩ := a
      have : c.size = 0 := h0
      rw [Array.size_eq_zero_iff] at this
      rw [this]
    subst e
    have : Builtin.Str.occurrences ⟨#[]⟩ b 0 (⟨#[]⟩ : Str).length ((⟨#[]⟩ : Str).length + 1) = [] := by
      unfold Builtin.Str.occurrences
      show (Id.run do _) = _
      simp [Str.length, hb]
      have h1 : b.cps.size = 1 := hb
      have h2 : b.cps ≠ #[] := fun e => by rw [e] at h1; exact nomatch h1
      simp [h2]
    rw [this]
    rfl
  · rw [if_neg (by rw [decide_eq_false h, decide_eq_false hk]; decide)]
    by_cases h2 : (Builtin.Str.occurrences a b 0 a.length (a.length + 1)).isEmpty = true
    · rw [if_pos h2, List.isEmpty_iff.mp h2]
      rfl
    · rw [if_neg h2]
      unfold Builtin.Str.partsBetween
      simp only [List.length_map, List.length_zip, List.length_cons, List.length_append, List.length_map, List.length_nil]
      omega
theorem split_lines (a : Str) : ((Txt.split a (Str.ofString "\n")).length : Int) = Txt.count a (Str.ofString "\n") + 1 := split_len rfl fun h => by
  have h1 := strKind_pos a
  have h2 : Builtin.Str.strKind (Str.ofString "\n") = 1 := by decide +kernel
  omega
theorem count_le (a : Str) : 0 ≤ Txt.count a (Str.ofString "\n") ∧ Txt.count a (Str.ofString "\n") ≤ a.length + 1 := by
  have h1 := split_lines a
  have h2 := PyProof.Rows.split_le a (Str.ofString "\n")
  refine ⟨by unfold Txt.count; exact Int.natCast_nonneg _, by omega⟩
end Wp

namespace Wp
open PySem PySem.Spec PyProof.Rows L2 TyNe HT
section
variable {prog : Program} {w : World} {A : Around} {E : Value → Shared → Prop} {s : Shared}
/-- t[lo:hi] that is all of t is t -/
theorem slice_whole {t k : Addr} {its : Array Value} {vl vu : Value} {lo hi : Option Int} {Q : Value → Shared → Prop} (ht : IsTup s.heap t its) (hs : s.heap.IsSliceOf k vl vu .none) (pl : IsPart vl lo) (pu : IsPart vu hi)
    (hw : HT.sIx its.size 0 lo = 0 ∧ HT.sIx its.size its.size hi = its.size) (q : Q (.ref t) s) : wpAny (model prog w) A (getItem (.ref t) (.ref k)) Q E s := by
  obtain ⟨os, hos, hcs, hds⟩ := id hs
  obtain ⟨ot, hot, hct, n, hdt⟩ := id ht
  have tk : s.TypeIs (.ref k) "slice" := ⟨os, hos, hcs⟩
  unfold getItem
  try with_reducible refine wpAny_holding ?_
  first | refine wpAny_bind (wpAny_pure ?_) | skip
  refine wpAny_bind (wpAny_sequenceKey ht.typeIs (by decide) (wpAny_bind (wpAny_callSpecial?_slot (name := Str.ofString "__getitem__") ht.typeIs slot_tuple_getitem (wpAny_call_entry slot_tuple_getitem ht.typeIs PyProof.Rows.entry_tuple_getitem ?_ (PyProof.Rows.args_tuple_getitem _ _)))))
  show wpAny _ _ (Builtin.Tuple.tupleItemsOf (.ref t) >>= _) _ _ s
  refine wpAny_bind (tupleItemsOf_ ht (wpAny_bind (wpAny_typeOf tk ?_)))
  rw [if_pos (by decide)]
  refine wpAny_bind (sliceApplied_gen hs pl pu ?_)
  have yes : (((HT.sIx its.size 0 lo : Nat) : Int) == 0 && (1 : Int) == 1 && (HT.sIx its.size its.size hi - HT.sIx its.size 0 lo) == its.size) = true := by
    rw [hw.1, hw.2, Nat.sub_zero]
    simp
  show wpAny _ _ (if (((HT.sIx its.size 0 lo : Nat) : Int) == 0 && (1 : Int) == 1 && (HT.sIx its.size its.size hi - HT.sIx its.size 0 lo) == its.size) = true then _ else _) _ _ s
  rw [if_pos yes]
  refine wpAny_bind (m := Builtin.Tuple.tupleIsExact _) ?_
  unfold Builtin.Tuple.tupleIsExact
  refine wpAny_bind (wpAny_typeOf ht.typeIs (wpAny_pure ?_))
  rw [if_pos (by decide)]
  first
    | exact wpAny_bind (wpAny_rule (wpAny_bind (wpAny_pure (wpAny_pure ⟨_, rfl, wpAny_pure q⟩))))
    | exact wpAny_bind (wpAny_rule (wpAny_pure ⟨_, rfl, wpAny_pure q⟩))
    | exact wpAny_bind (wpAny_rule (wpAny_bind (wpAny_pure (wpAny_bind (wpAny_pure ⟨_, rfl, wpAny_pure q⟩)))))
    | exact wpAny_bind (wpAny_rule (wpAny_bind (wpAny_pure ⟨_, rfl, wpAny_pure q⟩)))
    | trace_state
end
/-! ### a slice of a list or of a tuple, all of it or not -/
def rSlA (K : PySem.W.Frag) : V → Option Int → Option Int → Hp → VK → Prop := fun x lo hi H Q => ∃ a xs, x = .ref a ∧ ((SqL K H a xs ∧ ∀ p, H p = none → Q (.ref p) (upd H p (.lst (cutV xs lo hi)))) ∨
  (SqT K H a xs ∧ ((HT.sIx xs.length 0 lo = 0 ∧ HT.sIx xs.length xs.length hi = xs.length) → Q (.ref a) H) ∧ (¬ (HT.sIx xs.length 0 lo = 0 ∧ HT.sIx xs.length xs.length hi = xs.length) → ∀ p, H p = none → Q (.ref p) (upd H p (.tup (cutV xs lo hi))))))
theorem sl_any {X : Cx} : SlR X (rSlA X.K) := by
  intro pins s σ H x v vl vu lo hi sl Q I rx hs pl pu ⟨a, xs, ex, h⟩
  rcases h with ⟨hl, q⟩ | ⟨ht, q1, q2⟩
  · exact sl_list pins s σ H x v vl vu lo hi sl Q I rx hs pl pu ⟨a, xs, ex, hl, q⟩
  · by_cases w : HT.sIx xs.length 0 lo = 0 ∧ HT.sIx xs.length xs.length hi = xs.length
    · subst ex
      obtain rfl : v = Value.ref a := rx
      obtain ⟨its, r, p, hz⟩ := I.tuple ht
      have hlen : its.toArray.size = xs.length := by rw [List.size_toArray]; exact r.length.symm
      exact ⟨"tuple", _, PyProof.Rows.slot_tuple_getitem.lookup, p.typeIs, slice_whole p hs pl pu (by rw [hlen]; exact w) ⟨.ref a, H, I, rfl, q1 w⟩⟩
    · exact sl_tup pins s σ H x v vl vu lo hi sl Q I rx hs pl pu ⟨a, xs, ex, ht, w, q2 w⟩
end Wp

namespace Wp
open PySem PySem.Spec PyProof.Rows L2 TyNe HT
/-- room for a test with items that are data -/
theorem hu65 {j : Nat} {A : Around} (hr : Room j A) : A.units + 65 < cLine := by
  have := hr.un
  omega
/-- x in t, x not in t, where t is a tuple of data -/
def rInTD (K : PySem.W.Frag) (neg : Bool) : R2 := fun x y H Q => ∃ d ds, Dp K H x d ∧ Dp K H y (.tuple ds) ∧ SeqAt.shaped d = true ∧ SeqAt.shaped (.tuple ds) = true ∧ Q (.bl (if neg = true then !(ds.any fun z => PyData.eqv z d) else ds.any fun z => PyData.eqv z d)) H
section
variable {X : Cx}
theorem op_inTD (hu : X.A.units + 65 < cLine) : OpR X (compareOp .In) (rInTD X.K false) := by
  intro pins s σ H x y v u Q I rx ry ⟨d, ds, hd, he, sd, se, q⟩
  obtain ⟨_, r1⟩ := Dp.reads I d x v hd rx
  obtain ⟨_, r2⟩ := Dp.reads I (.tuple ds) y u he ry
  exact SeqAt.in_tuple_reads r2 r1 (SeqAt.canLay_of_shaped se) (SeqAt.canLay_of_shaped sd) (room_in_shaped sd hu) ⟨.bl _, H, I, rfl, q⟩
theorem op_notInTD (hu : X.A.units + 65 < cLine) : OpR X (compareOp .NotIn) (rInTD X.K true) := by
  intro pins s σ H x y v u Q I rx ry ⟨d, ds, hd, he, sd, se, q⟩
  obtain ⟨_, r1⟩ := Dp.reads I d x v hd rx
  obtain ⟨_, r2⟩ := Dp.reads I (.tuple ds) y u he ry
  exact SeqAt.notIn_tuple_reads r2 r1 (SeqAt.canLay_of_shaped se) (SeqAt.canLay_of_shaped sd) (room_in_shaped sd hu) ⟨.bl _, H, I, rfl, q⟩
end
end Wp

namespace Wp
open PySem PySem.Spec PyProof.Rows L2 TyNe HT
/-- x <= y, x >= y of data that are alike -/
def rLeD (K : PySem.W.Frag) : R2 := fun x y H Q => ∃ d e, Dp K H x d ∧ Dp K H y e ∧ PySem.W.alike d e = true ∧ d ≠ .none ∧ d.depth ≤ 64 ∧ Q (.bl (!PySem.W.dataLt e d)) H
def rGeD (K : PySem.W.Frag) : R2 := fun x y H Q => ∃ d e, Dp K H x d ∧ Dp K H y e ∧ PySem.W.alike d e = true ∧ d ≠ .none ∧ d.depth ≤ 64 ∧ Q (.bl (!PySem.W.dataLt d e)) H
/-- x in l, x not in l, where l is a list of data -/
def rInLD (K : PySem.W.Frag) (neg : Bool) : R2 := fun x y H Q => ∃ d ds, Dp K H x d ∧ Dp K H y (.list ds) ∧ SeqAt.shaped d = true ∧ SeqAt.shaped (.list ds) = true ∧ Q (.bl (if neg = true then !(ds.any fun z => PyData.eqv z d) else ds.any fun z => PyData.eqv z d)) H
section
variable {X : Cx}
theorem op_leD (hu : X.A.units + 65 < cLine) : OpR X (compareOp .LtE) (rLeD X.K) := by
  intro pins s σ H x y v u Q I rx ry ⟨d, e, hd, he, al, nn, dp, q⟩
  obtain ⟨_, r1⟩ := Dp.reads I d x v hd rx
  obtain ⟨_, r2⟩ := Dp.reads I e y u he ry
  exact PySem.W.le_data r1 r2 al nn (by have := Nat.min_le_left d.depth e.depth; omega) ⟨.bl _, H, I, rfl, q⟩
theorem op_geD (hu : X.A.units + 65 < cLine) : OpR X (compareOp .GtE) (rGeD X.K) := by
  intro pins s σ H x y v u Q I rx ry ⟨d, e, hd, he, al, nn, dp, q⟩
  obtain ⟨_, r1⟩ := Dp.reads I d x v hd rx
  obtain ⟨_, r2⟩ := Dp.reads I e y u he ry
  exact PySem.W.ge_data r1 r2 al nn (by have := Nat.min_le_left d.depth e.depth; omega) ⟨.bl _, H, I, rfl, q⟩
theorem op_inLD (hu : X.A.units + 65 < cLine) : OpR X (compareOp .In) (rInLD X.K false) := by
  intro pins s σ H x y v u Q I rx ry ⟨d, ds, hd, he, sd, se, q⟩
  obtain ⟨_, r1⟩ := Dp.reads I d x v hd rx
  obtain ⟨_, r2⟩ := Dp.reads I (.list ds) y u he ry
  exact SeqAt.in_list_reads r2 r1 (SeqAt.canLay_of_shaped se) (SeqAt.canLay_of_shaped sd) (room_in_shaped sd hu) ⟨.bl _, H, I, rfl, q⟩
theorem op_notInLD (hu : X.A.units + 65 < cLine) : OpR X (compareOp .NotIn) (rInLD X.K true) := by
  intro pins s σ H x y v u Q I rx ry ⟨d, ds, hd, he, sd, se, q⟩
  obtain ⟨_, r1⟩ := Dp.reads I d x v hd rx
  obtain ⟨_, r2⟩ := Dp.reads I (.list ds) y u he ry
  exact SeqAt.notIn_list_reads r2 r1 (SeqAt.canLay_of_shaped se) (SeqAt.canLay_of_shaped sd) (room_in_shaped sd hu) ⟨.bl _, H, I, rfl, q⟩
end
/-- l.insert(i, y) -/
abbrev qInsert : V → List V → Hp → VK → Prop := fun x vs H Q => ∃ (l : Addr) (xs : List V) (i : Int) (y : V), x = .ref l ∧ vs = [.int i, y] ∧ H l = some (.lst xs) ∧ xs.length < sizeLine ∧ 0 ≤ i ∧ i < 2 ^ 63 ∧ Q .non (upd H l (.lst (xs.take i.toNat ++ [y] ++ xs.drop i.toNat)))
/-! ### an own class made without arguments -/
theorem pe_mk0 {X : Cx} {k j : Nat} {C : Addr} {x : Str} {sp : Sp} {dvs : List V} {p pos : Pos} (c : C8.Mak X.prog X.w X.K X.mg X.base k x C sp dvs) (hr : Room j X.A) (hk : k + 1 ≤ j) (hg : Gl X x)
    (hdb : (x == ("__debug__" : Str)) = false := by decide) : PE X (.Call (.Name x p) [] [] pos) (tMake C sp dvs C8.E0 tNil) := by
  obtain ⟨f, fd, ps, ds, M, F, hm, b, d⟩ := c.ex
  exact pe_make0 M F (hr.mono hk) hg hm b d C8.pass0 hdb
/-! ### (number, text) < (number, text) -/
theorem alike_key (s t : Int) (a b : Str) : PySem.W.alike (.tuple [.int s, .str a]) (.tuple [.int t, .str b]) = true := by rfl
theorem lt_key {s t : Int} (a b : Str) (h : s < t) : PySem.W.dataLt (.tuple [.int s, .str a]) (.tuple [.int t, .str b]) = true := by
  rw [PySem.W.dataLt_tuple, PySem.W.dataLt_all_no (by rfl) (by show (s == t) = false; rw [beq_eq_false_iff_ne]; omega), PySem.W.dataLt_int]
  exact decide_eq_true h
end Wp

namespace Wp
open PySem PySem.Spec PyProof.Rows L2 TyNe

/-! ### defs that may raise -/
section
variable {P : Program} {w : World} {K : PySem.W.Frag} {mg : Str → Option Value} {base : Heap}
theorem fnX {x qual : Str} {st : Stmt} {f : Addr} {fd : FuncData} {N ps : List Str} {k : Nat} {sp : Sp} (F : C8.Fun K x qual st f fd) (S : FnScope N ps (C8.fnScope st)) (len : ∀ vs H Q E, sp vs H Q E → vs.length = ps.length)
    (hbody : ∀ (cdv : Value) (A : Around) (outer : List Env) (s : Shared) (H : Hp) (vs : List V) (Q : VK) (E : XK), Room k (A.deeper (envOfC qual (C8.fnScope st) s.heap.objs.size f cdv)) → sp vs H Q E →
      ∃ t, PSs (cxOf (L2.CX P w) P w K mg base N qual (C8.fnScope st) f cdv A outer s H E) (C8.fnBody st) t ∧ t { nx := fun _ H' => Q .non H', rt := Q } (start N vs) H) : FnOk P w K mg base (L2.CX P w) (k + 1) f fd ps sp := by
  obtain ⟨oc, od, dV, kV, doc, pm, an, cdv, ct, osl, rfl, lk, hcd⟩ := F.ex
  refine fn_of lk hcd S len fun A outer s H vs Q E hr hsp => ?_
  obtain ⟨t, h, q⟩ := hbody cdv A outer s H vs Q E hr hsp
  exact ⟨t, h, q⟩
/-- a def that may raise, under its name -/
structure XCal (P : Program) (w : World) (K : PySem.W.Frag) (mg : Str → Option Value) (base : Heap) (k : Nat) (x : Str) (sp : Sp) : Prop where
  ex : ∃ (f : Addr) (fd : FuncData) (ps : List Str), FnOk P w K mg base (L2.CX P w) k f fd ps sp ∧ mg x = some (.ref f) ∧ PySem.W.keepIn K (.ref f) = true ∧ Binds K fd ps []
theorem calX {x : Str} {st : Stmt} {f : Addr} {fd : FuncData} {N ps : List Str} {k : Nat} {sp : Sp} (F : C8.Def K mg x st f fd) (b : Binds K fd ps []) (S : FnScope N ps (C8.fnScope st)) (len : ∀ vs H Q E, sp vs H Q E → vs.length = ps.length)
    (hbody : ∀ (cdv : Value) (A : Around) (outer : List Env) (s : Shared) (H : Hp) (vs : List V) (Q : VK) (E : XK), Room k (A.deeper (envOfC x (C8.fnScope st) s.heap.objs.size f cdv)) → sp vs H Q E →
      ∃ t, PSs (cxOf (L2.CX P w) P w K mg base N x (C8.fnScope st) f cdv A outer s H E) (C8.fnBody st) t ∧ t { nx := fun _ H' => Q .non H', rt := Q } (start N vs) H) : XCal P w K mg base (k + 1) x sp :=
  ⟨f, fd, ps, fnX F.fn S len hbody, F.mgf, F.kp, b⟩
end
section
variable {X : Cx} {k j : Nat} {x : Str} {sp : Sp} {p pos : Pos} {e : Expr} {es : List Expr} {t : TA}
theorem passX0 : Passes (L2.CX X.prog X.w) X C8.E0 := fun _ _ _ _ _ _ _ ⟨_, _, _, _, _, _, _, _, _, _, _, _, h⟩ => h.elim
/-- called where it does not raise -/
theorem pe_cx (c : XCal X.prog X.w X.K X.mg X.base k x sp) (hr : Room j X.A) (hk : k ≤ j) (hg : Gl X x) (ha : PA X (e :: es) t)
    (hdb : (x == ("__debug__" : Str)) = false := by decide) (he : starEach (e :: es) X.env = (false, eval e X.env) :: starEach es X.env := by rfl) (hpl : (backTo pos (starEach es X.env)).any (·.1) = false := by rfl) :
    PE X (.Call (.Name x p) (e :: es) [] pos) (tCall sp [] C8.E0 t) := by
  obtain ⟨f, fd, ps, F, hm, kp, b⟩ := c.ex
  exact pe_call F (hr.mono hk) hg hm kp b .nil passX0 ha hdb he hpl
/-- called where it may raise -/
theorem pe_cs {W : WX} (c : XCal X.prog X.w X.K X.mg X.base k x sp) (hr : Room j X.A) (hk : k ≤ j) (hg : Gl X x) (tk : Takes X W) (ha : PA X (e :: es) t)
    (hdb : (x == ("__debug__" : Str)) = false := by decide) (he : starEach (e :: es) X.env = (false, eval e X.env) :: starEach es X.env := by rfl) (hpl : (backTo pos (starEach es X.env)).any (·.1) = false := by rfl) :
    PE X (.Call (.Name x p) (e :: es) [] pos) (tCallS sp (WE W) t) := by
  obtain ⟨f, fd, ps, F, hm, kp, b⟩ := c.ex
  exact pe_callS F (hr.mono hk) hg hm kp b (fun σ => passAt tk σ) ha hdb he hpl
theorem takes0 : Takes X (fun _ _ _ _ => False) := fun _ _ ⟨_, _, _, _, _, _, _, _, _, _, _, _, _, _, _, _, w⟩ => w.elim
/-- what is known only where the reading says so -/
theorem pss_given {A : Prop} {st : List Stmt} {t : TS} (h : A → PSs X st t) : PSs X st (fun D σ H => A ∧ t D σ H) := ⟨fun pins s σ H D I q => (h q.1).run pins s σ H D I q.2⟩
end
/-- if xs: -/
abbrev tTru (K : PySem.W.Frag) (ta : TE) : TT := fun σ H Q => ta σ H fun x H' => ∃ k, TruV K x H' k ∧ Q k H'
/-- raise C('..') -/
def tRaise (C : Addr) (E : XK) : TS := fun _ _ H => E (.ref C) none H
/-- an own exception class without __init__, as the module has it -/
structure ExB (K : PySem.W.Frag) (C : Addr) : Prop where
  ex : PySem.W.excIn K C [.type "ValueError", .type "Exception", .type "BaseException", .type "object"] "ValueError.__new__" = true
  kp : PySem.W.keepIn K (.ref C) = true
  sb : PySem.W.subIn K (.ref C) (.type "BaseException") = some true
  ty : PySem.W.typeIn K (.ref C) = some (.type "type")
theorem ps_rz {X : Cx} {C : Addr} {W : WX} {x m : Str} {jj : Nat} {p p2 pos pos2 : Pos} (hc : X.calm = true) (B : ExB X.K C) (gC : X.mg x = some (.ref C)) (tk : Takes X W) (hg : Gl X x) (hdb : (x == ("__debug__" : Str)) = false := by decide) :
    PS X (.Raise (some (.Call (.Name x p) [.Constant (.str m) jj p2] [] pos)) none pos2) (fun _ σ H => W (.ref C) none σ H) := ps_raise hc tk (pmk_own PySem.F.excBase_ValueError B.ex gC B.kp (raises_own B.sb B.ty) hg hdb)
/-- try: .. except C as n: .. -/
def tTryAs (K : PySem.W.Frag) (C : Addr) (i : Nat) (ts : Addr → Value → Option Addr → TS) (tb : WX → TS) : TS := fun D σ H => tb (wAs K (.ref C) i ts (fun _ _ _ _ => False) D) D σ H
end Wp

/-! Wp12: None among the keys of a dict whose keys are tuples. -/
namespace Wp
open PySem PySem.Spec PyProof.Rows L2

section
variable {prog : Program} {w : World} {A : Around} {E : Value → Shared → Prop} {s : Shared}

theorem tellNone {K : Type} [DecidableEq K] {knd : HeapKind prog w K} {stored : List Value} {Q : Bool → Shared → Prop}
    (hst : ∀ v ∈ stored, ∃ k' b, v = .ref b ∧ knd.is s.heap k' b) (h : Q false s) : wpAny (model prog w) A (tableMayTell .none stored) Q E s := by
  unfold tableMayTell
  split
  · exact wpAny_pure h
  · refine wpAny_bind ?_
    show wpAny _ _ (pure true) _ _ _
    refine wpAny_pure ?_
    simp only [Bool.not_true, Bool.false_eq_true, if_false]
    refine wpAny_bind ?_
    refine wpAny_forIn_list _ (fun rest r s' => s' = s ∧ r = (none, ()) ∧ ∀ v ∈ rest, ∃ k' b, v = .ref b ∧ knd.is s.heap k' b) _ ?_ ?_ _ _ ⟨rfl, rfl, hst⟩
    · rintro x rest r s' ⟨rfl, rfl, hr⟩
      obtain ⟨k', b, rfl, hb⟩ := hr x List.mem_cons_self
      refine wpAny_bind (knd.quiet hb ?_)
      simp only [Bool.not_true, Bool.false_eq_true, if_false]
      exact wpAny_pure ⟨rfl, rfl, fun v hv => hr v (List.mem_cons_of_mem _ hv)⟩
    · rintro r s' ⟨rfl, rfl, _⟩
      exact wpAny_pure h

theorem findNone {K : Type} [DecidableEq K] {knd : HeapKind prog w K} {d : Addr} {o : Obj} {es ep} {hsh : Int} {xs : List (K × Addr × Value)} {Q : Option Nat → Shared → Prop}
    (hne : ∀ (E' : Value → Shared → Prop) (k : K) (b : Addr) (Q' : Bool → Shared → Prop), knd.is s.heap k b → Q' false s → wpAny (model prog w) A (eqBool (.ref b) .none) Q' E' s)
    (ho : s.heap.get? d = some o) (hd : o.data = .dict es ep) (he : es.toList = xs.map (entryOfKey knd)) (his : ∀ x ∈ xs, knd.is s.heap x.1 x.2.1)
    (hQ : Q none s) : wpAny (model prog w) A (dictFind d .none hsh) Q E s := by
  have hsz : es.size = xs.length := size_of_entries he
  have hmem : ∀ e ∈ es, ∃ x ∈ xs, e = entryOfKey knd x := by
    intro e hin
    have : e ∈ xs.map (entryOfKey knd) := he ▸ Array.mem_toList_iff.mpr hin
    obtain ⟨x, hx, rfl⟩ := List.mem_map.mp this
    exact ⟨x, hx, rfl⟩
  have hst : ∀ v ∈ (placesWithHash es.size (fun i => es[i]?.map (·.hash)) hsh).filterMap (fun i => es[i]?.map (·.key)), ∃ k' b, v = .ref b ∧ knd.is s.heap k' b := by
    intro v hv
    obtain ⟨i, _, hi⟩ := List.mem_filterMap.mp hv
    cases hei : es[i]? with
    | none => rw [hei] at hi; cases hi
    | some e =>
      rw [hei] at hi
      obtain rfl : e.key = v := by simpa using hi
      obtain ⟨x, hx, rfl⟩ := hmem e (Array.mem_of_getElem? hei)
      exact ⟨x.1, x.2.1, rfl, his x hx⟩
  have hpl : ∀ i ∈ placesWithHash es.size (fun i => es[i]?.map (·.hash)) hsh, ∃ e, es[i]? = some e ∧ e.hash = hsh ∧ ∃ x ∈ xs, e = entryOfKey knd x := by
    intro i hi
    have q : (es[i]?.map (·.hash) == some hsh) = true := (List.mem_filter.mp hi).2
    cases hei : es[i]? with
    | none => rw [hei] at q; exact absurd q (by simp)
    | some e =>
      rw [hei] at q
      exact ⟨e, rfl, by simpa using q, hmem e (Array.mem_of_getElem? hei)⟩
  unfold dictFind
  try with_reducible refine wpAny_holding ?_
  refine wpAny_bind (wpAny_dictEntries ho hd ?_)
  dsimp only
  by_cases hall : ((Value.none :: (placesWithHash es.size (fun i => es[i]?.map (·.hash)) hsh).filterMap (fun i => es[i]?.map (·.key))).all carriedByValue) = true
  · rw [if_pos hall]
    have hnil : placesWithHash es.size (fun i => es[i]?.map (·.hash)) hsh = [] := by
      cases hp : placesWithHash es.size (fun i => es[i]?.map (·.hash)) hsh with
      | nil => rfl
      | cons i t =>
        obtain ⟨e, h1, _, x, _, h2⟩ := hpl i (by rw [hp]; exact List.mem_cons_self)
        rw [hp] at hall
        subst h2
        simp only [List.filterMap_cons, h1, Option.map_some, List.all_cons, entryOfKey, carriedByValue, Bool.false_and, Bool.and_false] at hall
        exact absurd hall (by decide)
    rw [hnil]
    unfold dictWalkPlain
    refine wpAny_bind ?_
    refine wpAny_forIn_list _ (fun rest r s' => s' = s ∧ r = (none, ()) ∧ rest = []) _ ?_ ?_ _ _ ⟨rfl, rfl, rfl⟩
    · rintro x rest r s' ⟨_, _, h⟩
      exact nomatch h
    · rintro r s' ⟨rfl, rfl, _⟩
      exact wpAny_pure hQ
  · rw [if_neg hall]
    have hone : (((placesWithHash es.size (fun i => es[i]?.map (·.hash)) hsh).filterMap (fun i => es[i]?.map (·.key))) == [Value.none]) = false := by
      cases hp : (placesWithHash es.size (fun i => es[i]?.map (·.hash)) hsh).filterMap (fun i => es[i]?.map (·.key)) with
      | nil => rfl
      | cons v t =>
        obtain ⟨_, b, rfl, _⟩ := hst v (by rw [hp]; exact List.mem_cons_self)
        cases hb : (Value.ref b :: t == [Value.none]) with
        | false => rfl
        | true => exact absurd (eq_of_beq hb) (by simp)
    rw [hone]
    refine wpAny_bind (tellNone hst ?_)
    rw [if_neg (by simp)]
    refine wpAny_bind ?_
    refine wpAny_forIn_list _ (fun rest b s' => s' = s ∧ b = (none, none) ∧ ∀ i ∈ rest, i ∈ placesWithHash es.size (fun i => es[i]?.map (·.hash)) hsh) _ ?_ ?_ _ _ ⟨rfl, rfl, fun _ h => h⟩
    · rintro x rest b s' ⟨rfl, rfl, hr⟩
      obtain ⟨e, h1, h2, ⟨k', b', v'⟩, hx, rfl⟩ := hpl x (hr x List.mem_cons_self)
      rw [h1]
      dsimp only
      rw [if_pos (by rw [h2]; simp)]
      refine wpAny_bind (wpAny_dictEpoch ho hd (wpAny_bind (hne _ k' b' _ (his _ hx) (wpAny_bind (wpAny_dictEpoch ho hd ?_)))))
      show wpAny _ _ (if (ep != ep) = true then _ else _) _ E _
      rw [if_neg (by simp)]
      simp only [Bool.false_eq_true, if_false]
      refine wpAny_bind (wpAny_rule ?_)
      first | rw [if_neg (by simp)] | skip
      first
        | exact wpAny_pure ⟨rfl, rfl, fun i h => hr i (List.mem_cons_of_mem _ h)⟩
        | exact wpAny_bind (wpAny_pure (wpAny_pure ⟨rfl, rfl, fun i h => hr i (List.mem_cons_of_mem _ h)⟩))
    · rintro r s' ⟨rfl, rfl, _⟩
      exact wpAny_pure hQ

theorem getNone {K : Type} [DecidableEq K] {knd : HeapKind prog w K} {d : Addr} {xs : List (K × Addr × Value)} {Q : Option Value → Shared → Prop}
    (hne : ∀ (s' : Shared) (E' : Value → Shared → Prop) (k : K) (b : Addr) (Q' : Bool → Shared → Prop), knd.is s'.heap k b → Q' false s' → wpAny (model prog w) A (eqBool (.ref b) .none) Q' E' s')
    (hm : s.heap.DictOfH knd d xs) (h : Q none { s with toks := s.toks + 1 }) : wpAny (model prog w) A (dictGet d .none) Q E s := by
  obtain ⟨o, es, ep, ho, _, hd, he, his, hn⟩ := hm
  unfold dictGet
  try with_reducible refine wpAny_holding ?_
  refine wpAny_bind (PySem.W.pyHash_slot (T := "NoneType") rfl PySem.F.slot_NoneType_hash PySem.F.entry_NoneType_hash (PySem.F.args_NoneType_hash_1 _) (beq_builtin_none _) (.inl rfl) (wpAny_bind (wpAny_pure (wpAny_bind (wpAny_mkInt (wpAny_pure ⟨_, _, rfl, ?_⟩))))))
  exact wpAny_bind (findNone (hne _) ho hd he his (wpAny_pure h))

theorem inNone {K : Type} [DecidableEq K] {knd : HeapKind prog w K} {d : Addr} {xs : List (K × Addr × Value)} {Q : Value → Shared → Prop}
    (hne : ∀ (s' : Shared) (E' : Value → Shared → Prop) (k : K) (b : Addr) (Q' : Bool → Shared → Prop), knd.is s'.heap k b → Q' false s' → wpAny (model prog w) A.in1 (eqBool (.ref b) .none) Q' E' s')
    (hd : (d == sysModules) = false) (hm : s.heap.DictOfH knd d xs) (h : Q (.bool false) { s with toks := s.toks + 1 }) : wpAny (model prog w) A (compareOp .In .none (.ref d)) Q E s := by
  show wpAny _ _ (do return .bool (← contains (.ref d) .none)) Q E s
  refine wpAny_bind ?_
  unfold contains
  try with_reducible refine wpAny_holding ?_
  refine wpAny_bind (wpAny_specialOf hm.typeIs PySem.F.slot_dict_contains.lookup ?_)
  show wpAny _ _ (if (some (Value.builtin "dict.__contains__") == some Value.none) = true then _ else _) _ E s
  rw [if_neg (by rw [beq_builtin_none]; exact Bool.false_ne_true)]
  refine wpAny_bind (wpAny_callSpecialUnlessNone?_slot (name := Str.ofString "__contains__") hm.typeIs PySem.F.slot_dict_contains
    (wpAny_call_entry PySem.F.slot_dict_contains hm.typeIs PySem.F.entry_dict_contains ?_ (PySem.F.args_dict_contains_2 _ _)))
  show wpAny _ _ (dictGet d .none >>= _) _ _ s
  refine wpAny_bind (getNone hne hm ?_)
  show wpAny _ _ (Builtin.Dict.pendingKey? d .none >>= _) _ _ _
  exact wpAny_bind (wpAny_pendingKey_other hd (wpAny_pure ⟨_, rfl, wpAny_truthy_bool (wpAny_pure h)⟩))

theorem notInNone {K : Type} [DecidableEq K] {knd : HeapKind prog w K} {d : Addr} {xs : List (K × Addr × Value)} {Q : Value → Shared → Prop}
    (hne : ∀ (s' : Shared) (E' : Value → Shared → Prop) (k : K) (b : Addr) (Q' : Bool → Shared → Prop), knd.is s'.heap k b → Q' false s' → wpAny (model prog w) A.in1 (eqBool (.ref b) .none) Q' E' s')
    (hd : (d == sysModules) = false) (hm : s.heap.DictOfH knd d xs) (h : Q (.bool true) { s with toks := s.toks + 1 }) : wpAny (model prog w) A (compareOp .NotIn .none (.ref d)) Q E s := by
  show wpAny _ _ (do return .bool (!(← contains (.ref d) .none))) Q E s
  refine wpAny_bind ?_
  unfold contains
  try with_reducible refine wpAny_holding ?_
  refine wpAny_bind (wpAny_specialOf hm.typeIs PySem.F.slot_dict_contains.lookup ?_)
  show wpAny _ _ (if (some (Value.builtin "dict.__contains__") == some Value.none) = true then _ else _) _ E s
  rw [if_neg (by rw [beq_builtin_none]; exact Bool.false_ne_true)]
  refine wpAny_bind (wpAny_callSpecialUnlessNone?_slot (name := Str.ofString "__contains__") hm.typeIs PySem.F.slot_dict_contains
    (wpAny_call_entry PySem.F.slot_dict_contains hm.typeIs PySem.F.entry_dict_contains ?_ (PySem.F.args_dict_contains_2 _ _)))
  show wpAny _ _ (dictGet d .none >>= _) _ _ s
  refine wpAny_bind (getNone hne hm ?_)
  show wpAny _ _ (Builtin.Dict.pendingKey? d .none >>= _) _ _ _
  exact wpAny_bind (wpAny_pendingKey_other hd (wpAny_pure ⟨_, rfl, wpAny_truthy_bool (wpAny_pure h)⟩))
end

section
variable {X : Cx} {pins : List (Addr × Obj)} {σ : L2.St} {H : Hp} {s : Shared} {a : Addr} {kvs : List (List Key × V)} {A : Around} {E : Value → Shared → Prop}
theorem neKey {prog : Program} {w : World} (hu : A.units + 1 < cLine) (s' : Shared) (E' : Value → Shared → Prop) (k : List Key) (b : Addr) (Q' : Bool → Shared → Prop)
    (hk : (tupleKind (mixKind prog w)).is s'.heap k b) (hq : Q' false s') : wpAny (model prog w) A.in1 (eqBool (.ref b) .none) Q' E' s' := by
  obtain ⟨o, its, n, h1, h2, h3, _⟩ := hk
  exact PySem.SeqAt.EqAt.tuple_none (A := A.in1) (items := its) ⟨o, h1, h2, n, h3⟩ (show A.in1.units < cLine from hu) prog w E' Q' hq
theorem d_inNoneT {Q : Value → Shared → Prop} (hu : A.units + 1 < cLine) (I : Inv X pins σ H s) (e : Rd H a (.dT kvs)) (h : ∀ s', Inv X pins σ H s' → Q (.bool false) s') : wpAny (model X.prog X.w) A (compareOp .In .none (.ref a)) Q E s := by
  obtain ⟨_, hd, xs, _, dd⟩ := dt_rd I.hok e
  exact inNone (neKey hu) hd dd (h _ (I.tok _))
theorem d_notInNoneT {Q : Value → Shared → Prop} (hu : A.units + 1 < cLine) (I : Inv X pins σ H s) (e : Rd H a (.dT kvs)) (h : ∀ s', Inv X pins σ H s' → Q (.bool true) s') : wpAny (model X.prog X.w) A (compareOp .NotIn .none (.ref a)) Q E s := by
  obtain ⟨_, hd, xs, _, dd⟩ := dt_rd I.hok e
  exact notInNone (neKey hu) hd dd (h _ (I.tok _))
end
/-- y in d, y not in d; y may be None (d's keys tuples then) -/
def tDInZ (ty td : TE) : TE := fun σ H Q => ty σ H fun y H1 => td σ H1 fun x H2 => (∃ a o, x = .ref a ∧ DGet H2 a y o ∧ Q (.bl o.isSome) H2) ∨ ∃ a kvs, x = .ref a ∧ y = .non ∧ Rd H2 a (.dT kvs) ∧ Q (.bl false) H2
def tDNotInZ (ty td : TE) : TE := fun σ H Q => ty σ H fun y H1 => td σ H1 fun x H2 => (∃ a o, x = .ref a ∧ DGet H2 a y o ∧ Q (.bl (!o.isSome)) H2) ∨ ∃ a kvs, x = .ref a ∧ y = .non ∧ Rd H2 a (.dT kvs) ∧ Q (.bl true) H2
section
variable {X : Cx} {o i : Expr} {td ty : TE}
theorem pc_dinZ (hu : X.A.units + 1 < cLine) (hi : PE X i ty) (ho : PE X o td) : PC X .In i o (tDInZ ty td) := by
  refine ⟨fun pins s σ H Q I h => ?_⟩
  refine thn (hi.run pins s σ H _ I h) fun iv s1 ⟨y, H1, I1, ry, q1⟩ => thn (ho.run pins s1 σ H1 _ I1 q1) fun u s2 ⟨x, H2, I2, rx, q2⟩ => ?_
  rcases q2 with ⟨a, ov, ex, g, q2⟩ | ⟨a, kvs, ex, ey, g, q2⟩
  · subst ex
    obtain rfl : u = Value.ref a := rx
    exact d_in hu I2 g ry fun s3 I3 => ⟨.bl ov.isSome, H2, I3, rfl, q2⟩
  · subst ex ey
    obtain rfl : u = Value.ref a := rx
    obtain rfl : iv = Value.none := ry
    exact d_inNoneT hu I2 g fun s3 I3 => ⟨.bl false, H2, I3, rfl, q2⟩
theorem pc_dnotinZ (hu : X.A.units + 1 < cLine) (hi : PE X i ty) (ho : PE X o td) : PC X .NotIn i o (tDNotInZ ty td) := by
  refine ⟨fun pins s σ H Q I h => ?_⟩
  refine thn (hi.run pins s σ H _ I h) fun iv s1 ⟨y, H1, I1, ry, q1⟩ => thn (ho.run pins s1 σ H1 _ I1 q1) fun u s2 ⟨x, H2, I2, rx, q2⟩ => ?_
  rcases q2 with ⟨a, ov, ex, g, q2⟩ | ⟨a, kvs, ex, ey, g, q2⟩
  · subst ex
    obtain rfl : u = Value.ref a := rx
    exact d_notIn hu I2 g ry fun s3 I3 => ⟨.bl (!ov.isSome), H2, I3, rfl, q2⟩
  · subst ex ey
    obtain rfl : u = Value.ref a := rx
    obtain rfl : iv = Value.none := ry
    exact d_notInNoneT hu I2 g fun s3 I3 => ⟨.bl true, H2, I3, rfl, q2⟩
end
/-- a statement that is never reached -/
def tNo : TS := fun _ _ _ => False
theorem ps_no {X : Cx} {st : Stmt} : PS X st tNo := ⟨fun _ _ _ _ _ _ h => False.elim h⟩
end Wp

namespace Wp
open PySem PySem.Spec PyProof.Rows L2 TyNe

/-! ### dict(d), a star in a display -/
abbrev qLenD : List V → Hp → VK → Prop := fun xs H Q => ∃ (a : Addr) (kvs : List (Key × V)), xs = [V.ref a] ∧ H a = some (.dK kvs) ∧ Q (.int kvs.length) H
abbrev qDictD : List V → Hp → VK → Prop := fun xs H Q => ∃ (a : Addr) (kvs : List (Key × V)), xs = [.ref a] ∧ Rd H a (.dK kvs) ∧ ∀ p, H p = none → Q (.ref p) (upd H p (.dK kvs))
section
variable {K : PySem.W.Frag} {σ : L2.St} {H : Hp} {Q : VK} {te : TE} {t : TA}
theorem w_dictD {a : Addr} {kvs : List (Key × V)} (h : H a = some (.dK kvs)) (q : ∀ p H2, H p = none → Same H H2 → H2 p = some (.dK kvs) → Q (.ref p) H2) : qDictD [.ref a] H Q :=
  ⟨a, kvs, rfl, .inl h, fun p hp => q p _ hp (Same.upd (Same.refl H) hp) upd_same⟩
theorem w_star {R : List V → Hp → Prop} (q : te σ H fun x H1 => ∃ p xs, x = V.ref p ∧ (SqT K H1 p xs ∨ SqL K H1 p xs) ∧ t σ H1 fun ys H2 => R (xs ++ ys) H2) : StX.tStar K te t σ H R := q
theorem w_iEnum {ta : TA} {R : It → Hp → Prop} (q : ta σ H fun vs H1 => ∃ a xs, vs = [.ref a] ∧ SqL K H1 a xs ∧ R (Ite K a) H1) : iEnum K ta σ H R := q
theorem w_dinW {td ty : TE} (q : ty σ H fun y H1 => td σ H1 fun x H2 => ∃ a o, x = .ref a ∧ DGet H2 a y o ∧ Q (.bl o.isSome) H2) : tDIn ty td σ H Q := q
theorem w_dnotinW {td ty : TE} (q : ty σ H fun y H1 => td σ H1 fun x H2 => ∃ a o, x = .ref a ∧ DGet H2 a y o ∧ Q (.bl (!o.isSome)) H2) : tDNotIn ty td σ H Q := q
theorem w_dget1W {td ty : TE} (q : td σ H fun x H1 => ∃ a, x = .ref a ∧ IsD H1 a ∧ ty σ H1 fun y H2 => ∃ o, DGet H2 a y o ∧ Q (o.getD .non) H2) : tDGet1 td ty σ H Q := q
theorem w_dsetd {td ty tx : TE} (q : td σ H fun x H1 => ∃ a, x = .ref a ∧ IsD H1 a ∧ ty σ H1 fun y H2 => tx σ H2 fun z H3 => ∃ (kvs : List (Key × V)) (k : Key), H3 a = some (.dK kvs) ∧ y = kV k ∧ kvs.length < sizeLine ∧
  (∀ v, valV kvs k = some v → Q v H3) ∧ (valV kvs k = none → Q z (upd H3 a (.dK (putK kvs k z))))) : tDSetd td ty tx σ H Q := q
theorem w_whileW {D : Ends} {c : TT} {tb : TS} (q : ∃ W : Nat → L2.St → Hp → Prop, (∃ m, W m σ H) ∧ ∀ m σ H, W m σ H →
  c σ H fun b H1 => if b = true then ∃ N : L2.St → Hp → Prop, (∀ σ' H', N σ' H' → ∃ m', m' < m ∧ W m' σ' H') ∧ tb { D with nx := N, ct := N, bk := D.nx } σ H1 else D.nx σ H1) : tWhile c tb D σ H := q
theorem w_par {i j : Nat} {ta : TA} {D : Ends} (q : ta σ H fun vs H1 => ∃ v w, vs = [v, w] ∧ D.nx ((σ.set i (some v)).set j (some w)) H1) : tPar i j ta D σ H := q
theorem w_cont {D : Ends} (q : D.ct σ H) : tCont D σ H := q
theorem w_aug {i : Nat} {ti : TIp} {D : Ends} {x : V} (h : σ[i]? = some (some x)) (q : te σ H fun y H1 => ti x y H1 fun z H2 => D.nx (σ.set i (some z)) H2) : tAug i te ti D σ H := ⟨x, h, q⟩
theorem w_ipI {f : Int → Int → Int} {i j : Int} (q : Q (.int (f i j)) H) : ipI f (.int i) (.int j) H Q := ⟨i, j, rfl, rfl, q⟩
end
/-! ### dicts with text keys, as lists of pairs -/
section
variable {α : Type}
def asV (f : α → V) (l : List (Str × α)) : List (L2.Key × V) := l.map fun y => (Sum.inr y.1, f y.2)
def getA (l : List (Str × α)) (nm : Str) : Option α := (l.find? fun y => decide (y.1 = nm)).map (·.2)
theorem asV_len (f : α → V) (l : List (Str × α)) : (asV f l).length = l.length := List.length_map _
theorem getA_nil (nm : Str) : getA ([] : List (Str × α)) nm = none := rfl
theorem getA_pos {y : Str × α} {l : List (Str × α)} {nm : Str} (e : y.1 = nm) : getA (y :: l) nm = some y.2 := by
  unfold getA
  rw [List.find?_cons, decide_eq_true e]
  rfl
theorem getA_neg {y : Str × α} {l : List (Str × α)} {nm : Str} (e : y.1 ≠ nm) : getA (y :: l) nm = getA l nm := by
  unfold getA
  rw [List.find?_cons, decide_eq_false e]
theorem valA (f : α → V) (nm : Str) : ∀ l : List (Str × α), valV (asV f l) (Sum.inr nm) = (getA l nm).map f
  | [] => rfl
  | y :: l => by
    unfold asV
    rw [List.map_cons]
    by_cases e : y.1 = nm
    · rw [valV_pos (congrArg Sum.inr e), getA_pos e]
      rfl
    · rw [valV_neg (fun z => e (Sum.inr.inj z)), getA_neg e]
      exact valA f nm l
theorem valA_some (f : α → V) {nm : Str} {l : List (Str × α)} {a : α} (h : getA l nm = some a) : valV (asV f l) (Sum.inr nm) = some (f a) := by rw [valA, h]; rfl
theorem valA_none (f : α → V) {nm : Str} {l : List (Str × α)} (h : getA l nm = none) : valV (asV f l) (Sum.inr nm) = none := by rw [valA, h]; rfl
theorem getA_none : ∀ {l : List (Str × α)} {nm : Str}, getA l nm = none ↔ nm ∉ l.map (·.1)
  | [], nm => ⟨fun _ h => (nomatch h), fun _ => rfl⟩
  | y :: l, nm => by
    by_cases e : y.1 = nm
    · rw [getA_pos e]
      exact ⟨fun z => (nomatch z), fun z => absurd (by rw [List.map_cons, e]; exact List.mem_cons_self ..) z⟩
    · rw [getA_neg e, getA_none, List.map_cons, List.mem_cons, not_or]
      exact ⟨fun z => ⟨fun w => e w.symm, z⟩, fun z => z.2⟩
theorem getA_some {l : List (Str × α)} {nm : Str} : (getA l nm).isSome = decide (nm ∈ l.map (·.1)) := by
  cases e : getA l nm with
  | none => rw [decide_eq_false (getA_none.mp e)]; rfl
  | some a =>
    rw [decide_eq_true]
    · rfl
    · exact Classical.byContradiction fun z => by rw [getA_none.mpr z] at e; cases e
theorem getA_mem {l : List (Str × α)} {nm : Str} {a : α} (h : getA l nm = some a) : (nm, a) ∈ l := by
  unfold getA at h
  obtain ⟨y, hy, rfl⟩ := Option.map_eq_some_iff.mp h
  have h1 := List.mem_of_find?_eq_some hy
  have h2 := List.find?_some hy
  have h2 := of_decide_eq_true h2
  rw [← h2]
  exact h1
theorem getA_app {l m : List (Str × α)} {nm : Str} : getA (l ++ m) nm = (getA l nm).or (getA m nm) := by
  unfold getA
  rw [List.find?_append]
  cases l.find? fun y => decide (y.1 = nm) <;> rfl
theorem asV_app (f : α → V) (l m : List (Str × α)) : asV f (l ++ m) = asV f l ++ asV f m := List.map_append
theorem putA_new {f : α → V} {l : List (Str × α)} {nm : Str} {a : α} {v : V} (h : getA l nm = none) (e : f a = v) : putK (asV f l) (Sum.inr nm) v = asV f (l ++ [(nm, a)]) := by
  rw [putK_new _ (valA_none f h), ← e, asV_app]
  rfl
end
/-! ### name = {.. for ..} on one line, the name a local -/
theorem sw_trueD {kx vx : Expr} {gs : List Comprehension} {scope : Scope} {pos py : Pos} {y : Str} {l : Nat} {env : Env} (hk : env.scope.kind = .function) (hy : env.scope.names.lookup y = some .local) (hl : (py.line == pos.line) = true)
    (ha : (scope.names.any fun (n, k) => n == y && (k == .local || k == .cell)) = false) : swapsWith (.DictComp kx vx gs scope pos) (some (.Name y py)) l env = pure true := by
  have ky : env.kindOf y = some .local := hy
  have hb : env.blockKind = .function := by unfold Env.blockKind; rw [hk]; rfl
  unfold swapsWith
  simp only [hb, ky, ha, Expr.pos, hl]
  rfl
theorem ps_setDc {X : Cx} {i : Nat} {y : Str} {py : Pos} {kx vx tg iter : Expr} {ifs : List Expr} {scope : Scope} {own : List (Str × Nat)} {pos spos : Pos} {wi : TI} {g : TG} {tt : TT} {tk tv : TE} (hc : X.calm = true) (hN : X.N.Nodup) (hy : X.N[i]? = some y) (hyl : X.env.scope.names.lookup y = some .local)
    (hsw : swapsWith (.DictComp kx vx [⟨tg, iter, ifs, 0⟩] scope pos) (some (.Name y py)) spos.line X.env = pure true) (hi : PI X tg iter wi) (ok : BlkOk X.N X.env.scope scope own)
    (hg : ∀ (s : Shared) (H : Hp) (C : Addr) (cl : List (Str × Addr)) (fp : List Addr), PG (X.blk s H scope (compEnvC scope cl C X.env) fp) tg g) (ht : ∀ (s : Shared) (H : Hp) (C : Addr) (cl : List (Str × Addr)) (fp : List Addr), PTs (X.blk s H scope (compEnvC scope cl C X.env) fp) ifs tt)
    (hk : ∀ (s : Shared) (H : Hp) (C : Addr) (cl : List (Str × Addr)) (fp : List Addr), PE (X.blk s H scope (compEnvC scope cl C X.env) fp) kx tk)
    (he : ∀ (s : Shared) (H : Hp) (C : Addr) (cl : List (Str × Addr)) (fp : List Addr), PE (X.blk s H scope (compEnvC scope cl C X.env) fp) vx tv) (hs : ∀ x, foldedSetIterable iter X.env x = pure x := by intro _; rfl) :
    PS X (.Assign [.Name y py] (.DictComp kx vx [⟨tg, iter, ifs, 0⟩] scope pos) spos) (tAsg (tDc wi g tt tk tv (own.map (·.2))) (gName i)) := by
  refine ⟨fun pins s σ H D I h => ?_⟩
  rw [exec_Assign_Name_used _ _ _ _ hsw]
  refine wpAny_bind (wpAny_standAt (wpAny_bind ?_))
  show wpAny _ X.A (do let _ ← comprehension (.DictComp kx vx [⟨tg, iter, ifs, 0⟩] scope pos) scope X.env (firstIterPos [⟨tg, iter, ifs, 0⟩] pos) newDict false (eval iter X.env) (some (assign (.Name y py) X.env))) _ _ s
  have h : tDc wi g tt tk tv (own.map (·.2)) σ H (fun x H1 => gName i x σ H1 D.nx) := h
  refine wpAny_bind (thn (dc_core (Qf := fun _ s' => SP X pins D .next s') hc hN I hi ok hg ht hk he hs h fun L C s' m H' I' q hn f => ?_) fun _ s' hq => wpAny_pure (wpAny_pure hq))
  show wpAny _ _ (assign (.Name y py) X.env (.ref L)) _ _ _
  refine wpAny_assign_Name (store_ok2 (v := V.ref L) I' hN hy (.inl hyl) rfl (fun s2 I2 ⟨a, sb, ha⟩ => ?_) (.inr hyl))
  obtain ⟨f0, f1, f2, f3, f4, f5⟩ := f
  have haC : C ≠ a := by
    rcases ha with z | z
    · rw [z]; exact f1
    · exact fun e => f4 y a z e.symm
  refine ⟨m, hn.sameBut sb haC, fun h3 sb3 => ?_⟩
  exact ⟨_, H', I2.turned (t' := s2.toks) (fun b o hb e => (sb3.2 b hb).trans e) f0 f1 f3 f4 f5, q⟩
end Wp

namespace Wp
open PySem PySem.Spec PyProof.Rows L2 TyNe

/-! ### own methods that may raise -/
structure XMet (P : Program) (w : World) (K : PySem.W.Frag) (mg : Str → Option Value) (base : Heap) (k : Nat) (C : Addr) (m : Str) (sp : Sp) : Prop where
  ex : ∃ (f : Addr) (fd : FuncData) (ps : List Str), Cls K C ∧ Meth K C m f ∧ FnOk P w K mg base (L2.CX P w) k f fd ps sp ∧ Binds K fd ps []
theorem metX {P : Program} {w : World} {K : PySem.W.Frag} {mg : Str → Option Value} {base : Heap} {m qual : Str} {C : Addr} {st : Stmt} {f : Addr} {fd : FuncData} {N ps : List Str} {k : Nat} {sp : Sp} (c : Cls K C) (me : Meth K C m f) (F : C8.Fun K m qual st f fd) (b : Binds K fd ps []) (S : FnScope N ps (C8.fnScope st)) (len : ∀ vs H Q E, sp vs H Q E → vs.length = ps.length)
    (hbody : ∀ (cdv : Value) (A : Around) (outer : List Env) (s : Shared) (H : Hp) (vs : List V) (Q : VK) (E : XK), Room k (A.deeper (envOfC qual (C8.fnScope st) s.heap.objs.size f cdv)) → sp vs H Q E →
      ∃ t, PSs (cxOf (L2.CX P w) P w K mg base N qual (C8.fnScope st) f cdv A outer s H E) (C8.fnBody st) t ∧ t { nx := fun _ H' => Q .non H', rt := Q } (start N vs) H) : XMet P w K mg base (k + 1) C m sp :=
  ⟨f, fd, ps, c, me, fnX F S len hbody, b⟩
/-- o.m(e, ..) where it may raise -/
def tMethX (C : Addr) (m : Str) (sp : Sp) (E : L2.St → XK) (ta : TE) (t : TA) : TE := fun σ H Q => ta σ H fun x H1 => ∃ a dx fs, x = .ref a ∧ H1 a = some (.ins C dx fs) ∧ fs.lookup m = none ∧ t σ H1 fun vs H2 => sp (x :: vs) H2 Q (E σ)
section
variable {X : Cx} {k j : Nat} {C : Addr} {m : Str} {sp : Sp} {pos apos : Pos} {e o : Expr} {es : List Expr} {ta : TE} {t : TA}
theorem pe_mx {pl : Sem Bool} (c : XMet X.prog X.w X.K X.mg X.base k C m sp) (hr : Room j X.A) (hk : k ≤ j) (he : PE X o ta) (ha : PA X (e :: es) t)
    (hst : starEach (e :: es) X.env = (false, eval e X.env) :: starEach es X.env := by rfl) (hpl : (backTo pos (starEach es X.env)).any (·.1) = false := by rfl)
    (ht : eval (.Call (.Attribute o m apos) (e :: es) [] pos) X.env = (do
      let ov ← eval o X.env
      standAt apos.atName
      let (f, first) ← holding [ov] (getMethod ov m pl)
      callWith pos f first (backTo pos (starEach (e :: es) X.env)) (backToKw pos (keywordEach [] X.env))) := by rfl) :
    PE X (.Call (.Attribute o m apos) (e :: es) [] pos) (tMeth C m sp [] C8.E0 ta t) := by
  obtain ⟨f, fd, ps, hc, hm, F, b⟩ := c.ex
  exact pe_meth (pl := pl) he hc hm F (hr.mono hk) b .nil passX0 ha hst hpl ht
theorem pe_mx0 {pl : Sem Bool} (c : XMet X.prog X.w X.K X.mg X.base k C m sp) (hr : Room j X.A) (hk : k ≤ j) (he : PE X o ta)
    (ht : eval (.Call (.Attribute o m apos) [] [] pos) X.env = (do
      let ov ← eval o X.env
      standAt apos.atName
      let (f, first) ← holding [ov] (getMethod ov m pl)
      callWith pos f first (backTo pos (starEach [] X.env)) (backToKw pos (keywordEach [] X.env))) := by rfl) :
    PE X (.Call (.Attribute o m apos) [] [] pos) (tMeth C m sp [] C8.E0 ta tNil) := by
  obtain ⟨f, fd, ps, hc, hm, F, b⟩ := c.ex
  exact pe_meth0 (pl := pl) he hc hm F (hr.mono hk) b .nil passX0 ht
theorem pe_ms {W : WX} {pl : Sem Bool} (c : XMet X.prog X.w X.K X.mg X.base k C m sp) (hr : Room j X.A) (hk : k ≤ j) (tk : Takes X W) (he : PE X o ta) (ha : PA X (e :: es) t)
    (hst : starEach (e :: es) X.env = (false, eval e X.env) :: starEach es X.env := by rfl) (hpl : (backTo pos (starEach es X.env)).any (·.1) = false := by rfl)
    (ht : eval (.Call (.Attribute o m apos) (e :: es) [] pos) X.env = (do
      let ov ← eval o X.env
      standAt apos.atName
      let (f, first) ← holding [ov] (getMethod ov m pl)
      callWith pos f first (backTo pos (starEach (e :: es) X.env)) (backToKw pos (keywordEach [] X.env))) := by rfl) :
    PE X (.Call (.Attribute o m apos) (e :: es) [] pos) (tMethX C m sp (WE W) ta t) := by
  obtain ⟨f, fd, ps, hc, hm, F, b⟩ := c.ex
  refine ⟨fun pins s σ H Q I h => ?_⟩
  refine PySem.W.methodCall_KW (pl := pl) (thn (he.run pins s σ H _ I h) fun u s1 ⟨x, H1, I1, rx, a, dx, fs, ex, ea, l, q⟩ => ?_) ht
  subst ex
  obtain rfl : u = Value.ref a := rx
  refine getmeth_ok I1 ea hc hm l ?_
  refine PySem.W.callWith_K (first := [.ref a]) (h₀ := X.base) I.ok.mod.kin hm.kp (thn (ha.run pos pins s1 σ H1 _ I1 q) fun us s2 ⟨vs, H2, I2, r, q2⟩ => ⟨I2.kIn, ?_⟩) hst hpl
  exact run_fnS (us := .ref a :: us) (vs := .ref a :: vs) F (hr.mono hk) b (passAt tk σ) I2 (.cons rfl r) q2
end
section
variable {K : PySem.W.Frag} {σ : L2.St} {H : Hp} {Q : VK} {D : Ends} {C : Addr} {m : Str} {sp : Sp} {E : L2.St → XK} {ta : TE} {t : TA}
theorem w_methX {i : Nat} {x dx : Addr} {fs : List (Str × V)} (hi : σ[i]? = some (some (.ref x))) (h : H x = some (.ins C dx fs)) (l : fs.lookup m = none) (q : t σ H fun vs H2 => sp (.ref x :: vs) H2 Q (E σ)) : tMethX C m sp E (tVar i) t σ H Q :=
  ⟨_, hi, x, dx, fs, rfl, h, l, q⟩
theorem w_raise {C : Addr} {E : XK} (q : E (.ref C) none H) : tRaise C E D σ H := q
end
end Wp

namespace Wp
open PySem PySem.Spec PyProof.Rows L2 TyNe

/-! ### dict(a tuple of pairs); tuples whose object is known to have no attributes -/
/-- the tuple at a, and its object has no dict of attributes -/
def TupZ (H : Hp) (a : Addr) (xs : List V) : Prop := ∃ o : Obj, o.dict = none ∧ H a = some (.frz o (.tup xs))
theorem TupZ.sq {K : PySem.W.Frag} {H : Hp} {a : Addr} {xs : List V} (h : TupZ H a xs) : SqT K H a xs := by
  obtain ⟨o, _, e⟩ := h
  exact .inl (.inr ⟨o, e⟩)
theorem TupZ.same {H H' : Hp} {a : Addr} {xs : List V} (h : TupZ H a xs) (s : Same H H') : TupZ H' a xs := by
  obtain ⟨o, d, e⟩ := h
  exact ⟨o, d, s _ _ e⟩
abbrev qTupleOfZ (K : PySem.W.Frag) : List V → Hp → VK → Prop := fun xs H Q => ∃ p ys, xs = [.ref p] ∧ SqL K H p ys ∧ ∀ l o, H l = none → o.dict = none → Q (.ref l) (upd H l (.frz o (.tup ys)))
theorem call_tupleOfZ {X : Cx} : CallR X (.type "tuple") (qTupleOfZ X.K) := by
  intro pins s σ H xs us Q I r h
  obtain ⟨p, ys, rfl, hq, q⟩ := h
  obtain ⟨u, rfl, rx⟩ := vals1 r
  cases rx
  obtain ⟨its, r', pl, hz⟩ := I.list hq
  have hlen := r'.length
  refine call_tuple_list pl.isList (fun h' kp => ?_) (by simp only [List.size_toArray] <;> omega)
  have I1 : Inv X pins σ H { s with heap := h' } := I.kept (t' := s.toks) kp
  have I2 : Inv X pins σ (upd H h'.objs.size (.frz { cls := .type "tuple", data := .seq its.toArray } (.tup ys))) { s with heap := h'.push { cls := .type "tuple", data := .seq its.toArray } } :=
    I1.laid (t' := s.toks) (fun b o e => Heap.get?_push_of_some _ e) (Nat.le_refl _) (show ObjOk X.prog X.w _ _ _ (.frz _ (.tup ys)) from ⟨Heap.get?_push_size _ rfl, hz, its, r', IsTup.new _ _⟩)
  exact ⟨.ref h'.objs.size, _, I2, rfl, q _ _ (I1.hok.fresh (Nat.le_refl _)) rfl⟩
abbrev qDictP (K : PySem.W.Frag) : List V → Hp → VK → Prop := fun xs H Q => ∃ (t : Addr) (Ts : List V) (ps : List (Key × V)), xs = [.ref t] ∧ TupZ H t Ts ∧ Ts.length = ps.length ∧ ps.length ≤ 1000 ∧
  (∀ (i : Nat) (p : Key × V), ps[i]? = some p → ∃ b : Addr, Ts[i]? = some (V.ref b) ∧ SqT K H b [kV p.1, p.2]) ∧ ∀ p, H p = none → Q (.ref p) (upd H p (.dK (mergeK [] ps)))
theorem kv_zip : ∀ (ps : List (Key × V)) (vs : List (Value × Value)), ps.length = vs.length → (∀ (i : Nat) p v, ps[i]? = some p → vs[i]? = some v → RelV p.2 v.2) → KV ps ((ps.zip vs).map fun z => (z.1.1, z.2.2))
  | [], [], _, _ => .nil
  | p :: ps, v :: vs, hl, h => .cons ⟨rfl, h 0 p v rfl rfl⟩ (kv_zip ps vs (by simpa using hl) fun i q u e1 e2 => h (i + 1) q u e1 e2)
  | [], _ :: _, hl, _ => by simp at hl
  | _ :: _, [], hl, _ => by simp at hl
theorem call_dictP {X : Cx} (hcalm : X.calm = true) : CallR X (.type "dict") (qDictP X.K) := by
  intro pins s σ H xs us Q I r h
  obtain ⟨t, Ts, ps, rfl, ⟨o, hd, ht⟩, hlen, h1000, hps, q⟩ := h
  obtain ⟨u, rfl, rx⟩ := vals1 r
  cases rx
  obtain ⟨ho, hz, its, rv, o', ho', hc, n, hdat⟩ := (show ObjOk X.prog X.w H s.heap t (.frz o (.tup Ts)) from I.hok t _ ht)
  have e : o' = o := Option.some.inj (ho'.symm.trans ho)
  subst e
  have hex : ∀ i : Nat, ∃ z : Addr × Value × Value, ∀ p, ps[i]? = some p → its[i]? = some (.ref z.1) ∧ IsTup s.heap z.1 #[z.2.1, z.2.2] ∧ RelV (kV p.1) z.2.1 ∧ RelV p.2 z.2.2 := by
    intro i
    cases hi : ps[i]? with
    | none => exact ⟨(0, .none, .none), fun p hp => nomatch hp⟩
    | some p =>
      obtain ⟨b, hb, hs⟩ := hps i p hi
      obtain ⟨us', rv', tp, _⟩ := I.tuple hs
      obtain ⟨u1, w1, rfl, r1, r2⟩ := vals2 rv'
      obtain ⟨ub, hub, rb⟩ := rv.get hb
      cases rb
      exact ⟨(b, u1, w1), fun p' hp' => by
        cases hp'
        exact ⟨hub, tp, r1, r2⟩⟩
  obtain ⟨F, hF⟩ := Classical.axiomOfChoice hex
  have hF : ∀ i p, ps[i]? = some p → its[i]? = some (.ref (F i).1) ∧ IsTup s.heap (F i).1 #[(F i).2.1, (F i).2.2] ∧ RelV (kV p.1) (F i).2.1 ∧ RelV p.2 (F i).2.2 := hF
  obtain ⟨vps, hvps⟩ : ∃ vps : List (Value × Value), vps = (List.range ps.length).map fun i => (F i).2 := ⟨_, rfl⟩
  have hvl : vps.length = ps.length := by rw [hvps, List.length_map, List.length_range]
  have hvg : ∀ i v, vps[i]? = some v → i < ps.length ∧ v = (F i).2 := fun i v hv => by
    rw [hvps, List.getElem?_map] at hv
    obtain ⟨j, hj, rfl⟩ := Option.map_eq_some_iff.mp hv
    obtain ⟨hjl, hj2⟩ := List.getElem?_eq_some_iff.mp hj
    rw [List.getElem_range] at hj2
    rw [List.length_range] at hjl
    exact ⟨hjl, by rw [hj2]⟩
  have hkv : KV ps ((ps.zip vps).map fun z => (z.1.1, z.2.2)) := kv_zip ps vps hvl.symm fun i p v hp hv => by
    rw [(hvg i v hv).2]
    exact (hF i p hp).2.2.2
  have hit : PairItems s.heap its.toArray (fun i => (F i).1) vps := ⟨by rw [List.size_toArray, hvl, ← hlen]; exact rv.length.symm, fun j k v hj => by
    obtain ⟨h1, h2⟩ := hvg j _ hj
    obtain ⟨g1, g2, _, _⟩ := hF j ps[j] (List.getElem?_eq_getElem h1)
    rw [← h2] at g2
    exact ⟨by simpa using g1, .inl g2⟩⟩
  have hz3 : ps.length ≤ sizeLine := Nat.le_trans h1000 (by decide)
  refine call_dict_pairs (knd := mixKind X.prog X.w) (kvs := (ps.zip vps).map fun z => (z.1.1, z.2.2)) (PairArg.tuple t its.toArray (fun i => (F i).1) vps) (I.ok.hd hcalm) ⟨⟨o', n, ho, hc, hd, hdat⟩, hit⟩ ⟨by rw [List.length_map, List.length_zip, hvl, Nat.min_self], fun i key v hv => ?_⟩ (by rw [hvl]; exact hz3) fun h' tk hd' hk => ?_
  · obtain ⟨h1, h2⟩ := hvg i _ hv
    have hp := List.getElem?_eq_getElem h1
    obtain ⟨_, _, g3, _⟩ := hF i _ hp
    refine ⟨ps[i].1, ?_, ?_⟩
    · have hzz : (ps.zip vps)[i]? = some (ps[i], (key, v)) := List.getElem?_zip_eq_some.mpr ⟨hp, hv⟩
      rw [List.getElem?_map, hzz]
      rfl
    · rw [← h2] at g3
      exact kV_is g3
  · have hm : (s.heap.objs.size == sysModules) = false := beq_eq_false_iff_ne.mpr (Nat.ne_of_gt I.big)
    have hz4 : (mergeK [] ps).length ≤ sizeLine := Nat.le_trans (length_mergeK ps []) (by simpa using hz3)
    exact ⟨.ref s.heap.objs.size, upd H s.heap.objs.size (.dK (mergeK [] ps)), I.laid (fun b u e => hk b u (by simp) e) (Nat.le_refl _) (show ObjOk X.prog X.w _ _ _ (.dK (mergeK [] ps)) from ⟨hz4, hm, _, KV.merge hkv .nil, hd'⟩), rfl, q _ (I.hok.fresh (Nat.le_refl _))⟩
/-- a display of a tuple whose object is known -/
def tTupZ (t : TA) : TE := fun σ H Q => t σ H fun xs H1 => xs.length ≤ sizeLine ∧ ∀ p o, H1 p = none → o.dict = none → Q (.ref p) (upd H1 p (.frz o (.tup xs)))
theorem pe_tupZ {X : Cx} {es : List Expr} {t : TA} {pos : Pos} {x1} (h : PA X es t) : PE X (.Tuple es x1 pos) (tTupZ t) := by
  refine ⟨fun pins s σ H Q I hq => ?_⟩
  refine wpAny_Tuple_spliced (thn (h.run pos pins s σ H _ I hq) fun us s1 ⟨xs, H1, I1, r, z, q⟩ => ⟨by rw [← r.length]; exact z, ?_⟩)
  have hf : H1 s1.heap.objs.size = none := I1.hok.fresh (Nat.le_refl _)
  refine ⟨.ref s1.heap.objs.size, upd H1 s1.heap.objs.size (.frz { cls := .type "tuple", data := .seq us.toArray } (.tup xs)), I1.laid (t' := s1.toks) (fun b u e => Heap.get?_push_of_some _ e) (Nat.le_refl _) ?_, rfl, q _ _ hf rfl⟩
  exact ⟨Heap.get?_push_size _ rfl, z, us, r, ⟨_, Heap.get?_push_size _ rfl, rfl, _, rfl⟩⟩
section
variable {K : PySem.W.Frag} {σ : L2.St} {H : Hp} {Q : VK}
def NewZ (H : Hp) (xs : List V) (q : Addr → Hp → Prop) : Prop := ∀ p o, H p = none → o.dict = none → q p (upd H p (.frz o (.tup xs)))
theorem w_newZ {xs : List V} {q : Addr → Hp → Prop} (h : ∀ p H2, H p = none → Same H H2 → TupZ H2 p xs → q p H2) : NewZ H xs q := fun p o hp ho => h p _ hp (Same.upd (Same.refl H) hp) ⟨o, ho, upd_same⟩
theorem w_tupZ {tr : TA} (q : tr σ H fun xs H1 => xs.length ≤ sizeLine ∧ NewZ H1 xs fun p H2 => Q (.ref p) H2) : tTupZ tr σ H Q := q
theorem w_tupleOfZ {a : Addr} {ys : List V} (h : H a = some (.lst ys)) (q : ∀ p H2, H p = none → Same H H2 → TupZ H2 p ys → Q (.ref p) H2) : qTupleOfZ K [.ref a] H Q :=
  ⟨a, ys, rfl, SqL.of h, fun l o hl ho => q l _ hl (Same.upd (Same.refl H) hl) ⟨o, ho, upd_same⟩⟩
theorem w_dictP {t : Addr} {Ts : List V} {ps : List (Key × V)} (h : TupZ H t Ts) (hl : Ts.length = ps.length) (hz : ps.length ≤ 1000) (hp : ∀ (i : Nat) (p : Key × V), ps[i]? = some p → ∃ b : Addr, Ts[i]? = some (V.ref b) ∧ SqT K H b [kV p.1, p.2]) (q : ∀ p H2, H p = none → Same H H2 → H2 p = some (.dK (mergeK [] ps)) → Q (.ref p) H2) : qDictP K [.ref t] H Q :=
  ⟨t, Ts, ps, rfl, h, hl, hz, hp, fun p hp => q p _ hp (Same.upd (Same.refl H) hp) upd_same⟩
end
end Wp

namespace Wp
open PySem PySem.Spec PyProof.Rows L2 TyNe HT

/-! ### sorted(a list of data), of any length -/
/-- data with the objects that they stand for, in their order -/
def srtW (bs : List (V × PyData)) : List (V × PyData) := bs.mergeSort (PySem.W.dataLe false (·.2))
abbrev rSortedW (K : PySem.W.Frag) : List V → Hp → VK → Prop := fun xs H Q => ∃ (a : Addr) (bs : List (V × PyData)), xs = [.ref a] ∧ SqL K H a (bs.map (·.1)) ∧ (∀ b ∈ bs, Dp K H b.1 b.2) ∧ PySem.W.AllAlike (bs.map (·.2)) ∧ PySem.W.Sortable (bs.map (·.2)) ∧ bs.length ≤ 100000 ∧ (∀ b ∈ bs, b.2.depth ≤ 60) ∧
  ∀ p, H p = none → Q (.ref p) (upd H p (.lst ((srtW bs).map (·.1))))
theorem each_vals {β : Type} (f : β → V) : ∀ {bs : List β} {us : List Value}, Vals (bs.map f) us → PySem.W.EachIs (fun u b => RelV (f b) u) us bs
  | [], _, r => by
    cases r
    exact .nil
  | b :: bs, _, r => by
    cases r with
    | cons h1 h2 => exact .cons h1 (each_vals f h2)
theorem vals_each {β : Type} (f : β → V) : ∀ {bs : List β} {us : List Value}, PySem.W.EachIs (fun u b => RelV (f b) u) us bs → Vals (bs.map f) us
  | _, _, .nil => .nil
  | _, _, .cons h1 h2 => .cons h1 (vals_each f h2)
theorem cr_sortedW {X : Cx} (hu : X.A.units + 64 < cLine) : CallR X (.builtin "sorted") (rSortedW X.K) := by
  intro pins s σ H vs us Q I r h
  obtain ⟨a, bs, rfl, hs, hd, hal, hk, hL, hdep, q⟩ := h
  obtain ⟨its, rv, hl, hz⟩ := I.list hs
  rw [Vals.ref1 r]
  have e := each_vals (fun b : V × PyData => b.1) rv
  have er : PySem.W.EachIs (fun v (b : V × PyData) => ∃ as, Reads s.heap v b.2 as) its bs := (PySem.W.each_mem e).mono fun v b ⟨h1, hb⟩ => Dp.reads I b.2 b.1 v (hd b hb) h1
  refine PySem.W.sorted_data (enc := fun b : V × PyData => b.2) hl.isList e er hal hk (Nat.le_trans hL (by decide)) (fun b hb => by have := hdep b hb; omega) fun out ho eo => ?_
  obtain ⟨ep, he'⟩ := PyProof.Rows.sortedAll_at s.heap its out.toArray
  have hv : Vals ((srtW bs).map (·.1)) out := vals_each _ eo
  have hlen : ((srtW bs).map (·.1)).length ≤ sizeLine := by
    rw [List.length_map]
    unfold srtW
    rw [List.length_mergeSort]
    exact Nat.le_trans hL (by decide)
  exact ⟨.ref _, upd H (s.heap.objs.size + 1) (.lst ((srtW bs).map (·.1))), I.laid (t' := s.toks) (fun _ _ => PyProof.Rows.sortedAll_old) (Nat.le_succ _) ⟨hlen, out, ep, hv, he'⟩, rfl, q _ (I.hok.fresh (Nat.le_succ _))⟩
section
variable {K : PySem.W.Frag} {H : Hp} {Q : VK}
theorem w_sortedW {a : Addr} {bs : List (V × PyData)} (h : H a = some (.lst (bs.map (·.1)))) (hd : ∀ b ∈ bs, Dp K H b.1 b.2) (hal : PySem.W.AllAlike (bs.map (·.2))) (hk : PySem.W.Sortable (bs.map (·.2))) (hL : bs.length ≤ 100000) (hdep : ∀ b ∈ bs, b.2.depth ≤ 60)
    (q : ∀ p H2, H p = none → Same H H2 → H2 p = some (.lst ((srtW bs).map (·.1))) → Q (.ref p) H2) : rSortedW K [.ref a] H Q :=
  ⟨a, bs, rfl, SqL.of h, hd, hal, hk, hL, hdep, fun p hp => q p _ hp (Same.upd (Same.refl H) hp) upd_same⟩
end
end Wp

namespace Wp
open PySem PySem.Spec PySem.Calls PyProof.Rows L2 TyNe LamX

/-! ### sorted(xs, key=lambda x: (x.a, x.b)) of own objects, a a number, b a text -/
section
variable {X : Cx} {pins : List (Addr × Obj)} {σ : L2.St} {H : Hp} {s : Shared} {a C dx : Addr} {fs : List (Str × V)}
theorem attr_exact {A : Around} {E : Value → Shared → Prop} {fb : Str} {b : Bool} {v : V} {Q : Value → Shared → Prop} (I : Inv X pins σ H s) (hins : H a = some (.ins C dx fs)) (cl : Cls X.K C) (na : NoAttr X.K C fb) (lo : fs.lookup fb = some v)
    (q : ∀ u, RelV v u → Q u { s with toks := s.toks + 1 }) : wpAny (model X.prog X.w) A (getAttr (.ref a) fb b) Q E s := by
  obtain ⟨m9, ob9, rel9, _⟩ := ins_get I.hok hins
  have look9 : RelO (some v) (m9 fb) := lo ▸ rel9 fb
  obtain ⟨u9, at9, ru9⟩ := RelO.some_of look9
  exact get_map I.kIn ob9 (cl.get fb) cl.hd na at9 (handed_of ru9) (q u9 ru9)
theorem key_call {A : Around} {f c' : Addr} {q x f1 f2 : Str} {params : Arguments} {scope : Scope} {pm ctv : Value} {p1 p2 q1 q2 tpos : Pos} {tx : Nat} {n : Int} {z : Str} (I : Inv X pins σ H s) (hins : H a = some (.ins C dx fs)) (cl : Cls X.K C) (na1 : NoAttr X.K C f1) (na2 : NoAttr X.K C f2) (lo1 : fs.lookup f1 = some (.int n)) (lo2 : fs.lookup f2 = some (.str z))
    (room : A.depth < recursionLimit) (of : s.heap.get? f = some (PySem.W.kla_obj "<lambda>" q params (.Tuple [.Attribute (.Name x p1) f1 q1, .Attribute (.Name x p2) f2 q2] tx tpos) scope [] pm c' ctv)) (hcr : s.heap.CodeRec (.ref c') q)
    (hbind : ∀ v : Value, bindArgs (PySem.W.kla_fn "<lambda>" q params (.Tuple [.Attribute (.Name x p1) f1 q1, .Attribute (.Name x p2) f2 q2] tx tpos) scope [] pm (.ref c') ctv) ⟨[v], []⟩ = pure [(x, v)])
    (hk : scope.kind = .function) (hco : scope.isCoroutine = false) (hgen : scope.isGenerator = false) (hcell : ∀ y ∈ scope.names, y.2 ≠ .cell) (hloc : scope.names.lookup x = some .local) (hd : (x == ("__debug__" : Str)) = false)
    (hb1 : ∀ L : Addr, attributeBase (.Name x p1) f1 (PySem.W.envX q scope L f (.ref c') []) (eval (.Name x p1) (PySem.W.envX q scope L f (.ref c') [])) = eval (.Name x p1) (PySem.W.envX q scope L f (.ref c') []))
    (hb2 : ∀ L : Addr, attributeBase (.Name x p2) f2 (PySem.W.envX q scope L f (.ref c') []) (eval (.Name x p2) (PySem.W.envX q scope L f (.ref c') [])) = eval (.Name x p2) (PySem.W.envX q scope L f (.ref c') []))
    (hs : ∀ env : Env, backTo tpos (starEach [.Attribute (.Name x p1) f1 q1, .Attribute (.Name x p2) f2 q2] env) = [(false, eval (.Attribute (.Name x p1) f1 q1) env), (false, eval (.Attribute (.Name x p2) f2 q2) env)] := by intro _; rfl) :
    wpAny (model X.prog X.w) A (call (.ref f) [.ref a]) (PySem.W.KeyPure (.tuple [.int n, .str z]) s) (fun _ _ => False) s := by
  have lim : s.heap.NoLimit := I.nolimit
  refine wpAny_call (codeAny_mono (R := fun r s' => ∃ u, r = .ok (.ret u) ∧ PySem.W.KeyPure (.tuple [.int n, .str z]) s u s') ?_ fun r s' ⟨u, er, hu⟩ => by rw [er]; exact hu)
  refine PySem.W.kla_callFunE room of rfl hco hgen rfl hcr ?_
  rw [hbind]
  refine wpAny_pure (wpAny_newFunctionEnv hcell (fun y hy => by rw [List.mem_singleton.mp hy]; exact hloc) (fun h₁ hns hsb => ⟨lim.fresh _ hsb, ?_⟩) hk)
  show codeAny _ _ (.expr _ (PySem.W.envX q scope s.heap.objs.size f (.ref c') [])) _ _
  have kp : ∀ b o, s.heap.get? b = some o → h₁.get? b = some o := fun b o e => hsb.extBut b o (Nat.ne_of_lt (Heap.lt_size e)) (Heap.get?_push_of_some _ e)
  have I1 : Inv X pins σ H { s with heap := h₁, toks := s.toks + [(x, Value.ref a)].length } := I.kept kp
  have hm : (fun y => ([(x, Value.ref a)] : List (Str × Value)).reverse.lookup y) x = some (Value.ref a) := by simp
  have hns2 : ∀ t : Nat, ({ s with heap := h₁, toks := t } : Shared).heap.Ns (PySem.W.envX q scope s.heap.objs.size f (.ref c') []).locals fun y => ([(x, Value.ref a)] : List (Str × Value)).reverse.lookup y := fun _ => hns
  refine PySem.W.kla_codeExpr (wpAny_Tuple_spliced ?_)
  rw [hs]
  refine Calls.spliced_cons (attr_of (hb1 _) (wpAny_Name (wpAny_loadName_local hk hloc hns hm (attr_exact I1 hins cl na1 lo1 fun u1 r1 => ?_)) hd))
  have I2 : Inv X pins σ H { s with heap := h₁, toks := s.toks + [(x, Value.ref a)].length + 1 } := I1.tok _
  refine Calls.spliced_cons (attr_of (hb2 _) (wpAny_Name (wpAny_loadName_local hk hloc hns hm (attr_exact I2 hins cl na2 lo2 fun u2 r2 => ?_)) hd))
  obtain ⟨t1, rfl⟩ := r1
  obtain ⟨t2, rfl⟩ := r2
  refine Calls.spliced_nil ⟨(by show 2 ≤ sizeLine; decide), ?_⟩
  refine ⟨_, rfl, _, _, rfl, fun b o e => Heap.get?_push_of_some _ (kp b o e), ?_⟩
  exact .tuple (Heap.get?_push_size _ rfl) rfl rfl (.cons (.int _ _) (.cons (.str _ _) .nil))
end
/-- own objects with a number and a text each, in the order of these -/
def srtK (bs : List (Addr × Int × Str)) : List (Addr × Int × Str) := bs.mergeSort (PySem.W.dataLe false fun b => .tuple [.int b.2.1, .str b.2.2])
/-- the object at b.1 has the number b.2.1 and the text b.2.2 -/
def KeyAt (K : PySem.W.Frag) (H : Hp) (f1 f2 : Str) (b : Addr × Int × Str) : Prop := ∃ C dx fs, H b.1 = some (.ins C dx fs) ∧ Cls K C ∧ NoAttr K C f1 ∧ NoAttr K C f2 ∧ fs.lookup f1 = some (.int b.2.1) ∧ fs.lookup f2 = some (.str b.2.2)
/-- sorted(e, key=lambda x: (x.f1, x.f2)); P: the table of the maker's code object -/
def tSortBy (K : PySem.W.Frag) (P : Addr) (q f1 f2 : Str) (te : TE) : TE := fun σ H Q => te σ H fun v H1 => ∃ (l : Addr) (bs : List (Addr × Int × Str)), v = .ref l ∧ SqL K H1 l (bs.map fun b => V.ref b.1) ∧ bs.length ≤ 100000 ∧ (∀ b ∈ bs, KeyAt K H1 f1 f2 b) ∧ TabS H1 P q ∧
  ∀ p H2, p ≠ P → (∀ b o, H1 b = some o → (∀ ps, o ≠ .tbl ps) → b ≠ p) → ExtN H1 H2 → TabS H2 P q → H2 p = some (.lst ((srtK bs).map fun b => V.ref b.1)) → Q (.ref p) H2
theorem sqL_ext {K : PySem.W.Frag} {H H' : Hp} {a : Addr} {xs : List V} (e : ExtN H H') (h : SqL K H a xs) : SqL K H' a xs := by
  rcases h with (h | ⟨o, h⟩) | h
  · exact .inl (.inl (e _ _ h fun _ z => by cases z))
  · exact .inl (.inr ⟨o, e _ _ h fun _ z => by cases z⟩)
  · exact .inr h
/-- what is asked of the lambda's text -/
structure LamK (scope : Scope) (x : Str) : Prop where
  kind : scope.kind = .function
  co : scope.isCoroutine = false
  gen : scope.isGenerator = false
  own : ∀ y ∈ scope.names, y.2 ≠ .cell ∧ y.2 ≠ .free
  loc : scope.names.lookup x = some .local
theorem lamK_by {scope : Scope} {x : Str} (h : (decide (scope.kind = .function) && !scope.isCoroutine && !scope.isGenerator && scope.names.all (fun y => !decide (y.2 = .cell) && !decide (y.2 = .free)) && decide (scope.names.lookup x = some .local)) = true) : LamK scope x := by
  simp only [Bool.and_eq_true, Bool.not_eq_true', decide_eq_true_eq, decide_eq_false_iff_not, List.all_eq_true] at h
  exact ⟨h.1.1.1.1, h.1.1.1.2, h.1.1.2, h.1.2, h.2⟩
theorem pe_sortBy {X : Cx} {k : Nat} {c P : Addr} {q x f1 f2 : Str} {e : Expr} {te : TE} {params : Arguments} {scope : Scope} {p pos kpos lpos p1 p2 q1 q2 tpos : Pos} {tx : Nat} (hr : Room k X.A) (hg : Gl X "sorted") (hm : X.mg "sorted" = none) (he : PE X e te) (TB : TabB X.base X.mg c P) (hcode : X.env.code = .ref c) (hq : X.env.qual ++ "<lambda>" = q)
    (hdef : defaultsOf params X.env = ([], [])) (L : LamK scope x) (hcl : cloFrom X.env.cells scope.names [] = []) (hd : (x == ("__debug__" : Str)) = false)
    (hbind : ∀ (body : Expr) (pm cv ctv v : Value), bindArgs (PySem.W.kla_fn "<lambda>" q params body scope [] pm cv ctv) ⟨[v], []⟩ = pure [(x, v)])
    (hb1 : ∀ (f c' L : Addr), attributeBase (.Name x p1) f1 (PySem.W.envX q scope L f (.ref c') []) (eval (.Name x p1) (PySem.W.envX q scope L f (.ref c') [])) = eval (.Name x p1) (PySem.W.envX q scope L f (.ref c') []))
    (hb2 : ∀ (f c' L : Addr), attributeBase (.Name x p2) f2 (PySem.W.envX q scope L f (.ref c') []) (eval (.Name x p2) (PySem.W.envX q scope L f (.ref c') [])) = eval (.Name x p2) (PySem.W.envX q scope L f (.ref c') []))
    (hs : starEach [e] X.env = [(false, eval e X.env)] := by rfl) :
    PE X (.Call (.Name "sorted" p) [e] [⟨some "key", .Lambda params (.Tuple [.Attribute (.Name x p1) f1 q1, .Attribute (.Name x p2) f2 q2] tx tpos) scope lpos, kpos⟩] pos) (tSortBy X.K P q f1 f2 te) := by
  refine ⟨fun pins s σ H Q I h => ?_⟩
  refine wpAny_Call_Name_kw (ld_blt (u := .builtin "sorted") I hg hm (by decide +kernel) ?_ (by decide) (by decide))
  have h' : tCons te tNil σ H fun vs H1 => match vs with
    | [v] => ∃ (l : Addr) (bs : List (Addr × Int × Str)), v = .ref l ∧ SqL X.K H1 l (bs.map fun b => V.ref b.1) ∧ bs.length ≤ 100000 ∧ (∀ b ∈ bs, KeyAt X.K H1 f1 f2 b) ∧ TabS H1 P q ∧
      ∀ p H2, p ≠ P → (∀ b o, H1 b = some o → (∀ ps, o ≠ .tbl ps) → b ≠ p) → ExtN H1 H2 → TabS H2 P q → H2 p = some (.lst ((srtK bs).map fun b => V.ref b.1)) → Q (.ref p) H2
    | _ => False := h
  refine PyProof.Rows.callWith_kw (thn ((pa_cons he pa_nil hs).run pos pins s σ H _ I h') fun us s1 ⟨vs, H1, I1, rr, hh⟩ => ?_) (by rw [hs]; rfl) (by rw [hs]; rfl) rfl rfl
  rcases vs with _ | ⟨v, _ | ⟨v2, vs2⟩⟩
  · exact hh.elim
  rotate_left
  · exact hh.elim
  obtain ⟨l, bs, ev, hl, hL, hbs, hT, qf⟩ := hh
  subst ev
  obtain rfl := Vals.ref1 rr
  show wpAny _ _ (evalAll [do let v ← eval (.Lambda params (.Tuple [.Attribute (.Name x p1) f1 q1, .Attribute (.Name x p2) f2 q2] tx tpos) scope lpos) X.env; standAt pos; pure v]) _ _ s1
  subst hq
  refine wpAny_evalAll_cons (wpAny_bind (lam_make2 (T := [(P, X.env.qual ++ "<lambda>")]) I1 TB hcode (List.mem_singleton.mpr rfl) (fun z hz _ => by rw [List.mem_singleton.mp hz]) (fun z hz => by rw [List.mem_singleton.mp hz]; exact hT) hdef (fun y hy ey => absurd ey (L.own y hy).2) fun f c' pm ctv H2 s2 I2 eN T2 hf hfn hfr hco => wpAny_bind (wpAny_standAt (wpAny_pure (wpAny_evalAll_nil ?_)))))
  have hT2 := T2 (P, X.env.qual ++ "<lambda>") (List.mem_singleton.mpr rfl)
  rw [hcl] at hf
  have hl2 := sqL_ext eN hl
  obtain ⟨its, rv, pl, hz⟩ := I2.list hl2
  have e2 := each_vals (fun b : Addr × Int × Str => V.ref b.1) rv
  obtain ⟨⟨oc, vc, t, hoc, hdc, hvc⟩, _, _⟩ := I2.hok c' _ hco
  have hu := hr.un
  have hdp := hr.dp
  have hk2 : ∀ b ∈ bs, KeyAt X.K H2 f1 f2 b := fun b hb => by
    obtain ⟨C, dx, fs, k1, k2⟩ := hbs b hb
    exact ⟨C, dx, fs, eN _ _ k1 (fun _ z => by cases z), k2⟩
  show wpAny _ _ (call (.builtin "sorted") [.ref l] [(Str.ofString "key", .ref f)]) _ _ _
  refine PySem.W.sorted_key_data (b := false) (R := fun u (b : Addr × Int × Str) => RelV (V.ref b.1) u) (fun b : Addr × Int × Str => PyData.tuple [.int b.2.1, .str b.2.2]) pl.isList e2 (PySem.W.AllAlike.of fun _ _ => by simp [PySem.W.alike, PySem.W.alikeAll]) (PySem.W.Sortable.tuples fun _ => ⟨_, _, rfl⟩) (Nat.le_trans hL (by decide)) (fun b _ => ?_) (PyProof.Rows.ksk_s1 _ _) (fun _ => PyProof.Rows.ksk_l1 _ _) (fun _ => PyProof.Rows.ksk_t1 _ _) (fun v b hv hb h9 tk9 kp9 => ?_) fun out c9 h9 tk9 kp9 hn9 hD9 hl9 eo => ?_
  · have h1 : (PyData.tuple [.int b.2.1, .str b.2.2]).depth = 1 := by simp [PyData.depth, PyData.depthAll]
    rw [h1]
    omega
  · obtain ⟨C, dx, fs, k1, k2, k3, k4, k5, k6⟩ := hk2 b hb
    obtain rfl : v = Value.ref b.1 := hv
    refine key_call (s := { s2 with heap := h9, toks := tk9 }) (I2.kept kp9) k1 k2 k3 k4 k5 k6 ?_ (kp9 _ _ hf) ⟨c', oc, vc, t, rfl, kp9 _ _ hoc, hdc, hvc⟩ (hbind _ _ _ _) L.kind L.co L.gen (fun y hy => (L.own y hy).1) L.loc hd (hb1 f c') (hb2 f c')
    show X.A.depth < recursionLimit
    omega
  · have hv : Vals ((srtK bs).map fun b => V.ref b.1) out := vals_each _ eo
    have hlen : ((srtK bs).map fun b => V.ref b.1).length ≤ sizeLine := by
      rw [List.length_map]
      unfold srtK
      rw [List.length_mergeSort]
      exact Nat.le_trans hL (by decide)
    have hfr2 : H2 (s2.heap.objs.size + 1) = none := I2.hok.fresh (Nat.le_succ _)
    have nP : (s2.heap.objs.size + 1) ≠ P := by
      obtain ⟨ps, hP, _⟩ := hT2
      exact (ne_of_none hP hfr2).symm
    refine ⟨.ref _, upd H2 (s2.heap.objs.size + 1) (.lst ((srtK bs).map fun b => V.ref b.1)), I2.laid (t' := tk9) kp9 (Nat.le_succ _) ⟨hlen, out, c9, hv, hD9⟩, rfl, qf _ _ nP (fun b o e n => ne_of_none (eN _ _ e n) hfr2) (fun b o e n => ?_) (hT2.ext fun b o e => ?_) upd_same⟩
    · rw [upd_ne]
      · exact eN _ _ e n
      · intro z
        rw [z] at e
        rw [eN _ _ e n] at hfr2
        exact nomatch hfr2
    · rw [upd_ne (ne_of_none e hfr2)]
      exact e
end Wp

namespace Wp
open PySem PySem.Spec PySem.Calls PyProof.Rows L2 TyNe

/-! ### a tuple times nought or one -/
theorem tupleTimes1 (l : Addr) (items : Array Value) (n : Nat) (dd : Option Addr) (sl : Array (Option Value)) (u : Tok) :
    Meets (Builtin.«tuple.__mul__» ⟨[.ref l, .int 1 u], []⟩) (fun _ R s => s.heap.get? l = some { cls := .type "tuple", dict := dd, data := .seq items n, slots := sl } ∧ R (.ok (.ret (Value.ref l))) s) :=
  .of_wp fun prog w A R s h => by
    obtain ⟨h1, g1, d1, t1, o1⟩ := s
    obtain ⟨hl1, h⟩ := h
    have f1 := AutoSeq1.idx_int
    wp_walk using wpAny_loadPart' hl1
    exact ⟨_, rfl, h⟩
theorem tupleTimes0 (l : Addr) (items : Array Value) (n : Nat) (dd : Option Addr) (sl : Array (Option Value)) (u : Tok) (ne : items.isEmpty = false) :
    Meets (Builtin.«tuple.__mul__» ⟨[.ref l, .int 0 u], []⟩) (fun _ R s => s.heap.get? l = some { cls := .type "tuple", dict := dd, data := .seq items n, slots := sl } ∧
      R (.ok (.ret (Value.ref s.heap.objs.size))) { s with heap := s.heap.push { cls := Value.type "tuple", data := Data.seq #[] }, toks := s.toks }) :=
  .of_wp fun prog w A R s h => by
    obtain ⟨h1, g1, d1, t1, o1⟩ := s
    obtain ⟨hl1, h⟩ := h
    have f1 := AutoSeq1.idx_int
    wp_walk using wpAny_loadPart' hl1
    exact ⟨_, rfl, h⟩
def rRep01 (K : PySem.W.Frag) : R2 := fun x y H Q => ∃ l k xs, x = .ref l ∧ y = .int k ∧ SqT K H l xs ∧ xs ≠ [] ∧ (k = 0 ∨ k = 1) ∧ (k = 1 → Q (.ref l) H) ∧ (k = 0 → ∀ p, H p = none → Q (.ref p) (upd H p (.tup [])))
theorem op_rep01 {X : Cx} : OpR X (binaryOp .Mult) (rRep01 X.K) := by
  intro pins s σ H x y v u Q I rx ry hh
  obtain ⟨l, k, xs, rfl, rfl, hT, hne, hk, qa, qb⟩ := hh
  cases rx
  obtain ⟨t, rfl⟩ := ry
  obtain ⟨its, rv, ⟨⟨cls, dd, data, sl⟩, ho, hc, n, hd⟩, _⟩ := I.tuple hT
  simp only at hc hd
  subst hc hd
  have hi : its.toArray.isEmpty = false := by
    cases its with
    | nil => exact absurd (List.eq_nil_of_length_eq_zero (rv.length.trans rfl)) hne
    | cons a b => rfl
  have body : wpAny (model X.prog X.w) X.A (call (.builtin "tuple.__mul__") [.ref l, .int k t]) (EP X pins σ Q) X.xe s := by
    rcases hk with rfl | rfl
    · refine call_meets F.slot_tuple_mul ⟨_, ho, rfl⟩ F.entry_tuple_mul (F.args_tuple_mul_2 _ _) (tupleTimes0 l its.toArray n dd sl t hi) ⟨ho, ?_⟩
      exact ⟨.ref s.heap.objs.size, _, I.laid (t' := s.toks) (o := .tup []) (fun b ob q => Heap.get?_push_of_some _ q) (Nat.le_refl _) ⟨Nat.zero_le _, [], .nil, IsTup.new _ _⟩, rfl, qb rfl _ (I.hok.fresh (Nat.le_refl _))⟩
    · exact call_meets F.slot_tuple_mul ⟨_, ho, rfl⟩ F.entry_tuple_mul (F.args_tuple_mul_2 _ _) (tupleTimes1 l its.toArray n dd sl t) ⟨ho, .ref l, H, I, rfl, qa rfl⟩
  refine wpAny_binaryOp_repeat_ref (T := "tuple") (U := "int") (by decide) ⟨_, ho, rfl⟩ (fun s' => typeIs_int s' k t) noFill_tuple_mul F.fills_int_mul F.slot_int_rmul repeat_tuple F.slot_int_index.lookup ?_
  exact call_meets F.slot_int_rmul (typeIs_int s k t) F.entry_int_rmul (F.args_int_rmul_2 _ _) (int_rmul_tuple k t l its.toArray n dd sl) ⟨ho, rfl, ⟨_, ho, rfl⟩, body⟩
section
variable {K : PySem.W.Frag} {H : Hp} {Q : VK}
theorem w_rep01 {l : Addr} {k : Int} {xs : List V} (h : SqT K H l xs) (hne : xs ≠ []) (h0 : 0 ≤ k) (h1 : k < 2) (qa : k = 1 → Q (.ref l) H) (qb : k = 0 → ∀ p H2, H p = none → Same H H2 → H2 p = some (.tup []) → Q (.ref p) H2) : rRep01 K (.ref l) (.int k) H Q :=
  ⟨l, k, xs, rfl, rfl, h, hne, by omega, qa, fun e p hp => qb e p _ hp (Same.upd (Same.refl H) hp) upd_same⟩
end
/-! ### a def whose code object is known -/
theorem calC {P : Program} {w : World} {K : PySem.W.Frag} {mg : Str → Option Value} {base : Heap} {x : Str} {st : Stmt} {f c : Addr} {fd : FuncData} {N ps : List Str} {k : Nat} {sp : Sp} (F : C8.Def K mg x st f fd) (hc : fd.code = .ref c) (b : Binds K fd ps []) (S : FnScope N ps (C8.fnScope st)) (len : ∀ vs H Q E, sp vs H Q E → vs.length = ps.length)
    (hbody : ∀ (A : Around) (outer : List Env) (s : Shared) (H : Hp) (vs : List V) (Q : VK) (E : XK), Room k (A.deeper (envOfC x (C8.fnScope st) s.heap.objs.size f (.ref c))) → sp vs H Q E →
      ∃ t, PSs (cxOf C8.CX0 P w K mg base N x (C8.fnScope st) f (.ref c) A outer s H E).nox (C8.fnBody st) t ∧ t { nx := fun _ H' => Q .non H', rt := Q } (start N vs) H) : C8.Cal P w K mg base (k + 1) x sp [] := by
  obtain ⟨oc, od, dV, kV, doc, pm, an, cdv, ct, osl, ef, lk, hcd⟩ := F.fn.ex
  subst ef
  have hc : cdv = .ref c := hc
  subst hc
  refine ⟨f, _, ps, [], fn_of lk hcd S len fun A outer s H vs Q E hr hsp => ?_, F.mgf, F.kp, b, .nil⟩
  obtain ⟨t, ht, hq⟩ := hbody A outer s H vs Q E hr hsp
  exact ⟨t, ht.nox, hq⟩
end Wp

namespace T
open PySem PySem.Spec PyProof.Rows L2 TyNe Wp
local macro_rules | `(tactic| walk_at "ne") => `(tactic| first
  | assumption
  | (refine Ne.symm ?_; assumption)
  | exact ne_of_none (by assumption) (by assumption)
  | exact (ne_of_none (by assumption) (by assumption)).symm
  | exact Stm.ne (by assumption) (by assumption)
  | exact (Stm.ne (by assumption) (by assumption)).symm)
local macro_rules | `(tactic| walk_at "hp") => `(tactic| first
  | assumption
  | exact upd_same
  | (rw [upd_ne (by walk_at "ne")]; walk_at "hp")
  | (refine Same.get (by assumption) ?_; walk_at "hp")
  | (refine Kp.get (by assumption) ?_ ?_ <;> first | (walk_at "hp"; done) | (walk_at "ne"; done)))
local macro_rules | `(tactic| walk_at "sq") => `(tactic| first
  | assumption
  | exact TupK.sq (by assumption)
  | exact SqL.of (by walk_at "hp")
  | exact SqT.of (by walk_at "hp"))
local macro_rules | `(tactic| walk_at "ar") => `(tactic| first
  | assumption | rfl | omega | decide)
/-- one step of a reading -/
local macro_rules | `(tactic| walk_at "w1") => `(tactic| first
  | with_reducible refine w_seq ?_
  | with_reducible refine w_asg ?_
  | ((with_reducible show tVar _ _ _ _); refine w_var rfl ?_)
  | with_reducible refine w_c ?_
  | with_reducible refine w_name ?_
  | with_reducible refine w_op ?_
  | with_reducible refine w_un ?_
  | with_reducible refine w_cons ?_
  | with_reducible refine w_nil ?_
  | with_reducible refine w_call ?_
  | with_reducible refine w_cb ?_
  | with_reducible refine w_ret ?_
  | with_reducible refine w_retN ?_
  | with_reducible refine w_ifS ?_
  | with_reducible refine w_test ?_
  | with_reducible refine w_B ?_
  | with_reducible refine w_exb ?_
  | with_reducible refine w_exi ?_
  | with_reducible refine w_next ?_
  | with_reducible refine w_drop ?_
  | with_reducible refine w_and ?_
  | with_reducible refine w_or ?_
  | with_reducible refine w_not ?_
  | with_reducible refine w_andV ?_
  | with_reducible refine w_orV ?_
  | with_reducible refine w_notV ?_
  | with_reducible refine w_if ?_
  | with_reducible refine w_chain ?_
  | with_reducible refine w_sub ?_
  | with_reducible refine w_tup ?_
  | with_reducible refine w_lst ?_
  | with_reducible refine w_sl ?_
  | with_reducible refine w_noPart ?_
  | with_reducible refine w_part ?_
  | with_reducible refine w_I0 ?_
  | ((with_reducible refine w_I ?c ?_); (case c => first | exact .inr (by decide) | exact .inl (by decide) | exact (show (0 : Int) < _ by omega) | exact cmul_l (by omega) (by omega) | exact cmul_r (by omega) (by omega) | exact And.intro (by omega) (by omega) | exact And.intro (by decide) (And.intro (by decide) (by decide))))
  | with_reducible refine w_U ?_
  | with_reducible refine w_eqI ?_
  | with_reducible refine w_neI ?_
  | with_reducible refine w_eqS ?_
  | with_reducible refine w_neS ?_
  | with_reducible refine w_eqB ?_
  | with_reducible refine w_inSign ?_
  | with_reducible refine w_ninSign ?_
  | with_reducible refine w_isBl ?_
  | with_reducible refine w_int1 ?_
  | with_reducible refine w_int1b ?_
  | with_reducible refine w_max2 ?_
  | with_reducible refine w_bm ?_
  | with_reducible refine w_lc ?_
  | with_reducible refine w_iList ?_
  | with_reducible refine w_iTup ?_
  | with_reducible refine w_iStr ?_
  | with_reducible refine w_exs ?_
  | with_reducible refine w_isN ?_
  | with_reducible refine w_notN ?_
  | ((with_reducible show tyV _ "str" (.str _) _ ∧ _); refine And.intro rfl ?_)
  | ((with_reducible show tyV _ "list" (.ref _) _ ∧ _); refine w_tyL (by walk_at "hp") ?_)
  | with_reducible refine w_min2 ?_
  | ((with_reducible show rIxL _ (.ref _) (.int _) _ _); refine w_ixL (by walk_at "sq") (by first | exact rfl | exact atI_nat (j := 0) rfl | exact atI_nat (j := 1) rfl | exact atI_nat (j := 2) rfl) ?_)
  | ((with_reducible show rIxT _ (.ref _) (.int _) _ _); refine w_ixT (by walk_at "sq") (by first | exact rfl | exact atI_nat (j := 0) rfl | exact atI_nat (j := 1) rfl | exact atI_nat (j := 2) rfl) ?_)
  | ((with_reducible show rSetL (.ref _) (.int _) _ _ _); refine w_setL (by walk_at "hp") (by exact rfl) ?_)
  | ((with_reducible show qLenSeq _ [.ref _] _ _); first | refine w_lenL (by walk_at "sq") ?_ | refine w_lenT (by walk_at "sq") ?_)
  | with_reducible refine w_nf ?_
  | with_reducible refine w_nt ?_
  | with_reducible refine iteT ?_
  | with_reducible refine iteF ?_
  | ((with_reducible refine w_len0 ?h ?_); (case h => exact sz (by simp))))
local macro_rules | `(tactic| walk_at "w") => `(tactic| repeat (walk_at "w1"))
local macro_rules | `(tactic| walk_at "if") => `(tactic| first
  | (with_reducible refine w_ite ?_ ?_) | (with_reducible refine w_iteN ?_ ?_) | (with_reducible refine w_iteb ?_ ?_))
/-- the same, new objects as heaps of their own -/
local macro_rules | `(tactic| walk_at "v1") => `(tactic| first
  | with_reducible refine w_tupV ?_
  | with_reducible refine w_lstV ?_
  | with_reducible refine w_jcons ?_
  | with_reducible refine w_jnil ?_
  | with_reducible refine w_fmt ?_
  | with_reducible refine w_js ?_
  | with_reducible refine w_zipM ?_
  | ((with_reducible refine w_dec1 (by decide) ?_))
  | ((with_reducible refine w_dec0 (by decide) ?_))
  | ((with_reducible show qJoin _ (.str _) [.ref _] _ _); first | refine w_joinL (by walk_at "sq") ?_ ?_ | refine w_joinT (by walk_at "sq") ?_ ?_)
  | with_reducible refine w_count ?_
  | ((with_reducible show rIn _ _ (.str _) (.ref _) _ _); first | refine w_inTb (b := true) (by walk_at "sq") rfl rfl (by decide +kernel) ?_ | refine w_inTb (b := false) (by walk_at "sq") rfl rfl (by decide +kernel) ?_ | refine w_inLb (b := true) (by walk_at "sq") rfl rfl (by decide +kernel) ?_ | refine w_inLb (b := false) (by walk_at "sq") rfl rfl (by decide +kernel) ?_)
  | walk_at "w1")
local macro_rules | `(tactic| walk_at "v") => `(tactic| repeat (walk_at "v1"))
local macro_rules | `(tactic| walk_at "dn") => `(tactic| first
  | assumption
  | (refine Dn.same ?_ (by assumption); walk_at "dn")
  | (refine Dn.kp ?_ (by assumption); walk_at "dn")
  | (refine Dn.any ?_; walk_at "dn"))
local macro_rules | `(tactic| walk_at "ln") => `(tactic| first
  | decide
  | omega
  | (simp only [List.length_append, List.length_map, List.length_cons, List.length_nil]; omega))
/-- the same, new objects without names, sums of texts, numbers as texts, append -/
local macro_rules | `(tactic| walk_at "z1") => `(tactic| first
  | ((with_reducible refine w_new ?_); intro _ _ _ _ _)
  | ((with_reducible show rAppend (.ref _) [_] _ _); refine w_appV (by walk_at "hp") (by walk_at "ln") ?_; intro _ _ _)
  | ((with_reducible show qAddS (.str _) (.str _) _ _); refine w_addS (sz (by simp only [Str.length_append]; omega)) ?_)
  | ((with_reducible show qStrInt [.int _] _ _); refine w_strInt (by omega) (by omega) ?_)
  | walk_at "v1")
local macro_rules | `(tactic| walk_at "z") => `(tactic| repeat (walk_at "z1"))
/-- statements alone, up to the first expression -/
local macro_rules | `(tactic| walk_at "s") => `(tactic| repeat (first
  | with_reducible refine w_seq ?_
  | with_reducible refine w_asg ?_
  | with_reducible refine w_name ?_
  | with_reducible refine w_next ?_
  | with_reducible refine w_c ?_
  | with_reducible refine w_ret ?_
  | with_reducible refine w_drop ?_
  | with_reducible refine w_ifS ?_
  | with_reducible refine w_test ?_))
/-- the same, and not into a test -/
local macro_rules | `(tactic| walk_at "b") => `(tactic| repeat (first
  | with_reducible refine w_seq ?_
  | with_reducible refine w_asg ?_
  | with_reducible refine w_name ?_
  | with_reducible refine w_next ?_
  | with_reducible refine w_c ?_
  | with_reducible refine w_ret ?_
  | with_reducible refine w_drop ?_))

/-- what is known of the class Letter at C -/
structure IsC_Letter (K : PySem.W.Frag) (C : Addr) : Prop where
  cl : Cls K C
  n_author : NoAttr K C "author"
  n_number : NoAttr K C "number"
  n_stamp : NoAttr K C "stamp"
  n_seen : NoAttr K C "seen"
  n_body : NoAttr K C "body"
  n_counts : NoAttr K C "_counts"
/-! ### the defs of the stream of draws -/
def spCell (K : PySem.W.Frag) : Sp := fun vs H Q _ => ∃ (a : Addr) (ns : List Int) (k : Int), vs = [.ref a, .int k] ∧ SqL K H a (ns.map V.int) ∧ 0 ≤ k ∧ ∀ z, Q (.int z) H
def spStream (K : PySem.W.Frag) : Sp := fun vs H Q _ => ∃ (c k : Int), vs = [.int c, .int k] ∧ ∀ p H', H p = none → Same H H' → Stm H' p → Q (.ref p) H'
def spNext (K : PySem.W.Frag) : Sp := fun vs H Q _ => ∃ (p : Addr) (n : Int), vs = [.ref p, .int n] ∧ Stm H p ∧ 0 < n ∧ n < 1073741824 ∧ ∀ v H', Kp p H H' → Stm H' p → 0 ≤ v → v < n → Q (.int v) H'
def spFlag (K : PySem.W.Frag) : Sp := fun vs H Q _ => ∃ (a b : Bool), vs = [.bl a, .bl b] ∧ Q (.bl (decide (a = b))) H
section
variable {K : PySem.W.Frag} {vs : List V} {H : Hp} {Q : VK} {E : XK}
/-- _law_stream: slots 0:cell 1:k 2:digits -/
def t__law_stream (K : PySem.W.Frag) : TS := (tSeq (tAsg (tC (.int 0)) (gName 2))
  (tSeq (tIfS (tTest (tOp qGe (tVar 0) (tOp qPow (tC (.int 10)) (tC (.int 18))))) (tAsg (tVar 0) (gName 2)) tNext)
  (tRet (tLst (tCons (tVar 2) (tCons (tOp qMod (tCB qInt1 (tCons (tOp qAdd (tOp qAdd (tOp qMul (tVar 0) (tC (.int 48271))) (tOp qMul (tVar 1) (tC (.int 69621)))) (tC (.int 77))) tNil)) (tC (.int 2147483647))) tNil))))))
theorem l__law_stream (h : spStream K vs H Q E) : vs.length = 2 := by obtain ⟨c, k, rfl, _⟩ := h; rfl
theorem r__law_stream (h : spStream K vs H Q E) : t__law_stream K { nx := fun _ H' => Q .non H', rt := Q } (start ["cell", "k", "digits"] vs) H := by
  obtain ⟨c, k, rfl, q⟩ := h
  unfold t__law_stream
  walk_at "w"
  refine w_ite (fun hc => ?_) (fun hc => ?_)
  · walk_at "w"
    intro p hp
    refine q p _ hp (Same.upd (Same.refl H) hp) ⟨_, _, upd_same, ?_, Int.emod_nonneg _ (by decide)⟩
    have e : (10 : Int) ^ (18 : Int).toNat = 1000000000000000000 := by decide
    omega
  · walk_at "w"
    intro p hp
    exact q p _ hp (Same.upd (Same.refl H) hp) ⟨_, _, upd_same, by decide, Int.emod_nonneg _ (by decide)⟩
/-- _law_next: slots 0:stream 1:size 2:drawn -/
def t__law_next (K : PySem.W.Frag) : TS := (tSeq (tIfS (tTest (tOp qGt (tOp (rIxL K) (tVar 0) (tC (.int 0))) (tC (.int 0)))) (tSeq (tAsg (tOp qMod (tCB qInt1 (tCons (tOp (rIxL K) (tVar 0) (tC (.int 0))) tNil)) (tVar 1)) (gName 2))
  (tSeq (tAsg (tOp qFdiv (tOp (rIxL K) (tVar 0) (tC (.int 0))) (tVar 1)) (gSub (tVar 0) (tC (.int 0)) rSetL))
  (tRet (tVar 2)))) tNext)
  (tSeq (tAsg (tOp qMod (tCB qInt1 (tCons (tOp qAdd (tOp qMul (tOp (rIxL K) (tVar 0) (tC (.int 1))) (tC (.int 48271))) (tC (.int 12820163))) tNil)) (tC (.int 2147483647))) (gSub (tVar 0) (tC (.int 1)) rSetL))
  (tRet (tOp qMod (tCB qInt1 (tCons (tOp qFdiv (tOp qMod (tCB qInt1 (tCons (tOp qAdd (tOp qMul (tOp (rIxL K) (tVar 0) (tC (.int 1))) (tC (.int 16807))) (tC (.int 5))) tNil)) (tC (.int 2147483399))) (tC (.int 3))) tNil)) (tVar 1)))))
theorem l__law_next (h : spNext K vs H Q E) : vs.length = 2 := by obtain ⟨c, k, rfl, _⟩ := h; rfl
theorem r__law_next (h : spNext K vs H Q E) : t__law_next K { nx := fun _ H' => Q .non H', rt := Q } (start ["stream", "size", "drawn"] vs) H := by
  obtain ⟨p, n, rfl, ⟨a, b, hp, h0, h1⟩, hn, hm, q⟩ := h
  unfold t__law_next
  walk_at "w"
  refine w_ite (fun hc => ?_) (fun hc => ?_)
  · walk_at "w"
    exact q _ _ (Kp.updp Kp.refl) ⟨_, _, upd_same, Int.ediv_nonneg h0 (by omega), h1⟩ (Int.emod_nonneg _ (Int.ne_of_gt hn)) (Int.emod_lt_of_pos _ hn)
  · walk_at "w"
    exact q _ _ (Kp.updp Kp.refl) ⟨_, _, upd_same, h0, Int.emod_nonneg _ (by decide)⟩ (Int.emod_nonneg _ (Int.ne_of_gt hn)) (Int.emod_lt_of_pos _ hn)
end

/-! ### draws inside expressions -/
section
variable {K : PySem.W.Frag} {σ : L2.St} {H : Hp} {p : Addr} {P : PyData → Prop} {R : List PyData → Prop} {ta : TA}
theorem evs_next {i : Nat} {n : Int} (hi : σ[i]? = some (some (.ref p))) (h0 : 0 < n) (h1 : n < 1073741824) : EvS p (tCall (spNext K) [] C8.E0 (tCons (tVar i) (tCons (tC (.int n)) tNil))) σ H (fun d => ∃ v : Int, d = .int v ∧ 0 ≤ v ∧ v < n) := fun H1 k s Q q =>
  ⟨.ref p, hi, p, n, rfl, s, h0, h1, fun v H2 k2 s2 a b => q (.int v) (.int v) H2 k2 s2 ⟨v, rfl, a, b⟩ (.int v)⟩
/-- (a, b, ..)[draw] -/
theorem evs_pickT {i : Nat} {n : Int} (ha : EvSs p ta σ H R) (hi : σ[i]? = some (some (.ref p))) (h0 : 0 < n) (h1 : n ≤ 1000) (hR : ∀ ds, R ds → (ds.length : Int) = n ∧ ∀ d ∈ ds, P d) :
    EvS p (tOp (rIxT K) (tTup ta) (tCall (spNext K) [] C8.E0 (tCons (tVar i) (tCons (tC (.int n)) tNil)))) σ H P := fun H1 k s Q q =>
  evs_tup (P := fun d => ∃ ds, d = .tuple ds ∧ R ds) ha (fun ds r => ⟨by have := (hR ds r).1; omega, ds, rfl, r⟩) H1 k s _ fun v d H2 k2 s2 hd dn => by
    obtain ⟨ds, rfl, r⟩ := hd
    cases dn with
    | @tup a xs _ hap h hs =>
      refine evs_next hi h0 (by omega) H2 (k.trans k2) s2 _ fun v d H3 k3 s3 hv dv => ?_
      obtain ⟨j, rfl, j0, j1⟩ := hv
      cases dv
      have hl := hs.len
      have hn := (hR ds r).1
      have hj : j.toNat < xs.length := by omega
      obtain ⟨d, hd, dn⟩ := hs.get (List.getElem?_eq_getElem hj)
      refine w_ixT (SqT.of (k3 _ _ hap h)) (atI_of j0 (List.getElem?_eq_getElem hj)) (q _ d H3 (k2.trans k3) s3 ((hR ds r).2 d (List.mem_of_getElem? hd)) (dn.kp k3))
/-- [a, b, ..][draw] -/
theorem evs_pickL {i : Nat} {n : Int} (ha : EvSs p ta σ H R) (hi : σ[i]? = some (some (.ref p))) (h0 : 0 < n) (h1 : n ≤ 1000) (hR : ∀ ds, R ds → (ds.length : Int) = n ∧ ∀ d ∈ ds, P d) :
    EvS p (tOp (rIxL K) (tLst ta) (tCall (spNext K) [] C8.E0 (tCons (tVar i) (tCons (tC (.int n)) tNil)))) σ H P := fun H1 k s Q q =>
  evs_lst (P := fun d => ∃ ds, d = .list ds ∧ R ds) ha (fun ds r => ⟨by have := (hR ds r).1; omega, ds, rfl, r⟩) H1 k s _ fun v d H2 k2 s2 hd dn => by
    obtain ⟨ds, rfl, r⟩ := hd
    cases dn with
    | @lst a xs _ hap h hs =>
      refine evs_next hi h0 (by omega) H2 (k.trans k2) s2 _ fun v d H3 k3 s3 hv dv => ?_
      obtain ⟨j, rfl, j0, j1⟩ := hv
      cases dv
      have hl := hs.len
      have hn := (hR ds r).1
      have hj : j.toNat < xs.length := by omega
      obtain ⟨d, hd, dn⟩ := hs.get (List.getElem?_eq_getElem hj)
      refine w_ixL (SqL.of (k3 _ _ hap h)) (atI_of j0 (List.getElem?_eq_getElem hj)) (q _ d H3 (k2.trans k3) s3 ((hR ds r).2 d (List.mem_of_getElem? hd)) (dn.kp k3))
/-- all of the parts, and how many -/
def Are (P : PyData → Prop) (n : Nat) (ds : List PyData) : Prop := ds.length = n ∧ ∀ d ∈ ds, P d
theorem are_nil : EvSs p tNil σ H (Are P 0) := evss_nil ⟨rfl, fun _ h => nomatch h⟩
theorem are_cons {te : TE} {n : Nat} (h : EvS p te σ H P) (hs : EvSs p ta σ H (Are P n)) : EvSs p (tCons te ta) σ H (Are P (n + 1)) :=
  evss_cons h hs fun d r hd hr => ⟨congrArg (· + 1) hr.1, fun x hx => (List.mem_cons.mp hx).elim (fun e => e ▸ hd) (hr.2 x)⟩
theorem are_pick {n : Nat} {m : Int} (e : (n : Int) = m) : ∀ ds, Are P n ds → (ds.length : Int) = m ∧ ∀ d ∈ ds, P d := fun ds h => ⟨by rw [h.1]; exact e, h.2⟩
/-- a number drawn -/
abbrev isInt (lo hi : Int) : PyData → Prop := fun d => ∃ v : Int, d = .int v ∧ lo ≤ v ∧ v ≤ hi
theorem evs_intIn {i lo hi : Int} (h1 : lo ≤ i) (h2 : i ≤ hi) : EvS p (tC (.int i)) σ H (isInt lo hi) := evs_int ⟨i, rfl, h1, h2⟩
theorem evs_nextIn {i : Nat} {n lo hi : Int} (hi' : σ[i]? = some (some (.ref p))) (h0 : 0 < n) (h1 : n < 1073741824) (hl : lo ≤ 0) (hh : n - 1 ≤ hi) : EvS p (tCall (spNext K) [] C8.E0 (tCons (tVar i) (tCons (tC (.int n)) tNil))) σ H (isInt lo hi) :=
  (evs_next hi' h0 h1).weak fun d ⟨v, e, a, b⟩ => ⟨v, e, by omega, by omega⟩
/-- 'abc'[draw] -/
theorem w_pickS {i : Nat} {n : Int} {z : Str} {Q : VK} (hs : Stm H p) (hi : σ[i]? = some (some (.ref p))) (h0 : 0 < n) (hz : (z.length : Int) = n) (h1 : n ≤ 1000) (q : ∀ c H2, c ∈ z.cps.toList → Kp p H H2 → Stm H2 p → Q (.str ⟨#[c]⟩) H2) :
    (tOp rIxS (tC (.str z)) (tCall (spNext K) [] C8.E0 (tCons (tVar i) (tCons (tC (.int n)) tNil)))) σ H Q := by
  refine (evs_next (K := K) (H := H) hi h0 (by omega)).use hs fun v d H2 k2 s2 hv dv => ?_
  obtain ⟨j, rfl, j0, j1⟩ := hv
  cases dv
  have hl : z.length = z.cps.toList.length := by simp [Str.length]
  have hj : j.toNat < z.cps.toList.length := by omega
  exact w_ixS (Nat.le_trans (show z.length ≤ 1000 by omega) (by decide)) (atI_of j0 (List.getElem?_eq_getElem hj)) (q _ H2 (List.getElem_mem hj) k2 s2)
theorem evss_eq {te : TE} {d : PyData} {r : List PyData} (h : EvS p te σ H (· = d)) (hs : EvSs p ta σ H (· = r)) : EvSs p (tCons te ta) σ H (· = d :: r) := evss_cons h hs fun _ _ a b => by rw [a, b]
theorem evss_eq0 : EvSs p tNil σ H (· = []) := evss_nil rfl
theorem evs_tupE {ds : List PyData} (h : EvSs p ta σ H (· = ds)) (hp : P (.tuple ds)) (hl : ds.length ≤ 100000 := by simp) : EvS p (tTup ta) σ H P := evs_tup h fun _ e => e ▸ ⟨hl, hp⟩
theorem evs_lstE {ds : List PyData} (h : EvSs p ta σ H (· = ds)) (hp : P (.list ds)) (hl : ds.length ≤ 100000 := by simp) : EvS p (tLst ta) σ H P := evs_lst h fun _ e => e ▸ ⟨hl, hp⟩
end

/-! ### further steps -/
local macro_rules | `(tactic| walk_at "case") => `(tactic| dsimp only [Bd.kind, Bd.text, Bd.rest, Bd.toD])
local macro_rules | `(tactic| walk_at "z1") => `(tactic| ((with_reducible show qAddS (.str _) (.str _) _ _); refine w_addS (sz (by first | omega | (simp only [Str.length_append]; omega))) ?_))
local macro_rules | `(tactic| walk_at "z1") => `(tactic| ((with_reducible show qJoin _ (.str _) [.ref _] _ _); first | refine w_joinT (by walk_at "sq") (by assumption) ?_ | refine w_joinL (by walk_at "sq") (by assumption) ?_))
/-- what stands off an address still stands -/
local macro_rules | `(tactic| walk_at "kp") => `(tactic| first
  | assumption
  | exact Kp.refl
  | (refine Kp.trans ?_ (by assumption); walk_at "kp")
  | (refine Kp.trans ?_ (Same.kp (by assumption)); walk_at "kp"))
local macro_rules | `(tactic| walk_at "fin") => `(tactic| first
  | (walk_at "hp"; done)
  | (refine Eq.trans (by walk_at "hp") ?_; first | rfl | (simp only [List.map_cons, List.map_nil, List.append_nil, List.append_assoc, List.cons_append, List.nil_append]; rfl)))
local macro_rules | `(tactic| walk_at "ln") => `(tactic| exact Nat.le_of_ble_eq_true rfl)

/-! ### == of data -/
mutual
def noDict : PyData → Bool
  | .dict _ => false
  | .list ds => noDicts ds
  | .tuple ds => noDicts ds
  | _ => true
def noDicts : List PyData → Bool
  | [] => true
  | d :: ds => noDict d && noDicts ds
end
section
variable {K : PySem.W.Frag} {ok : Addr → Prop} {H : Hp} {Q : VK}
mutual
theorem dn_dp {v : V} {d : PyData} (n : noDict d = true) : Dn ok H v d → Dp K H v d
  | .non => .non
  | .bl b => .bl b
  | .int i => .int i
  | .str x => .str x
  | .lst _ h hs => .lst (SqL.of h) (dnall_dp n hs)
  | .tup _ h hs => .tup (SqT.of h) (dnall_dp n hs)
  | .dic _ h => absurd n (by simp [noDict])
theorem dnall_dp {vs : List V} {ds : List PyData} (n : noDicts ds = true) : DnAll ok H vs ds → DpAll K H vs ds
  | .nil => .nil
  | .cons h hs => .cons (dn_dp (Bool.and_eq_true_iff.mp n).1 h) (dnall_dp (Bool.and_eq_true_iff.mp n).2 hs)
end
mutual
theorem noDict_of_lay : ∀ {d : PyData}, d.canLay0 = true → noDict d = true
  | .none, _ => rfl
  | .bool _, _ => rfl
  | .int _, _ => rfl
  | .str _, _ => rfl
  | .list ds, h => noDicts_of_lay (ds := ds) (by rw [PyData.canLay0] at h; exact h)
  | .tuple ds, h => noDicts_of_lay (ds := ds) (by rw [PyData.canLay0] at h; exact h)
  | .dict _, h => by rw [PyData.canLay0] at h; exact nomatch h
theorem noDicts_of_lay : ∀ {ds : List PyData}, PyData.canLayAll0 ds = true → noDicts ds = true
  | [], _ => rfl
  | d :: ds, h => by
    rw [PyData.canLayAll0, Bool.and_eq_true] at h
    show (noDict d && noDicts ds) = true
    rw [noDict_of_lay h.1, noDicts_of_lay h.2]
    rfl
end
theorem w_eqD {x y : V} {d e : PyData} {ok2 : Addr → Prop} (h : Dn ok H x d) (h2 : Dn ok2 H y e) (s : SeqAt.shaped d = true) (s2 : SeqAt.shaped e = true) (q : Q (.bl (PyData.eqv d e)) H) : rEqD K x y H Q :=
  ⟨d, e, dn_dp (noDict_of_lay (SeqAt.canLay_of_shaped s)) h, dn_dp (noDict_of_lay (SeqAt.canLay_of_shaped s2)) h2, s, s2, q⟩
theorem w_neD {x y : V} {d e : PyData} {ok2 : Addr → Prop} (h : Dn ok H x d) (h2 : Dn ok2 H y e) (s : SeqAt.shaped d = true) (s2 : SeqAt.shaped e = true) (q : Q (.bl (!PyData.eqv d e)) H) : rNeD K x y H Q :=
  ⟨d, e, dn_dp (noDict_of_lay (SeqAt.canLay_of_shaped s)) h, dn_dp (noDict_of_lay (SeqAt.canLay_of_shaped s2)) h2, s, s2, q⟩
theorem w_eqDs {x y : V} {d : PyData} {ok2 : Addr → Prop} (h : Dn ok H x d) (h2 : Dn ok2 H y d) (s : SeqAt.shaped d = true) (q : Q (.bl true) H) : rEqD K x y H Q :=
  w_eqD h h2 s s (by rw [SeqAt.eqv_refl d (SeqAt.canLay_of_shaped s)]; exact q)
theorem w_neDs {x y : V} {d : PyData} {ok2 : Addr → Prop} (h : Dn ok H x d) (h2 : Dn ok2 H y d) (s : SeqAt.shaped d = true) (q : Q (.bl false) H) : rNeD K x y H Q :=
  w_neD h h2 s s (by rw [SeqAt.eqv_refl d (SeqAt.canLay_of_shaped s)]; exact q)
/-- signs that are ASCII -/
def ascii (z : Str) : Bool := z.cps.toList.all fun c => decide (c < 1114112)
theorem strOk_of {z : Str} (h : ascii z = true) : PyData.strOk z = true := by
  unfold PyData.strOk
  rw [← Array.all_toList]
  exact h
theorem shaped_str {z : Str} (h : ascii z = true) : SeqAt.shaped (.str z) = true := by
  unfold SeqAt.shaped
  rw [PyData.canLay0, strOk_of h]
  rfl
end
/-! ### data that may be compared -/
/-- its texts are texts, no dicts, no deeper than k -/
def Lay (k : Nat) (d : PyData) : Prop := d.canLay0 = true ∧ d.depth ≤ k
theorem Lay.shaped {k : Nat} {d : PyData} (h : Lay k d) (hk : k ≤ 64 := by decide) : SeqAt.shaped d = true := by
  unfold SeqAt.shaped
  rw [h.1, decide_eq_true (Nat.le_trans h.2 hk)]
  rfl
theorem Lay.up {j k : Nat} {d : PyData} (h : Lay j d) (hk : j ≤ k := by decide) : Lay k d := ⟨h.1, Nat.le_trans h.2 hk⟩
theorem lay_int {k : Nat} {i : Int} : Lay k (.int i) := ⟨by rw [PyData.canLay0], by rw [PyData.depth]; exact Nat.zero_le _⟩
theorem lay_str {k : Nat} {z : Str} (h : ascii z = true) : Lay k (.str z) := ⟨by rw [PyData.canLay0, strOk_of h], by rw [PyData.depth]; exact Nat.zero_le _⟩
theorem lay_all : ∀ {k : Nat} {ds : List PyData}, (∀ d ∈ ds, Lay k d) → PyData.canLayAll0 ds = true ∧ PyData.depthAll ds ≤ k
  | k, [], _ => ⟨by rw [PyData.canLayAll0], by rw [PyData.depthAll]; exact Nat.zero_le _⟩
  | k, d :: ds, h => by
    have h1 := h d (List.mem_cons_self ..)
    have h2 := lay_all fun e he => h e (List.mem_cons_of_mem _ he)
    refine ⟨by rw [PyData.canLayAll0, h1.1, h2.1]; rfl, ?_⟩
    rw [PyData.depthAll]
    exact Nat.max_le.mpr ⟨h1.2, h2.2⟩
theorem lay_tup {k : Nat} {ds : List PyData} (h : ∀ d ∈ ds, Lay k d) : Lay (k + 1) (.tuple ds) :=
  ⟨by rw [PyData.canLay0]; exact (lay_all h).1, by rw [PyData.depth]; exact Nat.succ_le_succ (lay_all h).2⟩
theorem lay1 {k : Nat} {a : PyData} (h : Lay k a) : Lay (k + 1) (.tuple [a]) := lay_tup fun d hd => by
  rw [List.mem_singleton.mp hd]
  exact h
theorem lay2 {k : Nat} {a b : PyData} (h : Lay k a) (h2 : Lay k b) : Lay (k + 1) (.tuple [a, b]) := lay_tup fun d hd => by
  rcases List.mem_cons.mp hd with rfl | hd
  · exact h
  · rw [List.mem_singleton.mp hd]
    exact h2
theorem lay3 {k : Nat} {a b c : PyData} (h : Lay k a) (h2 : Lay k b) (h3 : Lay k c) : Lay (k + 1) (.tuple [a, b, c]) := lay_tup fun d hd => by
  rcases List.mem_cons.mp hd with rfl | hd
  · exact h
  rcases List.mem_cons.mp hd with rfl | hd
  · exact h2
  · rw [List.mem_singleton.mp hd]
    exact h3
theorem lay5 {k : Nat} {a b c e f : PyData} (h : Lay k a) (h2 : Lay k b) (h3 : Lay k c) (h4 : Lay k e) (h5 : Lay k f) : Lay (k + 1) (.tuple [a, b, c, e, f]) := lay_tup fun d hd => by
  rcases List.mem_cons.mp hd with rfl | hd
  · exact h
  rcases List.mem_cons.mp hd with rfl | hd
  · exact h2
  rcases List.mem_cons.mp hd with rfl | hd
  · exact h3
  rcases List.mem_cons.mp hd with rfl | hd
  · exact h4
  · rw [List.mem_singleton.mp hd]
    exact h5

/-! ### data of texts, numbers and tuples alone -/
mutual
def plainB : PyData → Bool
  | .int _ => true
  | .str _ => true
  | .tuple ds => plainAll ds
  | _ => false
def plainAll : List PyData → Bool
  | [] => true
  | d :: ds => plainB d && plainAll ds
end
theorem plainAll_of : ∀ {ds : List PyData}, (∀ d ∈ ds, plainB d = true) → plainAll ds = true
  | [], _ => rfl
  | d :: ds, h => by
    rw [plainAll, h d (List.mem_cons_self ..), plainAll_of fun x hx => h x (List.mem_cons_of_mem _ hx)]
    rfl
theorem plain_tup {ds : List PyData} (h : ∀ d ∈ ds, plainB d = true) : plainB (.tuple ds) = true := by
  rw [plainB]
  exact plainAll_of h
mutual
theorem eqv_plain : ∀ {x y : PyData}, plainB x = true → plainB y = true → PyData.eqv x y = true → x = y
  | .int i, .int j, _, _, e => by
    rw [PyData.eqv, beq_iff_eq] at e
    rw [e]
  | .str i, .str j, _, _, e => by
    rw [PyData.eqv, beq_iff_eq] at e
    rw [e]
  | .tuple xs, .tuple ys, hx, hy, e => by
    rw [PyData.eqv] at e
    rw [eqvAll_plain (by rw [plainB] at hx; exact hx) (by rw [plainB] at hy; exact hy) e]
  | .int _, .str _, _, _, e => by rw [PyData.eqv] at e; exact nomatch e
  | .int _, .tuple _, _, _, e => by rw [PyData.eqv] at e; exact nomatch e
  | .str _, .int _, _, _, e => by rw [PyData.eqv] at e; exact nomatch e
  | .str _, .tuple _, _, _, e => by rw [PyData.eqv] at e; exact nomatch e
  | .tuple _, .int _, _, _, e => by rw [PyData.eqv] at e; exact nomatch e
  | .tuple _, .str _, _, _, e => by rw [PyData.eqv] at e; exact nomatch e
theorem eqvAll_plain : ∀ {xs ys : List PyData}, plainAll xs = true → plainAll ys = true → PyData.eqvAll xs ys = true → xs = ys
  | [], [], _, _, _ => rfl
  | x :: xs, y :: ys, hx, hy, e => by
    rw [plainAll, Bool.and_eq_true] at hx hy
    rw [PyData.eqvAll, Bool.and_eq_true] at e
    rw [eqv_plain hx.1 hy.1 e.1, eqvAll_plain hx.2 hy.2 e.2]
  | [], _ :: _, _, _, e => by rw [PyData.eqvAll] at e; exact nomatch e
  | _ :: _, [], _, _, e => by rw [PyData.eqvAll] at e; exact nomatch e
end
/-- tuples stay -/
def Tk (H H' : Hp) : Prop := ∀ b xs, H b = some (.tup xs) → H' b = some (.tup xs)
theorem Tk.refl {H : Hp} : Tk H H := fun _ _ e => e
theorem Tk.trans {H H1 H2 : Hp} (a : Tk H H1) (b : Tk H1 H2) : Tk H H2 := fun c xs e => b c xs (a c xs e)
theorem Tk.same {H H' : Hp} (s : Same H H') : Tk H H' := fun b xs e => s b _ e
theorem Tk.kp {p : Addr} {o : HO} {H H' : Hp} (k : Kp p H H') (hp : H p = some o) (n : ∀ xs, o ≠ .tup xs) : Tk H H' := fun b xs e => k b _ (fun z => by
  rw [z, hp] at e
  exact n xs (Option.some.inj e)) e
theorem Tk.kpL {p : Addr} {ys : List V} {H H' : Hp} (k : Kp p H H') (hp : H p = some (.lst ys)) : Tk H H' := Tk.kp k hp fun xs e => by cases e
mutual
theorem dn_tk {ok : Addr → Prop} {H H' : Hp} (t : Tk H H') {v : V} : ∀ {d : PyData}, plainB d = true → Dn ok H v d → Dn ok H' v d
  | .int _, _, .int i => .int i
  | .str _, _, .str x => .str x
  | .tuple ds, hp, .tup ha h hs => .tup ha (t _ _ h) (dnall_tk t (by rw [plainB] at hp; exact hp) hs)
theorem dnall_tk {ok : Addr → Prop} {H H' : Hp} (t : Tk H H') {vs : List V} : ∀ {ds : List PyData}, plainAll ds = true → DnAll ok H vs ds → DnAll ok H' vs ds
  | [], _, .nil => .nil
  | d :: ds, hp, .cons h hs => .cons (dn_tk t (by rw [plainAll, Bool.and_eq_true] at hp; exact hp.1) h) (dnall_tk t (by rw [plainAll, Bool.and_eq_true] at hp; exact hp.2) hs)
end
/-! ### letters -/
def lfs (a : Str) (n s : Int) (sv bv : V) (d : Addr) : List (Str × V) := [("author", .str a), ("number", .int n), ("stamp", .int s), ("seen", sv), ("body", bv), ("_counts", .ref d)]
abbrev csV (ps : List (Str × Int)) : List (L2.Key × V) := ps.map fun p => (Sum.inr p.1, V.int p.2)
def pairD (p : Str × Int) : PyData := .tuple [.str p.1, .int p.2]
def seenD (ps : List (Str × Int)) : PyData := .tuple (ps.map pairD)
def cnt (ps : List (Str × Int)) (m : Str) : Int := match ps.find? (fun p => decide (p.1 = m)) with | some p => p.2 | none => 0
section
variable {K : PySem.W.Frag} {C : Addr} {H H' : Hp} {x : Addr} {a : Str} {n s : Int} {ps : List (Str × Int)} {sv bv : V} {d : Addr}
theorem lfs_author : (lfs a n s sv bv d).lookup ("author" : Str) = some (.str a) := by rfl
theorem lfs_number : (lfs a n s sv bv d).lookup ("number" : Str) = some (.int n) := by rfl
theorem lfs_stamp : (lfs a n s sv bv d).lookup ("stamp" : Str) = some (.int s) := by rfl
theorem lfs_seen : (lfs a n s sv bv d).lookup ("seen" : Str) = some sv := by rfl
theorem lfs_body : (lfs a n s sv bv d).lookup ("body" : Str) = some bv := by rfl
theorem lfs_counts : (lfs a n s sv bv d).lookup ("_counts" : Str) = some (.ref d) := by rfl
theorem lfs_count : (lfs a n s sv bv d).lookup ("count" : Str) = none := by rfl
theorem lfs_hasSeen : (lfs a n s sv bv d).lookup ("has_seen" : Str) = none := by rfl
theorem lfs_value : (lfs a n s sv bv d).lookup ("value" : Str) = none := by rfl
theorem lfs_put : putF "_counts" (.ref d) (putF "body" bv (putF "seen" sv (putF "stamp" (.int s) (putF "number" (.int n) (putF "author" (.str a) []))))) = lfs a n s sv bv d := by rfl
theorem csV_app (a b : List (Str × Int)) : csV (a ++ b) = csV a ++ csV b := List.map_append
theorem valV_cs (m : Str) : ∀ ps : List (Str × Int), valV (csV ps) (Sum.inr m) = (ps.find? fun p => decide (p.1 = m)).map fun p => V.int p.2
  | [] => rfl
  | p :: ps => by
    by_cases e : p.1 = m
    · rw [List.find?_cons, decide_eq_true e]
      exact valV_pos (congrArg Sum.inr e)
    · rw [List.find?_cons, decide_eq_false e]
      exact (valV_neg (fun z => e (Sum.inr.inj z))).trans (valV_cs m ps)
theorem getD_cnt (m : Str) : (valV (csV ps) (Sum.inr m)).getD (.int 0) = .int (cnt ps m) := by
  rw [valV_cs]
  unfold cnt
  cases ps.find? (fun p => decide (p.1 = m)) <;> rfl
theorem pairs_at {ok : Addr → Prop} : ∀ {ps : List (Str × Int)} {vs : List V}, DnAll ok H vs (ps.map pairD) → ∀ (i : Nat) (v : V), vs[i]? = some v → ∃ (p : Str × Int) (t : Addr), ps[i]? = some p ∧ v = .ref t ∧ H t = some (.tup [.str p.1, .int p.2])
  | [], _, h, i, v, e => by
    cases h
    exact nomatch e
  | p :: ps, _, h, i, v, e => by
    cases h with
    | cons h hs =>
      cases i with
      | zero =>
        cases Option.some.inj e
        cases h with
        | tup _ ht hx =>
          cases hx with
          | cons h1 hx =>
            cases h1
            cases hx with
            | cons h2 hx =>
              cases h2
              cases hx
              exact ⟨p, _, rfl, rfl, ht⟩
      | succ i =>
        obtain ⟨p, t, e1, e2, e3⟩ := pairs_at hs i v e
        exact ⟨p, t, e1, e2, e3⟩
end
/-! ### letters as records -/
structure Lt where
  a : Str
  n : Int
  s : Int
  ps : List (Str × Int)
  b : PyData
def valD (L : Lt) : PyData := .tuple [.str L.a, .int L.n, .int L.s, seenD L.ps, L.b]
def keyD (L : Lt) : PyData := .tuple [.int L.s, .str L.a]
structure Wf (L : Lt) : Prop where
  n1 : 1 ≤ L.n
  nd : (L.ps.map (·.1)).Nodup
  len : L.ps.length ≤ 100
  aa : ascii L.a = true
  pa : ∀ p ∈ L.ps, ascii p.1 = true
  lb : Lay 3 L.b
  pb : plainB L.b = true
theorem plain_seen (ps : List (Str × Int)) : plainB (seenD ps) = true := plain_tup fun d hd => by
  obtain ⟨p, _, rfl⟩ := List.mem_map.mp hd
  rfl
theorem Wf.plain {L : Lt} (w : Wf L) : plainB (valD L) = true := plain_tup fun d hd => by
  simp only [List.mem_cons, List.not_mem_nil, or_false] at hd
  rcases hd with rfl | rfl | rfl | rfl | rfl
  · rfl
  · rfl
  · rfl
  · exact plain_seen _
  · exact w.pb
theorem lay_seen {ps : List (Str × Int)} (h : ∀ p ∈ ps, ascii p.1 = true) : Lay 2 (seenD ps) := lay_tup fun d hd => by
  obtain ⟨p, hp, rfl⟩ := List.mem_map.mp hd
  exact lay2 (lay_str (h p hp)) lay_int
theorem Wf.lay {L : Lt} (w : Wf L) : Lay 4 (valD L) := lay5 (lay_str w.aa) lay_int lay_int (lay_seen w.pa).up w.lb
/-- what stands in a heap and may be read: tuples and objects stay, dicts at good places too -/
def Fm (ok : Addr → Prop) (H H' : Hp) : Prop := Tk H H' ∧ (∀ b C dx fs, H b = some (.ins C dx fs) → H' b = some (.ins C dx fs)) ∧ ∀ b kvs, H b = some (.dK kvs) → ok b → H' b = some (.dK kvs)
theorem Fm.refl {ok : Addr → Prop} {H : Hp} : Fm ok H H := ⟨Tk.refl, fun _ _ _ _ e => e, fun _ _ e _ => e⟩
theorem Fm.trans {ok : Addr → Prop} {H H1 H2 : Hp} (a : Fm ok H H1) (b : Fm ok H1 H2) : Fm ok H H2 := ⟨a.1.trans b.1, fun c C dx fs e => b.2.1 c C dx fs (a.2.1 c C dx fs e), fun c kvs e o => b.2.2 c kvs (a.2.2 c kvs e o) o⟩
theorem Fm.same {ok : Addr → Prop} {H H' : Hp} (s : Same H H') : Fm ok H H' := ⟨Tk.same s, fun b _ _ _ e => s b _ e, fun b _ e _ => s b _ e⟩
theorem Fm.kpL {ok : Addr → Prop} {p : Addr} {ys : List V} {H H' : Hp} (k : Kp p H H') (hp : H p = some (.lst ys)) : Fm ok H H' :=
  ⟨Tk.kpL k hp, fun b _ _ _ e => k b _ (fun z => by rw [z, hp] at e; cases e) e, fun b _ e _ => k b _ (fun z => by rw [z, hp] at e; cases e) e⟩
theorem Fm.stm {ok : Addr → Prop} {p : Addr} {H H' : Hp} (k : Kp p H H') (s : Stm H p) : Fm ok H H' := by
  obtain ⟨a, b, h, _⟩ := s
  exact Fm.kpL k h
theorem Fm.kpD {p : Addr} {o : HO} {H H' : Hp} (k : Kp p H H') (hp : H p = some o) (n1 : ∀ xs, o ≠ .tup xs) (n2 : ∀ C dx fs, o ≠ .ins C dx fs) : Fm (Off p) H H' :=
  ⟨Tk.kp k hp n1, fun b C dx fs e => k b _ (fun z => by rw [z, hp] at e; exact n2 _ _ _ (Option.some.inj e)) e, fun b _ e n => k b _ n e⟩
def LtAt (ok : Addr → Prop) (C : Addr) (H : Hp) (x : Addr) (L : Lt) : Prop := ∃ dx d sv bv, H x = some (.ins C dx (lfs L.a L.n L.s sv bv d)) ∧ ok d ∧ H d = some (.dK (csV L.ps)) ∧ Dn Any H sv (seenD L.ps) ∧ Dn Any H bv L.b
theorem LtAt.fm {ok : Addr → Prop} {C x : Addr} {H H' : Hp} {L : Lt} (h : LtAt ok C H x L) (w : Wf L) (f : Fm ok H H') : LtAt ok C H' x L := by
  obtain ⟨dx, d, sv, bv, h1, h2, h3, h4, h5⟩ := h
  exact ⟨dx, d, sv, bv, f.2.1 _ _ _ _ h1, h2, f.2.2 _ _ h3 h2, dn_tk f.1 (plain_seen _) h4, dn_tk f.1 w.pb h5⟩
theorem LtAt.same {ok : Addr → Prop} {C x : Addr} {H H' : Hp} {L : Lt} (h : LtAt ok C H x L) (s : Same H H') : LtAt ok C H' x L := by
  obtain ⟨dx, d, sv, bv, h1, h2, h3, h4, h5⟩ := h
  exact ⟨dx, d, sv, bv, s _ _ h1, h2, s _ _ h3, h4.same s, h5.same s⟩
theorem LtAt.any {ok : Addr → Prop} {C x : Addr} {H : Hp} {L : Lt} (h : LtAt ok C H x L) : LtAt Any C H x L := by
  obtain ⟨dx, d, sv, bv, h1, h2, h3⟩ := h
  exact ⟨dx, d, sv, bv, h1, trivial, h3⟩
/-- lists of letters -/
abbrev lsV (ls : List (Addr × Lt)) : List V := ls.map fun y => V.ref y.1
def LsOk (ok : Addr → Prop) (C : Addr) (H : Hp) (ls : List (Addr × Lt)) : Prop := ∀ y ∈ ls, LtAt ok C H y.1 y.2 ∧ Wf y.2
theorem LsOk.fm {ok : Addr → Prop} {C : Addr} {H H' : Hp} {ls : List (Addr × Lt)} (h : LsOk ok C H ls) (f : Fm ok H H') : LsOk ok C H' ls := fun y hy => ⟨(h y hy).1.fm (h y hy).2 f, (h y hy).2⟩
theorem LsOk.same {ok : Addr → Prop} {C : Addr} {H H' : Hp} {ls : List (Addr × Lt)} (h : LsOk ok C H ls) (s : Same H H') : LsOk ok C H' ls := h.fm (Fm.same s)
theorem LsOk.any {ok : Addr → Prop} {C : Addr} {H : Hp} {ls : List (Addr × Lt)} (h : LsOk ok C H ls) : LsOk Any C H ls := fun y hy => ⟨(h y hy).1.any, (h y hy).2⟩
theorem LsOk.app {ok : Addr → Prop} {C : Addr} {H : Hp} {ls ms : List (Addr × Lt)} (h : LsOk ok C H ls) (k : LsOk ok C H ms) : LsOk ok C H (ls ++ ms) := fun y hy => (List.mem_append.mp hy).elim (h y) (k y)
theorem LsOk.sub {ok : Addr → Prop} {C : Addr} {H : Hp} {ls ms : List (Addr × Lt)} (h : LsOk ok C H ls) (k : ∀ y ∈ ms, y ∈ ls) : LsOk ok C H ms := fun y hy => h y (k y hy)
theorem LsOk.get {ok : Addr → Prop} {C : Addr} {H : Hp} {ls : List (Addr × Lt)} (h : LsOk ok C H ls) {i : Nat} {y : Addr × Lt} (e : ls[i]? = some y) : LtAt ok C H y.1 y.2 ∧ Wf y.2 := h y (List.mem_of_getElem? e)
def spInit (K : PySem.W.Frag) (C : Addr) : Sp := fun vs H Q _ => ∃ (x dx : Addr) (a : Str) (n s : Int) (ps : List (Str × Int)) (sv bv : V), vs = [.ref x, .str a, .int n, .int s, sv, bv] ∧ H x = some (.ins C dx []) ∧ Dn (Off x) H sv (seenD ps) ∧ (ps.map (·.1)).Nodup ∧ ps.length ≤ 1000 ∧
  ∀ H' d, H d = none → Kp x H H' → H' x = some (.ins C dx (lfs a n s sv bv d)) → H' d = some (.dK (csV ps)) → Q .non H'
def spRefP (K : PySem.W.Frag) (C : Addr) : Sp := fun vs H Q _ => ∃ (x : Addr) (L : Lt), vs = [.ref x] ∧ LtAt Any C H x L ∧ ∀ t H', H t = none → Same H H' → H' t = some (.tup [.str L.a, .int L.n]) → Q (.ref t) H'
def spKeyP (K : PySem.W.Frag) (C : Addr) : Sp := fun vs H Q _ => ∃ (x : Addr) (L : Lt), vs = [.ref x] ∧ LtAt Any C H x L ∧ ∀ t H', H t = none → Same H H' → H' t = some (.tup [.int L.s, .str L.a]) → Q (.ref t) H'
def spValue (K : PySem.W.Frag) (C : Addr) : Sp := fun vs H Q _ => ∃ (x : Addr) (L : Lt), vs = [.ref x] ∧ LtAt Any C H x L ∧ ∀ v H', Same H H' → Dn Any H' v (valD L) → Q v H'
def spCount (K : PySem.W.Frag) (C : Addr) : Sp := fun vs H Q _ => ∃ (x : Addr) (m : Str) (L : Lt), vs = [.ref x, .str m] ∧ LtAt Any C H x L ∧ Q (.int (cnt L.ps m)) H
section
variable {K : PySem.W.Frag} {C : Addr} {vs : List V} {H : Hp} {Q : VK} {E : XK}
theorem w_fldV {i : Nat} {σ : L2.St} {f : Str} {x dx : Addr} {fs : List (Str × V)} {v : V} (hi : σ[i]? = some (some (.ref x))) (h : H x = some (.ins C dx fs)) (c : Cls K C) (nn : NoAttr K C f) (l : fs.lookup f = some v) (q : Q v H) : tFld K (tVar i) f σ H Q :=
  ⟨_, hi, x, C, dx, fs, v, rfl, h, c, nn, l, q⟩
theorem w_methV {i : Nat} {σ : L2.St} {m : Str} {x dx : Addr} {fs : List (Str × V)} {sp : Sp} {dvs : List V} {E : XK} {t : TA} (hi : σ[i]? = some (some (.ref x))) (h : H x = some (.ins C dx fs)) (l : fs.lookup m = none) (q : t σ H fun vs H2 => sp (.ref x :: (vs ++ dvs)) H2 Q E) : tMeth C m sp dvs E (tVar i) t σ H Q :=
  ⟨_, hi, x, dx, fs, rfl, h, l, q⟩
theorem w_propV {i : Nat} {σ : L2.St} {x dx : Addr} {fs : List (Str × V)} {sp : Sp} {dvs : List V} {E : XK} (hi : σ[i]? = some (some (.ref x))) (h : H x = some (.ins C dx fs)) (q : sp (.ref x :: dvs) H Q E) : tProp C sp dvs E (tVar i) σ H Q :=
  ⟨_, hi, x, dx, fs, rfl, h, q⟩
/-- Letter_value: slots 0:self -/
def t_Letter_value (K : PySem.W.Frag) (C_Letter : Addr) : TS := (tRet (tTup (tCons (tFld K (tVar 0) "author") (tCons (tFld K (tVar 0) "number") (tCons (tFld K (tVar 0) "stamp") (tCons (tFld K (tVar 0) "seen") (tCons (tFld K (tVar 0) "body") tNil)))))))
theorem l_Letter_value (h : spValue K C vs H Q E) : vs.length = 1 := by obtain ⟨x, L, rfl, _⟩ := h; rfl
theorem r_Letter_value (LC : IsC_Letter K C) (h : spValue K C vs H Q E) : t_Letter_value K C { nx := fun _ H' => Q .non H', rt := Q } (start ["self"] vs) H := by
  obtain ⟨x, L, rfl, ⟨dx, d, sv, bv, hx, _, hd, hsv, hbv⟩, q⟩ := h
  unfold t_Letter_value
  walk_at "v"
  refine w_fldV rfl hx LC.cl LC.n_author lfs_author ?_
  walk_at "v"
  refine w_fldV rfl hx LC.cl LC.n_number lfs_number ?_
  walk_at "v"
  refine w_fldV rfl hx LC.cl LC.n_stamp lfs_stamp ?_
  walk_at "v"
  refine w_fldV rfl hx LC.cl LC.n_seen lfs_seen ?_
  walk_at "v"
  refine w_fldV rfl hx LC.cl LC.n_body lfs_body ?_
  walk_at "v"
  exact w_new fun p H2 _ s ht => q _ H2 s (.tup trivial ht (.cons (.str _) (.cons (.int _) (.cons (.int _) (.cons (hsv.same s) (.cons (hbv.same s) .nil))))))
/-- Letter___init__: slots 0:self 1:author 2:number 3:stamp 4:seen 5:body 6:name 7:count -/
def t_Letter___init__ (K : PySem.W.Frag) (C_Letter : Addr) : TS := (tSeq (sFld K (tVar 0) (tVar 1) "author")
  (tSeq (sFld K (tVar 0) (tVar 2) "number")
  (tSeq (sFld K (tVar 0) (tVar 3) "stamp")
  (tSeq (sFld K (tVar 0) (tVar 4) "seen")
  (tSeq (sFld K (tVar 0) (tVar 5) "body")
  (sFld K (tVar 0) (tDc (iTup K (tVar 4)) (gTup K 2 (gCons (gName 6) (gCons (gName 7) gNil))) tYes (tVar 6) (tVar 7) [6, 7]) "_counts"))))))
theorem l_Letter___init__ (h : spInit K C vs H Q E) : vs.length = 6 := by obtain ⟨x, dx, a, n, s, ps, sv, bv, rfl, _⟩ := h; rfl
theorem r_Letter___init__ (LC : IsC_Letter K C) (h : spInit K C vs H Q E) : t_Letter___init__ K C { nx := fun _ H' => Q .non H', rt := Q } (start ["self", "author", "number", "stamp", "seen", "body", "name", "count"] vs) H := by
  obtain ⟨x, dx, a, n, s, ps, sv, bv, rfl, hx, hsv, hnd, hlen, q⟩ := h
  unfold t_Letter___init__
  walk_at "w"
  refine w_sfld (w_var rfl (w_var rfl ⟨x, C, dx, _, rfl, hx, LC.cl, LC.n_author, (show 0 < 1000 by decide), ?_⟩))
  walk_at "w"
  refine w_sfld (w_var rfl (w_var rfl ⟨x, C, dx, _, rfl, upd_same, LC.cl, LC.n_number, (show 1 < 1000 by decide), ?_⟩))
  walk_at "w"
  refine w_sfld (w_var rfl (w_var rfl ⟨x, C, dx, _, rfl, upd_same, LC.cl, LC.n_stamp, (show 2 < 1000 by decide), ?_⟩))
  walk_at "w"
  refine w_sfld (w_var rfl (w_var rfl ⟨x, C, dx, _, rfl, upd_same, LC.cl, LC.n_seen, (show 3 < 1000 by decide), ?_⟩))
  walk_at "w"
  refine w_sfld (w_var rfl (w_var rfl ⟨x, C, dx, _, rfl, upd_same, LC.cl, LC.n_body, (show 4 < 1000 by decide), ?_⟩))
  walk_at "w"
  have kx : ∀ {G : Hp} {o : HO}, Kp x H G → Kp x H (upd G x o) := fun k => k.updp
  have k5 := kx (o := .ins C dx (putF "body" bv (putF "seen" sv (putF "stamp" (.int s) (putF "number" (.int n) (putF "author" (.str a) [])))))) (kx (o := .ins C dx (putF "seen" sv (putF "stamp" (.int s) (putF "number" (.int n) (putF "author" (.str a) []))))) (kx (o := .ins C dx (putF "stamp" (.int s) (putF "number" (.int n) (putF "author" (.str a) [])))) (kx (o := .ins C dx (putF "number" (.int n) (putF "author" (.str a) []))) (kx (o := .ins C dx (putF "author" (.str a) [])) Kp.refl))))
  have h5 : (upd (upd (upd (upd (upd H x (.ins C dx (putF "author" (.str a) []))) x (.ins C dx (putF "number" (.int n) (putF "author" (.str a) [])))) x (.ins C dx (putF "stamp" (.int s) (putF "number" (.int n) (putF "author" (.str a) []))))) x (.ins C dx (putF "seen" sv (putF "stamp" (.int s) (putF "number" (.int n) (putF "author" (.str a) [])))))) x (.ins C dx (putF "body" bv (putF "seen" sv (putF "stamp" (.int s) (putF "number" (.int n) (putF "author" (.str a) []))))))) x = some (.ins C dx (putF "body" bv (putF "seen" sv (putF "stamp" (.int s) (putF "number" (.int n) (putF "author" (.str a) [])))))) := upd_same
  revert k5 h5
  generalize (upd (upd (upd (upd (upd H x (.ins C dx (putF "author" (.str a) []))) x (.ins C dx (putF "number" (.int n) (putF "author" (.str a) [])))) x (.ins C dx (putF "stamp" (.int s) (putF "number" (.int n) (putF "author" (.str a) []))))) x (.ins C dx (putF "seen" sv (putF "stamp" (.int s) (putF "number" (.int n) (putF "author" (.str a) [])))))) x (.ins C dx (putF "body" bv (putF "seen" sv (putF "stamp" (.int s) (putF "number" (.int n) (putF "author" (.str a) []))))))) = H5
  intro k5 h5
  have hsv5 : Dn (Off x) H5 sv (seenD ps) := hsv.kp k5
  cases hsv5 with
  | @tup ta xs _ hok ht hxs =>
    have hxl : xs.length = ps.length := by rw [hxs.len, List.length_map]
    show sFld K (tVar 0) (tDc (iTup K (tVar 4)) (gTup K 2 (gCons (gName 6) (gCons (gName 7) gNil))) tYes (tVar 6) (tVar 7) [6, 7]) "_counts" _ _ _
    refine w_sfld ?_
    show iTup K (tVar 4) _ _ _
    refine w_iTup (w_var rfl ⟨ta, rfl, ⟨_, SqT.of ht⟩, fun D hD => ?_⟩)
    refine dc_tup (fun i H' => (∀ b o, b ≠ D → H5 b = some o → H' b = some o) ∧ H' D = some (.dK (csV (ps.take i)))) ⟨fun b o nb e => by rw [upd_ne nb]; exact e, upd_same⟩ (fun i H' _ pv => SqT.of (pv.1 _ _ (ne_of_none ht hD) ht)) (fun i v H' hv pv => ?_) (fun H' pv => ?_)
    · obtain ⟨p, t, e1, rfl, e3⟩ := pairs_at hxs i v hv
      refine ⟨t, _, rfl, SqT.of (pv.1 _ _ (ne_of_none e3 hD) e3), rfl, gc (w_name (gc (w_name (gn ⟨rfl, ?_⟩))))⟩
      refine w_yes ?_
      refine iteT_ ?_
      refine w_var rfl (w_var rfl ⟨_, Sum.inr p.1, rfl, pv.2, ?_, fun b o nb e => by rw [upd_ne nb]; exact pv.1 b o nb e, ?_⟩)
      · rw [List.length_map, List.length_take]
        exact Nat.lt_of_le_of_lt (show min i ps.length ≤ 1000 by omega) (by decide)
      · have hi : i < ps.length := (List.getElem?_eq_some_iff.mp e1).1
        have hp : ps[i] = p := (List.getElem?_eq_some_iff.mp e1).2
        have hnone : valV (csV (ps.take i)) (Sum.inr p.1) = none := by
          rw [valV_cs]
          have : (ps.take i).find? (fun q => decide (q.1 = p.1)) = none := by
            rw [List.find?_eq_none]
            intro q hq e
            have e := of_decide_eq_true e
            obtain ⟨j, hj⟩ := List.mem_iff_getElem?.mp hq
            rw [List.getElem?_take] at hj
            split at hj
            · rename_i hji
              have h1 : (ps.map (·.1))[j]? = some p.1 := by rw [List.getElem?_map, hj]; exact congrArg some e
              have h2 : (ps.map (·.1))[i]? = some p.1 := by rw [List.getElem?_map, e1]; rfl
              have := (List.getElem?_inj (by rw [List.length_map]; omega) hnd).mp (h1.trans h2.symm)
              omega
            · exact nomatch hj
          rw [this]
          rfl
        rw [upd_same, putK_new _ hnone, List.take_add_one, e1, csV_app]
        rfl
    · obtain ⟨p1, p2⟩ := pv
      have nx : D ≠ x := fun e => by
        subst e
        rw [h5] at hD
        cases hD
      have hx' := p1 x _ nx.symm h5
      rw [hxl, List.take_length] at p2
      refine w_var rfl ⟨x, C, dx, _, rfl, hx', LC.cl, LC.n_counts, (show 5 < 1000 by decide), ?_⟩
      rw [lfs_put]
      refine q _ D (k5.free nx hD) (fun b o nb e => ?_) upd_same (by rw [upd_ne nx]; exact p2)
      rw [upd_ne nb]
      have e5 := k5 b o nb e
      exact p1 b o (ne_of_none e5 hD) e5
end

/-! ### shared steps -/
section
variable {K : PySem.W.Frag} {C CL : Addr} {vs : List V} {H : Hp} {Q : VK} {E : XK} {σ : L2.St} {D : Ends} {td ty : TE} {tt : TT}
theorem same_none {H H' : Hp} {a : Addr} (s : Same H H') (h : H' a = none) : H a = none := by
  cases e : H a with
  | none => rfl
  | some o => rw [s _ _ e] at h; cases h
theorem Same.kp0 {H0 H H' : Hp} {p : Addr} (s : Same H0 H) (k : Kp p H H') (n : H0 p = none) : Same H0 H' := fun b o e => k b o (ne_of_none e n) (s _ _ e)
theorem Fm.kpK {ok : Addr → Prop} {p : Addr} {o : HO} {H H' : Hp} (k : Kp p H H') (hp : H p = some o) (n1 : ∀ xs, o ≠ .tup xs) (n2 : ∀ C dx fs, o ≠ .ins C dx fs) (n3 : ∀ kvs, o ≠ .dK kvs) : Fm ok H H' :=
  ⟨Tk.kp k hp n1, fun b C dx fs e => k b _ (fun z => by rw [z, hp] at e; exact n2 _ _ _ (Option.some.inj e)) e, fun b _ e _ => k b _ (fun z => by rw [z, hp] at e; exact n3 _ (Option.some.inj e)) e⟩
theorem ne_kind {b p : Addr} {o u : HO} (e : H b = some o) (hp : H p = some u) (n : o = u → False) : b ≠ p := fun z => by
  rw [z, hp] at e
  exact n (Option.some.inj e).symm
theorem cutV_to {xs : List V} {j : Nat} (h : j ≤ xs.length) : cutV xs none (some (j : Int)) = xs.take j := by
  unfold cutV
  rw [HT.sIx_none, HT.sIx_nat, Nat.min_eq_left h]
  rfl
theorem cutV_from {xs : List V} {i : Nat} (h : i ≤ xs.length) : cutV xs (some (i : Int)) none = xs.drop i := by
  unfold cutV
  rw [HT.sIx_none, HT.sIx_nat, Nat.min_eq_left h, ← List.length_drop, List.take_length]
theorem lay_list {k : Nat} {ds : List PyData} (h : ∀ d ∈ ds, Lay k d) : Lay (k + 1) (.list ds) :=
  ⟨by rw [PyData.canLay0]; exact (lay_all h).1, by rw [PyData.depth]; exact Nat.succ_le_succ (lay_all h).2⟩
theorem lay_vals {ls : List (Addr × Lt)} (h : ∀ y ∈ ls, Wf y.2) : SeqAt.shaped (.list (ls.map fun y => valD y.2)) = true := (lay_list (k := 4) fun d hd => by
  obtain ⟨y, hy, rfl⟩ := List.mem_map.mp hd
  exact (h y hy).lay).shaped
theorem stm_ne {H : Hp} {a p : Addr} {ls : List (Addr × Lt)} (s : Stm H p) (e : H a = some (.lst (lsV ls))) : a ≠ p := fun z => by
  obtain ⟨x, y, h, _⟩ := s
  rw [z, h] at e
  cases ls with
  | nil => cases e
  | cons o ls =>
    injection e with e
    injection e with e
    have : V.int x = V.ref o.1 := (List.cons.inj e).1
    exact nomatch this
theorem ixN_at {n j : Nat} (hj : j < n) : ixN n (j : Int) = some j := by
  unfold ixN
  rw [if_pos (by omega), if_pos (by omega)]
  simp
theorem lsV_app (a b : List (Addr × Lt)) : lsV (a ++ b) = lsV a ++ lsV b := List.map_append
theorem lsV_take (a : List (Addr × Lt)) (n : Nat) : (lsV a).take n = lsV (a.take n) := List.map_take.symm
theorem lsV_drop (a : List (Addr × Lt)) (n : Nat) : (lsV a).drop n = lsV (a.drop n) := List.map_drop.symm
theorem lsV_len (a : List (Addr × Lt)) : (lsV a).length = a.length := List.length_map _
theorem dn_made2 {ok : Addr → Prop} {C x dx : Addr} {H : Hp} {o : HO} {v : V} {d : PyData} (h : Dn ok H v d) (hx : H x = none) (hdx : H dx = none) (fs : List (Str × V)) : Dn (Off x) (upd (upd H dx o) x (.ins C dx fs)) v d :=
  (h.any.off hx).kp ((Kp.upd Kp.refl hdx).updp)
theorem stm_kp {q p : Addr} {H H' : Hp} (s : Stm H p) (k : Kp q H H') (n : p ≠ q) : Stm H' p := by
  obtain ⟨x, y, e, r⟩ := s
  exact ⟨x, y, k _ _ n e, r⟩
/-! ### a dict of counts -/
structure DI (cs : List (L2.Key × V)) (ks : List Str) (f : Str → Int) : Prop where
  keys : cs.map (·.1) = ks.map Sum.inr
  nd : ks.Nodup
  val : ∀ a, valV cs (Sum.inr a) = if a ∈ ks then some (.int (f a)) else none
def cv (ks : List Str) (f : Str → Int) (a : Str) : Int := if a ∈ ks then f a else 0
theorem DI.nil {f : Str → Int} : DI [] [] f := ⟨rfl, List.nodup_nil, fun _ => rfl⟩
theorem DI.len {cs : List (L2.Key × V)} {ks : List Str} {f : Str → Int} (h : DI cs ks f) : cs.length = ks.length := by
  have := congrArg List.length h.keys
  rw [List.length_map, List.length_map] at this
  exact this
theorem DI.getD {cs : List (L2.Key × V)} {ks : List Str} {f : Str → Int} (h : DI cs ks f) (a : Str) : (valV cs (Sum.inr a)).getD (.int 0) = .int (cv ks f a) := by
  rw [h.val]
  unfold cv
  split <;> rfl
theorem DI.has {cs : List (L2.Key × V)} {ks : List Str} {f : Str → Int} (h : DI cs ks f) {a : Str} (m : a ∈ ks) : valV cs (Sum.inr a) = some (.int (f a)) := by
  rw [h.val, if_pos m]
theorem DI.at_ {cs : List (L2.Key × V)} {ks : List Str} {f : Str → Int} (h : DI cs ks f) {i : Nat} {k : L2.Key} {v : V} (e : cs[i]? = some (k, v)) : ∃ a, ks[i]? = some a ∧ k = Sum.inr a := by
  have h1 : (cs.map (·.1))[i]? = some k := by rw [List.getElem?_map, e]; rfl
  rw [h.keys, List.getElem?_map] at h1
  obtain ⟨a, ha, rfl⟩ := Option.map_eq_some_iff.mp h1
  exact ⟨a, ha, rfl⟩
theorem DI.putNew {cs : List (L2.Key × V)} {ks : List Str} {f : Str → Int} (h : DI cs ks f) {a : Str} (n : a ∉ ks) (v : Int) : DI (putK cs (Sum.inr a) (.int v)) (ks ++ [a]) (fun b => if b = a then v else f b) := by
  have hn : valV cs (Sum.inr a) = none := by rw [h.val, if_neg n]
  refine ⟨?_, ?_, fun b => ?_⟩
  · rw [putK_new _ hn, List.map_append, List.map_append, h.keys]
    rfl
  · rw [List.nodup_append]
    refine ⟨h.nd, by simp, fun x hx y hy z => ?_⟩
    rw [List.mem_singleton.mp hy] at z
    exact n (z ▸ hx)
  · rw [valV_put]
    by_cases e : b = a
    · subst e
      rw [if_pos rfl, if_pos (List.mem_append_right _ (List.mem_singleton.mpr rfl)), if_pos rfl]
    · rw [if_neg (fun z => e (Sum.inr.inj z)), h.val, if_neg e]
      by_cases m : b ∈ ks
      · rw [if_pos m, if_pos (List.mem_append_left _ m)]
      · rw [if_neg m, if_neg (fun z => (List.mem_append.mp z).elim m fun z => e (List.mem_singleton.mp z))]
theorem DI.putOld {cs : List (L2.Key × V)} {ks : List Str} {f : Str → Int} (h : DI cs ks f) {a : Str} (n : a ∈ ks) (v : Int) : DI (putK cs (Sum.inr a) (.int v)) ks (fun b => if b = a then v else f b) := by
  have hn : (cs.any fun kv => decide (kv.1 = Sum.inr a)) = true := by rw [valV_any, h.has n]; rfl
  refine ⟨?_, h.nd, fun b => ?_⟩
  · unfold putK
    rw [if_pos hn, List.map_map, ← h.keys]
    refine List.map_congr_left fun kv _ => ?_
    show (if kv.1 = Sum.inr a then (kv.1, V.int v) else kv).1 = kv.1
    split <;> rfl
  · rw [valV_put]
    by_cases e : b = a
    · subst e
      rw [if_pos rfl, if_pos n, if_pos rfl]
    · rw [if_neg (fun z => e (Sum.inr.inj z)), h.val, if_neg e]
theorem DI.put {cs : List (L2.Key × V)} {ks : List Str} {f : Str → Int} (h : DI cs ks f) (a : Str) (v : Int) : ∃ ks', DI (putK cs (Sum.inr a) (.int v)) ks' (fun b => if b = a then v else f b) ∧ a ∈ ks' ∧ (∀ b, b ∈ ks' ↔ b ∈ ks ∨ b = a) ∧ ks'.length ≤ ks.length + 1 := by
  by_cases m : a ∈ ks
  · exact ⟨ks, h.putOld m v, m, fun b => ⟨.inl, fun z => z.elim id fun e => e ▸ m⟩, Nat.le_succ _⟩
  · refine ⟨ks ++ [a], h.putNew m v, List.mem_append_right _ (List.mem_singleton.mpr rfl), fun b => ?_, ?_⟩
    · rw [List.mem_append, List.mem_singleton]
    · rw [List.length_append, List.length_singleton]
      exact Nat.le_refl _
theorem w_din (q : ty σ H fun y H1 => td σ H1 fun x H2 => ∃ a o, x = .ref a ∧ DGet H2 a y o ∧ Q (.bl o.isSome) H2) : tDIn ty td σ H Q := q
theorem w_dnewT (q : ∀ p H2, H p = none → Same H H2 → H2 p = some (.dT []) → Q (.ref p) H2) : tDNewT σ H Q := fun p hp => q p _ hp (Same.upd (Same.refl H) hp) upd_same
theorem w_dnewK (q : ∀ p H2, H p = none → Same H H2 → H2 p = some (.dK []) → Q (.ref p) H2) : tDNewK σ H Q := fun p hp => q p _ hp (Same.upd (Same.refl H) hp) upd_same
theorem dputK {a : Addr} {kvs : List (L2.Key × V)} {k : L2.Key} {v : V} {R : Hp → Prop} (e : H a = some (.dK kvs)) (hl : kvs.length ≤ 100000) (q : ∀ H4, Kp a H H4 → H4 a = some (.dK (putK kvs k v)) → R H4) :
    ∃ a' H4, V.ref a = .ref a' ∧ DPut H a' (kV k) v H4 ∧ R H4 := ⟨a, _, rfl, DPut.k e (Nat.lt_of_le_of_lt hl (by decide)), q _ Kp.refl.updp upd_same⟩
theorem dputT {a b : Addr} {kvs : List (List L2.Key × V)} {k : List L2.Key} {v : V} {R : Hp → Prop} (e : H a = some (.dT kvs)) (eb : H b = some (.tup (k.map kV))) (hl : kvs.length ≤ 100000) (q : ∀ H4, Kp a H H4 → H4 a = some (.dT (putK kvs k v)) → R H4) :
    ∃ a' H4, V.ref a = .ref a' ∧ DPut H a' (.ref b) v H4 ∧ R H4 := ⟨a, _, rfl, .inr ⟨kvs, k, b, e, rfl, eb, Nat.lt_of_le_of_lt hl (by decide), rfl⟩, q _ Kp.refl.updp upd_same⟩
theorem sfldV {x dx : Addr} {fs : List (Str × V)} {f : Str} {y : V} {R : Hp → Prop} (h : H x = some (.ins C dx fs)) (c : Cls K C) (n : NoAttr K C f) (l : fs.length < 1000) (q : ∀ H4, Kp x H H4 → H4 x = some (.ins C dx (putF f y fs)) → R H4) :
    ∃ a C' dx' fs', V.ref x = .ref a ∧ H a = some (.ins C' dx' fs') ∧ Cls K C' ∧ NoAttr K C' f ∧ fs'.length < 1000 ∧ R (upd H a (.ins C' dx' (putF f y fs'))) := ⟨x, C, dx, fs, rfl, h, c, n, l, q _ Kp.refl.updp upd_same⟩
theorem w_sfldAug {ta tv : TE} {rd : V → V → Hp → VK → Prop} {f : Str} (q : ta σ H fun x H1 => ∃ a C dx fs v, x = .ref a ∧ H1 a = some (.ins C dx fs) ∧ Cls K C ∧ NoAttr K C f ∧ fs.lookup f = some v ∧
  tv σ H1 fun y H2 => rd v y H2 fun z H3 => ∃ dx' fs', H3 a = some (.ins C dx' fs') ∧ fs'.length < 1000 ∧ D.nx σ (upd H3 a (.ins C dx' (putF f z fs')))) : sFldAug K ta tv rd f D σ H := q
theorem ite_t {b : Bool} {A B : Prop} (h : b = true) (q : A) : if b = true then A else B := by rw [if_pos h]; exact q
theorem ite_f {b : Bool} {A B : Prop} (h : ¬ b = true) (q : B) : if b = true then A else B := by rw [if_neg h]; exact q
theorem same_made2 {x dx : Addr} {o o' : HO} {G : Hp} (hx : H x = none) (hdx : H dx = none) (k : Kp x (upd (upd H dx o) x o') G) : Same H G :=
  (((Kp.upd Kp.refl hdx).updp (H := H)).trans k).same hx
/-- [letter.value() for letter in ..] -/
theorem lcVals {ws : List Nat} {Qd : Addr → Hp → Prop} {a : Addr} {ls : List (Addr × Lt)} {i : Nat} (ha : H a = some (.lst (lsV ls))) (hok : LsOk Any C H ls) (hl : ls.length ≤ 1000) (hw : ∀ x, wipe ((wipe σ ws).set i (some x)) ws = wipe σ ws) (hi : ∀ x, ((wipe σ ws).set i (some x))[i]? = some (some x))
    (q : ∀ D ts H1, H D = none → Same H H1 → H1 D = some (.lst ts) → DnAll Any H1 ts (ls.map fun y => valD y.2) → Qd D H1) :
    ∀ D, H D = none → ∃ W : Nat → Nat → Hp → Prop, (∃ m, W 0 m (upd H D (.lst []))) ∧ ∀ i' m H, W i' m H →
  ((Itl K a).stop i' H ∧ Qd D H) ∨ ((Itl K a).go i' H ∧ ∃ Nx : Hp → Prop, (∀ H', Nx H' → ∃ m', m' < m ∧ W (i' + 1) m' H') ∧ ∀ x H', (Itl K a).yld i' H x H' → gName i x (wipe σ ws) H' fun σ2 H2 => wipe σ2 ws = wipe σ ws ∧ tYes σ2 H2 fun b H3 =>
    if b = true then tMeth C (Str.ofString "value") (spValue K C) [] C8.E0 (tVar i) tNil σ2 H3 fun y H4 => ∃ acc, H4 D = some (.lst acc) ∧ acc.length < sizeLine ∧ Nx (upd H4 D (.lst (acc ++ [y]))) else Nx H3) := by
  intro D hD
  refine lc_it (walk_list (xs := lsV ls)) (fun k G => Same H G ∧ ∃ ts, G D = some (.lst ts) ∧ ts.length ≤ k ∧ DnAll Any G ts ((ls.take k).map fun y => valD y.2)) ⟨Same.upd (Same.refl H) hD, [], upd_same, Nat.le_refl _, .nil⟩ (fun k G _ s => SqL.of (s.1 _ _ ha)) ?_ ?_
  · rintro k x G G' hk ⟨s, ts, eD, hts, dts⟩ ⟨rfl, hx⟩
    rw [List.getElem?_map] at hx
    obtain ⟨y, hy, rfl⟩ := Option.map_eq_some_iff.mp hx
    have hy' := hok.get hy
    obtain ⟨dx, d, sv, bv, hyx, _⟩ := id hy'.1
    rw [lsV_len] at hk
    refine w_name ⟨hw _, w_yes (iteT_ (w_methV (hi _) (s _ _ hyx) lfs_value (w_nil ⟨y.1, y.2, rfl, hy'.1.same s, fun v G2 s2 dv => ⟨ts, s2 _ _ eD, ?_, ?_, _, upd_same, ?_, ?_⟩⟩)))⟩
    · exact Nat.lt_of_le_of_lt (show ts.length ≤ 1000 by omega) (by decide)
    · exact fun b o e2 => by
        rw [upd_ne (ne_of_none e2 hD)]
        exact s2 _ _ (s _ _ e2)
    · rw [List.length_append, List.length_singleton]
      omega
    · have tk : Tk G2 (upd G2 D (.lst (ts ++ [v]))) := Tk.kpL Kp.refl.updp (s2 _ _ eD)
      rw [List.take_add_one, hy, Option.toList_some, List.map_append]
      refine DnAll.app (dnall_tk tk (plainAll_of fun d hd => ?_) (dts.same s2)) (.cons (dn_tk tk hy'.2.plain dv) .nil)
      obtain ⟨o, ho, rfl⟩ := List.mem_map.mp hd
      exact (hok o (List.mem_of_mem_take ho)).2.plain
  · rintro G ⟨s, ts, eD, hts, dts⟩
    rw [lsV_len, List.take_length] at dts
    exact q D ts G hD s eD dts
theorem lcLs {ws : List Nat} {Qd : Addr → Hp → Prop} {a : Addr} {ls : List (Addr × Lt)} {i : Nat} (p : Addr × Lt → Bool) (hS : ∀ H1, Same H H1 → SqL K H1 a (lsV ls)) (hl : ls.length ≤ 1000) (hw : ∀ x, wipe ((wipe σ ws).set i (some x)) ws = wipe σ ws) (hi : ∀ x, ((wipe σ ws).set i (some x))[i]? = some (some x))
    (ht : ∀ y ∈ ls, ∀ H1, Same H H1 → ∀ R : Bool → Hp → Prop, (∀ H2, Same H1 H2 → R (p y) H2) → tt ((wipe σ ws).set i (some (.ref y.1))) H1 R)
    (q : ∀ D H1, H D = none → Same H H1 → H1 D = some (.lst (lsV (ls.filter p))) → Qd D H1) :
    ∀ D, H D = none → ∃ W : Nat → Nat → Hp → Prop, (∃ m, W 0 m (upd H D (.lst []))) ∧ ∀ i' m H, W i' m H →
  ((Itl K a).stop i' H ∧ Qd D H) ∨ ((Itl K a).go i' H ∧ ∃ Nx : Hp → Prop, (∀ H', Nx H' → ∃ m', m' < m ∧ W (i' + 1) m' H') ∧ ∀ x H', (Itl K a).yld i' H x H' → gName i x (wipe σ ws) H' fun σ2 H2 => wipe σ2 ws = wipe σ ws ∧ tt σ2 H2 fun b H3 =>
    if b = true then tVar i σ2 H3 fun y H4 => ∃ acc, H4 D = some (.lst acc) ∧ acc.length < sizeLine ∧ Nx (upd H4 D (.lst (acc ++ [y]))) else Nx H3) := by
  intro D hD
  refine lc_it (walk_list (xs := lsV ls)) (fun k G => Same H G ∧ G D = some (.lst (lsV ((ls.take k).filter p)))) ⟨Same.upd (Same.refl H) hD, upd_same⟩ (fun k G _ s => hS _ s.1) ?_ ?_
  · rintro k x G G' hk ⟨s, e⟩ ⟨rfl, hx⟩
    rw [List.getElem?_map] at hx
    obtain ⟨y, hy, rfl⟩ := Option.map_eq_some_iff.mp hx
    refine w_name ⟨hw _, ht y (List.mem_of_getElem? hy) _ s _ fun H2 s2 => ?_⟩
    have et : ls.take (k + 1) = ls.take k ++ [y] := by rw [List.take_add_one, hy]; rfl
    cases hp : p y with
    | true =>
      refine ite_t rfl (w_var (hi _) ⟨_, s2 _ _ e, ?_, ?_, ?_⟩)
      · rw [List.length_map]
        have h1 := List.length_filter_le p (ls.take k)
        have h2 : (ls.take k).length ≤ ls.length := by rw [List.length_take]; omega
        exact Nat.lt_of_le_of_lt (show _ ≤ 1000 by omega) (by decide)
      · exact fun b o e2 => by
          rw [upd_ne (ne_of_none e2 hD)]
          exact s2 _ _ (s _ _ e2)
      · rw [upd_same, et, List.filter_append, List.filter_cons_of_pos hp, List.filter_nil]
        unfold lsV
        rw [List.map_append]
        rfl
    | false =>
      refine ite_f (by decide) ⟨s.trans s2, ?_⟩
      rw [et, List.filter_append, List.filter_cons_of_neg (by simp [hp]), List.filter_nil, List.append_nil]
      exact s2 _ _ e
  · rintro G ⟨s, e⟩
    rw [show (lsV ls).length = ls.length from List.length_map _, List.take_length] at e
    exact q D G hD s e
end

/-! ### people -/
def NAMES8 : List Str := ["an", "ann", "anna", "ann2", "b", "b7", "hugohugohugo", "h0"]
theorem ascii_of (z : String) : ascii (Str.ofString z) = true := by
  unfold ascii
  rw [List.all_eq_true]
  intro c hc
  have h : c ∈ z.toList.map fun x => x.toNat := by rw [Str.ofString_eq_toList] at hc; simpa using hc
  obtain ⟨x, _, rfl⟩ := List.mem_map.mp h
  have := x.valid
  exact decide_eq_true (by rcases this with h | ⟨_, h⟩ <;> (have e : x.toNat = x.val.toNat := rfl; omega))
theorem tl_app (a b : Str) : (a ++ b).cps.toList = a.cps.toList ++ b.cps.toList := TL.tl_append a b
theorem ascii_app {a b : Str} (h : ascii a = true) (h' : ascii b = true) : ascii (a ++ b) = true := by
  unfold ascii at h h' ⊢
  rw [tl_app, List.all_append, h, h']
  rfl
theorem names8_ascii : ∀ z ∈ NAMES8, ascii z = true := by decide
def spPeople (K : PySem.W.Frag) : Sp := fun vs H Q _ => ∃ (p : Addr) (n : Int), vs = [.ref p, .int n] ∧ Stm H p ∧ 0 ≤ n ∧ n ≤ 2 ∧
  ∀ a (ps : List Str) H', H a = none → Kp p H H' → Stm H' p → H' a = some (.lst (ps.map V.str)) → (∀ x ∈ ps, x ∈ NAMES8) → n ≤ ps.length → ps.length ≤ 8 → Q (.ref a) H'
section
variable {K : PySem.W.Frag} {vs : List V} {H : Hp} {Q : VK} {E : XK}
end

/-! ### texts and bodies that the laws of boards draw -/
theorem str_len (z : Str) : z.length = z.cps.toList.length := by simp [Str.length]
theorem cutS_to {z : Str} {i : Int} (h : 0 ≤ i) : (cutS z none (some i)).cps.toList = z.cps.toList.take i.toNat := by
  obtain ⟨j, rfl⟩ := Int.eq_ofNat_of_zero_le h
  show (z.cps.toList.drop (HT.sIx z.length 0 none)).take (HT.sIx z.length z.length (some (j : Int)) - HT.sIx z.length 0 none) = _
  rw [HT.sIx_none, HT.sIx_nat, Nat.sub_zero, List.drop_zero, Int.toNat_natCast, str_len]
  by_cases hj : j ≤ z.cps.toList.length
  · rw [Nat.min_eq_left hj]
  · rw [Nat.min_eq_right (by omega), List.take_of_length_le (Nat.le_refl _), List.take_of_length_le (by omega)]
theorem foldl_all (p : Nat → Bool) : ∀ (l : List (Array Nat)) (a : Array Nat), a.toList.all p = true → (∀ x ∈ l, x.toList.all p = true) → (l.foldl (· ++ ·) a).toList.all p = true
  | [], a, h, _ => h
  | x :: l, a, h, hl => by
    rw [List.foldl_cons]
    refine foldl_all p l _ ?_ fun y hy => hl y (List.mem_cons_of_mem _ hy)
    rw [Array.toList_append, List.all_append, h, hl x (List.mem_cons_self ..)]
    rfl
theorem ascii_mul {z : Str} (n : Int) (h : ascii z = true) : ascii (Txt.mul z n) = true := by
  unfold Txt.mul
  by_cases h1 : n < 1
  · rw [if_pos h1]
    rfl
  · rw [if_neg h1]
    by_cases h2 : (n == 1 || z.length == 0) = true
    · rw [if_pos h2]
      exact h
    · rw [if_neg h2]
      exact foldl_all _ _ _ rfl fun x hx => by
        rw [List.eq_of_mem_replicate hx]
        exact h
theorem ascii_cut {z : Str} {i : Nat} (h : ascii z = true) : ascii (cutS z none (some (i : Int))) = true := by
  unfold ascii at h ⊢
  rw [cutS_to (by omega), List.all_eq_true]
  rw [List.all_eq_true] at h
  exact fun c hc => h c (List.mem_of_mem_take hc)
theorem ascii_join {a : Str} (h : ascii a = true) : ∀ {ys : List Str}, (∀ y ∈ ys, ascii y = true) → ascii (Txt.join a ys) = true := by
  intro ys hy
  rw [join_eq]
  induction ys with
  | nil => rfl
  | cons y ys ih =>
    cases ys with
    | nil => exact hy y (List.mem_cons_self ..)
    | cons z ys => exact ascii_app (ascii_app (hy y (List.mem_cons_self ..)) h) (ih fun w hw => hy w (List.mem_cons_of_mem _ hw))
/-- a short text -/
abbrev shortD : PyData → Prop := fun d => ∃ z : Str, d = .str z ∧ ascii z = true ∧ z.length ≤ 12
/-- the bodies that the laws of boards draw -/
inductive Bb where
  | say (t : Str)
  | reply (a : Str) (n : Int) (t : Str)
  | edit (a : Str) (n : Int) (t : Str)
  | recall (a : Str) (n : Int)
  | mark (a : Str) (n : Int) (w : Str)
  | title (t : Str)
  | act (k nm : Str) (h : k = Str.ofString "add" ∨ k = Str.ofString "cut" ∨ k = Str.ofString "hand")
  | seen
  | found (t : Str) (ds : List PyData)
def Bb.kind : Bb → Str
  | .say _ => Str.ofString "say"
  | .reply _ _ _ => Str.ofString "reply"
  | .edit _ _ _ => Str.ofString "edit"
  | .recall _ _ => Str.ofString "recall"
  | .mark _ _ _ => Str.ofString "mark"
  | .title _ => Str.ofString "title"
  | .act k _ _ => k
  | .seen => Str.ofString "seen"
  | .found _ _ => Str.ofString "found"
def Bb.rest : Bb → List PyData
  | .say t => [.str t]
  | .reply a n t => [.tuple [.str a, .int n], .str t]
  | .edit a n t => [.tuple [.str a, .int n], .str t]
  | .recall a n => [.tuple [.str a, .int n]]
  | .mark a n w => [.tuple [.str a, .int n], .str w]
  | .title t => [.str t]
  | .act _ nm _ => [.str nm]
  | .seen => []
  | .found t ds => [.str t, .tuple ds]
def Bb.toD (b : Bb) : PyData := .tuple (.str b.kind :: b.rest)
structure BodyOk (b : PyData) : Prop where
  lay : Lay 3 b
  pl : plainB b = true
  sh : ∃ k ds, b = .tuple (.str k :: ds) ∧ ((k = Str.ofString "say" ∧ ∃ t, ds = [.str t] ∧ t.length ≤ 400) ∨ (k = Str.ofString "reply" ∧ ∃ r t, ds = [r, .str t] ∧ t.length ≤ 400) ∨ (k ≠ Str.ofString "say" ∧ k ≠ Str.ofString "reply"))
  bb : ∃ B : Bb, b = B.toD
def spLWord (K : PySem.W.Frag) : Sp := fun vs H Q _ => ∃ p, vs = [.ref p] ∧ Stm H p ∧ ∀ (z : Str) H', Kp p H H' → Stm H' p → z.length ≤ 4 → ascii z = true → Q (.str z) H'
def PeopleAt (H : Hp) (pa : Addr) (ps : List Str) : Prop := H pa = some (.lst (ps.map V.str)) ∧ 1 ≤ ps.length ∧ ps.length ≤ 20 ∧ ∀ x ∈ ps, ascii x = true ∧ x.length ≤ 12
def spLText (K : PySem.W.Frag) : Sp := fun vs H Q _ => ∃ (pa p : Addr) (ps : List Str), vs = [.ref pa, .ref p] ∧ Stm H p ∧ PeopleAt H pa ps ∧ ∀ (z : Str) H', Kp p H H' → Stm H' p → z.length ≤ 400 → ascii z = true → Q (.str z) H'
def spLRef (K : PySem.W.Frag) (C : Addr) : Sp := fun vs H Q _ => ∃ (l pa p : Addr) (ls : List (Addr × Lt)) (ps : List Str), vs = [.ref l, .ref pa, .ref p] ∧ Stm H p ∧ PeopleAt H pa ps ∧ H l = some (.lst (lsV ls)) ∧ LsOk Any C H ls ∧ ls.length ≤ 100 ∧
  ∀ t (a : Str) (n : Int) H', Kp p H H' → Stm H' p → H' t = some (.tup [.str a, .int n]) → ascii a = true → Q (.ref t) H'
def spLBody (K : PySem.W.Frag) (C : Addr) : Sp := fun vs H Q _ => ∃ (l pa p : Addr) (ls : List (Addr × Lt)) (ps : List Str), vs = [.ref l, .ref pa, .ref p] ∧ Stm H p ∧ PeopleAt H pa ps ∧ H l = some (.lst (lsV ls)) ∧ LsOk Any C H ls ∧ ls.length ≤ 100 ∧
  ∀ v b H', Kp p H H' → Stm H' p → Dn Any H' v b → BodyOk b → Q v H'
theorem stm_neS {H : Hp} {a p : Addr} {ps : List Str} (s : Stm H p) (e : H a = some (.lst (ps.map V.str))) : a ≠ p := fun z => by
  obtain ⟨x, y, h, _⟩ := s
  rw [z, h] at e
  cases ps with
  | nil => cases e
  | cons o ls =>
    injection e with e
    injection e with e
    have : V.int x = V.str o := (List.cons.inj e).1
    exact nomatch this
theorem PeopleAt.kp {H H' : Hp} {pa p : Addr} {ps : List Str} (h : PeopleAt H pa ps) (s : Stm H p) (k : Kp p H H') : PeopleAt H' pa ps := ⟨k _ _ (stm_neS s h.1) h.1, h.2⟩
theorem PeopleAt.same {H H' : Hp} {pa : Addr} {ps : List Str} (h : PeopleAt H pa ps) (s : Same H H') : PeopleAt H' pa ps := ⟨s _ _ h.1, h.2⟩
def SIG62 : Str := "abcdefghijklmnopqrstuvwxyzABCDEFGHIJKLMNOPQRSTUVWXYZ0123456789"
structure PartsAt (H G : Hp) (p P : Addr) (zs : List Str) : Prop where
  kp : Kp p H G
  st : Stm G p
  hp : G P = some (.lst (zs.map V.str))
  al : ∀ z ∈ zs, ascii z = true ∧ z.length ≤ 13
theorem PartsAt.draw {H G G' : Hp} {p P : Addr} {zs : List Str} (x : PartsAt H G p P zs) (n : P ≠ p) (k : Kp p G G') (s : Stm G' p) : PartsAt H G' p P zs := ⟨x.kp.trans k, s, k _ _ n x.hp, x.al⟩
theorem PartsAt.put {H G : Hp} {p P : Addr} {zs : List Str} {z : Str} {R : Hp → Prop} (x : PartsAt H G p P zs) (f : H P = none) (n : P ≠ p) (l : zs.length ≤ 100) (za : ascii z = true) (zl : z.length ≤ 13) (r : ∀ G', PartsAt H G' p P (zs ++ [z]) → R G') : rAppend (.ref P) [.str z] G (fun _ G' => R G') := by
  refine w_appV x.hp (by rw [List.length_map]; omega) fun G' k e => r G' ⟨fun b o nb e => k _ _ (ne_of_none e f) (x.kp _ _ nb e), stm_kp x.st k n.symm, by rw [e, List.map_append]; rfl, fun y hy => ?_⟩
  rcases List.mem_append.mp hy with hy | hy
  · exact x.al y hy
  · rw [List.mem_singleton.mp hy]
    exact ⟨za, zl⟩
section
variable {K : PySem.W.Frag} {C : Addr} {vs : List V} {H : Hp} {Q : VK} {E : XK}
theorem short_of {p : Addr} {σ : L2.St} {z : Str} (h : (ascii z && decide (z.length ≤ 12)) = true) : EvS p (tC (.str z)) σ H shortD := evs_str ⟨z, rfl, by
  rw [Bool.and_eq_true] at h
  exact ⟨h.1, of_decide_eq_true h.2⟩⟩
end

/-! ### lists of data in their order -/
def leD (a b : PyData) : Bool := PySem.W.dataLe false (fun d : PyData => d) a b
def srtD (ds : List PyData) : List PyData := ds.mergeSort leD
theorem leD_total : PySem.W.TotalLe leD := PySem.W.sortLe_total (PyProof.Rows.listOrd PyProof.Rows.itemOrd) false PySem.W.keyToks
theorem leD_eq (a b : PyData) : leD a b = !PySem.W.dataLt b a := rfl
theorem srtW_data (bs : List (V × PyData)) : (srtW bs).map (·.2) = srtD (bs.map (·.2)) := PySem.W.sort_maps _ fun _ _ _ _ => rfl
theorem srtW_perm (bs : List (V × PyData)) : (srtW bs).Perm bs := List.mergeSort_perm _ _
theorem leD_anti {a b : PyData} (hal : PySem.W.alike a b = true) (ha : plainB a = true) (hb : plainB b = true) (h1 : leD a b = true) (h2 : leD b a = true) : a = b := by
  rw [leD_eq, Bool.not_eq_true'] at h1 h2
  have ht := PyProof.Rows.lex_total (O := PyProof.Rows.itemOrd) _ _ h2 h1
  refine eqv_plain ha hb ?_
  cases e : PyData.eqv a b with
  | true => rfl
  | false =>
    have h3 := (PySem.W.toks_eqv a b hal).2 e [.inl 0] [.inl 1]
    rw [ht, PySem.W.lex_pre] at h3
    have h4 : PyProof.Rows.lexLt PyProof.Rows.itemOrd (PySem.W.keyToks b) (PySem.W.keyToks b) = false := PyProof.Rows.lex_irrefl _
    rw [h4] at h3
    exact absurd h3 (by decide)
theorem pw_unique {α : Type} {le : α → α → Prop} : ∀ {l m : List α}, l.Perm m → (∀ a ∈ l, ∀ b ∈ l, le a b → le b a → a = b) → l.Pairwise le → m.Pairwise le → l = m
  | [], m, h, _, _, _ => h.symm.eq_nil.symm
  | a :: l, [], h, _, _, _ => h.eq_nil
  | a :: l, b :: m, h, anti, hl, hm => by
    rw [List.pairwise_cons] at hl hm
    have hb : b ∈ a :: l := h.mem_iff.mpr (List.mem_cons_self ..)
    have ha : a ∈ b :: m := h.mem_iff.mp (List.mem_cons_self ..)
    have e : a = b := by
      rcases List.mem_cons.mp hb with e | hb'
      · exact e.symm
      · rcases List.mem_cons.mp ha with e | ha'
        · exact e
        · exact anti a (List.mem_cons_self ..) b hb (hl.1 b hb') (hm.1 a ha')
    subst e
    rw [pw_unique h.cons_inv (fun x hx y hy => anti x (List.mem_cons_of_mem _ hx) y (List.mem_cons_of_mem _ hy)) hl.2 hm.2]
/-- data of one shape -/
structure Alk (ds : List PyData) : Prop where
  al : PySem.W.AllAlike ds
  pl : ∀ d ∈ ds, plainB d = true
theorem srtD_unique {l m : List PyData} (h : Alk m) (p : l.Perm m) (s : l.Pairwise fun a b => leD a b = true) : srtD m = l := by
  refine pw_unique ((List.mergeSort_perm m leD).trans p.symm) (fun a ha b hb h1 h2 => ?_) (PySem.W.sort_pairwise leD_total m) s
  have ha' := (List.mergeSort_perm m leD).mem_iff.mp ha
  have hb' := (List.mergeSort_perm m leD).mem_iff.mp hb
  exact leD_anti (h.al a ha' b hb') (h.pl a ha') (h.pl b hb') h1 h2
theorem srtD_app {l ext m : List PyData} (h : Alk m) (p : (l ++ ext).Perm m) (hlt : ∀ a ∈ l, ∀ b ∈ ext, PySem.W.dataLt b a = false) : srtD m = srtD l ++ srtD ext := by
  refine srtD_unique h (((List.mergeSort_perm l leD).append (List.mergeSort_perm ext leD)).trans p) ?_
  rw [List.pairwise_append]
  refine ⟨PySem.W.sort_pairwise leD_total l, PySem.W.sort_pairwise leD_total ext, fun a ha b hb => ?_⟩
  rw [leD_eq, hlt a ((List.mergeSort_perm l leD).mem_iff.mp ha) b ((List.mergeSort_perm ext leD).mem_iff.mp hb)]
  rfl
/-- tuples whose first items are unlike numbers -/
theorem lt_first {s s' : Int} {r r' : List PyData} (h : s < s') : PySem.W.dataLt (.tuple (.int s' :: r')) (.tuple (.int s :: r)) = false := by
  rw [PySem.W.dataLt_tuple, PySem.W.dataLt_cons (by simp [PySem.W.alike]), if_neg, PySem.W.dataLt_int]
  · exact decide_eq_false (by omega)
  · rw [PyData.eqv, beq_iff_eq]
    omega
theorem srtD_len (ds : List PyData) : (srtD ds).length = ds.length := List.length_mergeSort _
theorem dnAll_take {ok : Addr → Prop} {H : Hp} : ∀ {vs : List V} {ds : List PyData}, DnAll ok H vs ds → ∀ n, DnAll ok H (vs.take n) (ds.take n)
  | _, _, .nil, n => by
    rw [List.take_nil, List.take_nil]
    exact .nil
  | _, _, .cons _ _, 0 => .nil
  | _, _, .cons h hs, n + 1 => .cons h (dnAll_take hs n)
theorem dnAll_zip {ok : Addr → Prop} {H : Hp} : ∀ {vs : List V} {ds : List PyData}, DnAll ok H vs ds → ∀ b ∈ vs.zip ds, Dn ok H b.1 b.2
  | _, _, .nil, b, hb => nomatch hb
  | _, _, .cons h hs, b, hb => by
    rw [List.zip_cons_cons] at hb
    rcases List.mem_cons.mp hb with rfl | hb
    · exact h
    · exact dnAll_zip hs b hb
theorem dnAll_ofZip {ok : Addr → Prop} {H : Hp} : ∀ {bs : List (V × PyData)}, (∀ b ∈ bs, Dn ok H b.1 b.2) → DnAll ok H (bs.map (·.1)) (bs.map (·.2))
  | [], _ => .nil
  | b :: bs, h => .cons (h b (List.mem_cons_self ..)) (dnAll_ofZip fun c hc => h c (List.mem_cons_of_mem _ hc))
theorem zip_fst {vs : List V} {ds : List PyData} (h : vs.length = ds.length) : (vs.zip ds).map (·.1) = vs := List.map_fst_zip (by omega)
theorem zip_snd {vs : List V} {ds : List PyData} (h : vs.length = ds.length) : (vs.zip ds).map (·.2) = ds := List.map_snd_zip (by omega)
mutual
theorem noDict_pl : ∀ {d : PyData}, plainB d = true → noDict d = true
  | .int _, _ => rfl
  | .str _, _ => rfl
  | .tuple ds, h => noDicts_pl (ds := ds) (by rw [plainB] at h; exact h)
theorem noDicts_pl : ∀ {ds : List PyData}, plainAll ds = true → noDicts ds = true
  | [], _ => rfl
  | d :: ds, h => by
    rw [plainAll, Bool.and_eq_true] at h
    show (noDict d && noDicts ds) = true
    rw [noDict_pl h.1, noDicts_pl h.2]
    rfl
end
section
variable {K : PySem.W.Frag} {H : Hp} {Q : VK}
/-- sorted(a list of data) -/
theorem w_sortedDs {a : Addr} {vs : List V} {ds : List PyData} (h : H a = some (.lst vs)) (hd : DnAll Any H vs ds) (hal : Alk ds) (hk : PySem.W.Sortable ds) (hL : ds.length ≤ 100000) (hdep : ∀ d ∈ ds, d.depth ≤ 60)
    (q : ∀ p ws H2, H p = none → Same H H2 → H2 p = some (.lst ws) → DnAll Any H2 ws (srtD ds) → Q (.ref p) H2) : rSortedW K [.ref a] H Q := by
  have hl := hd.len
  have hz := dnAll_zip hd
  have h1 := zip_fst hl
  have h2 := zip_snd hl
  have hm : ∀ b ∈ vs.zip ds, b.2 ∈ ds := fun b hb => by
    rw [← h2]
    exact List.mem_map_of_mem hb
  refine w_sortedW (bs := vs.zip ds) (by rw [h1]; exact h) (fun b hb => dn_dp (noDict_pl (hal.pl b.2 (hm b hb))) (hz b hb)) (by rw [h2]; exact hal.al) (by rw [h2]; exact hk) (by rw [List.length_zip]; omega) (fun b hb => hdep b.2 (hm b hb)) fun p H2 f s e => ?_
  refine q p _ H2 f s e ?_
  have h3 : DnAll Any H2 ((srtW (vs.zip ds)).map (·.1)) ((srtW (vs.zip ds)).map (·.2)) := dnAll_ofZip fun b hb => (hz b ((srtW_perm _).mem_iff.mp hb)).same s
  rw [srtW_data, h2] at h3
  exact h3
end

/-! ### letters by their keys -/
def byKey (ls : List (Addr × Lt)) : List (Addr × Lt) := ls.mergeSort (PySem.W.dataLe false fun y => keyD y.2)
theorem byKey_perm (ls : List (Addr × Lt)) : (byKey ls).Perm ls := List.mergeSort_perm _ _
theorem byKey_len (ls : List (Addr × Lt)) : (byKey ls).length = ls.length := List.length_mergeSort _
theorem byKey_srt (ls : List (Addr × Lt)) : (srtK (ls.map fun y => (y.1, y.2.s, y.2.a))).map (fun b => V.ref b.1) = lsV (byKey ls) := by
  unfold srtK byKey lsV
  rw [← PySem.W.sort_maps (r := PySem.W.dataLe false fun y : Addr × Lt => keyD y.2) (fun y : Addr × Lt => (y.1, y.2.s, y.2.a)) (fun _ _ _ _ => rfl), List.map_map]
  rfl
def spByKey (K : PySem.W.Frag) (CL P : Addr) : Sp := fun vs H Q _ => ∃ (l : Addr) (ls : List (Addr × Lt)), vs = [.ref l] ∧ SqL K H l (lsV ls) ∧ LsOk Any CL H ls ∧ ls.length ≤ 100000 ∧ LamX.TabS H P "by_key.<locals>.<lambda>" ∧
  ∀ p H2, p ≠ P → (∀ b o, H b = some o → (∀ ps, o ≠ .tbl ps) → b ≠ p) → LamX.ExtN H H2 → LamX.TabS H2 P "by_key.<locals>.<lambda>" → H2 p = some (.lst (lsV (byKey ls))) → Q (.ref p) H2
theorem Fm.ext {ok : Addr → Prop} {H H' : Hp} (e : LamX.ExtN H H') : Fm ok H H' := ⟨fun b xs h => e b _ h fun _ z => (by cases z), fun b C dx fs h => e b _ h fun _ z => (by cases z), fun b kvs h _ => e b _ h fun _ z => (by cases z)⟩
section
variable {K : PySem.W.Frag} {C CL P_by_key : Addr} {vs : List V} {H : Hp} {Q : VK} {E : XK} {σ : L2.St} {D : Ends}
/-- by_key: slots 0:letters -/
def t_by_key (K : PySem.W.Frag) (C_Letter : Addr) (P_by_key : Addr) : TS := (tRet (Wp.tSortBy K P_by_key "by_key.<locals>.<lambda>" "stamp" "author" (tVar 0)))
theorem l_by_key (h : spByKey K CL P_by_key vs H Q E) : vs.length = 1 := by obtain ⟨l, ls, rfl, _⟩ := h; rfl
theorem r_by_key (LC : IsC_Letter K CL) (h : spByKey K CL P_by_key vs H Q E) : t_by_key K CL P_by_key { nx := fun _ H' => Q .non H', rt := Q } (start ["letters"] vs) H := by
  obtain ⟨l, ls, rfl, hl, hok, hlen, hT, q⟩ := h
  unfold t_by_key
  refine w_ret (w_var rfl ⟨l, ls.map fun y => (y.1, y.2.s, y.2.a), rfl, ?_, by rw [List.length_map]; exact hlen, fun b hb => ?_, hT, fun p H2 n1 n2 e T2 e2 => q p H2 n1 n2 e T2 (by rw [e2, byKey_srt])⟩)
  · rw [List.map_map]
    exact hl
  · obtain ⟨y, hy, rfl⟩ := List.mem_map.mp hb
    obtain ⟨dx, d, sv, bv, hx, _⟩ := (hok y hy).1
    exact ⟨CL, dx, _, hx, LC.cl, LC.n_stamp, LC.n_author, lfs_stamp, lfs_author⟩
end

/-! ### letters by their keys: the law -/
def spDrawn (K : PySem.W.Frag) (C : Addr) : Sp := fun vs H Q _ => ∃ (p : Addr) (k : Int), vs = [.ref p, .int k] ∧ Stm H p ∧ 0 ≤ k ∧ k ≤ 100 ∧ ∀ x L H', Kp p H H' → Stm H' p → LtAt Any C H' x L → Wf L → Q (.ref x) H'
def spDue (K : PySem.W.Frag) (C : Addr) : Sp := fun vs H Q _ => ∃ (l : Addr) (ls : List (Addr × Lt)), vs = [.ref l] ∧ H l = some (.lst (lsV ls)) ∧ LsOk Any C H ls ∧ ls.length ≤ 100 ∧ ∀ p ts H', H p = none → Same H H' → H' p = some (.lst ts) → DnAll Any H' ts ((byKey ls).map fun y => valD y.2) → Q (.ref p) H'
def spLaw (K : PySem.W.Frag) (P : Addr) : Sp := fun vs H Q _ => ∃ (a : Addr) (ns : List Int), vs = [.ref a] ∧ SqL K H a (ns.map V.int) ∧ ns.length ≤ 63 ∧ LamX.TabS H P "by_key.<locals>.<lambda>" ∧ ∀ H', Q (.bl true) H'
abbrev Et := (Addr × Lt) × Nat
def rowK (e : Et) : PyData := .tuple [.int e.1.2.s, .str e.1.2.a, .int (e.2 : Int)]
theorem lt_rowK (a b : Et) : PySem.W.dataLt (rowK b) (rowK a) = if PyData.eqv (.int b.1.2.s) (.int a.1.2.s) = true then (if PyData.eqv (.str b.1.2.a) (.str a.1.2.a) = true then (if PyData.eqv (.int (b.2 : Int)) (.int (a.2 : Int)) = true then false else decide ((b.2 : Int) < (a.2 : Int))) else PySem.W.dataLt (.str b.1.2.a) (.str a.1.2.a)) else PySem.W.dataLt (.int b.1.2.s) (.int a.1.2.s) := by
  unfold rowK
  rw [PySem.W.dataLt_tuple, PySem.W.dataLt_cons (by simp [PySem.W.alike]), PySem.W.dataLt_cons (by simp [PySem.W.alike]), PySem.W.dataLt_cons (by simp [PySem.W.alike]), PySem.W.dataLt_int (x := (b.2 : Int))]
  have e : PyProof.Rows.lexLt PyProof.Rows.itemOrd (PySem.W.keyToksAll []) (PySem.W.keyToksAll []) = false := PyProof.Rows.lex_irrefl _
  rw [e]
theorem lt_keyK (a b : Et) : PySem.W.dataLt (keyD b.1.2) (keyD a.1.2) = if PyData.eqv (.int b.1.2.s) (.int a.1.2.s) = true then (if PyData.eqv (.str b.1.2.a) (.str a.1.2.a) = true then false else PySem.W.dataLt (.str b.1.2.a) (.str a.1.2.a)) else PySem.W.dataLt (.int b.1.2.s) (.int a.1.2.s) :=
  PySem.W.dataLt_pair (by simp [PySem.W.alike]) (by simp [PySem.W.alike])
def leR (a b : Et) : Bool := leD (rowK a) (rowK b)
def leK (a b : Et) : Bool := leD (keyD a.1.2) (keyD b.1.2)
theorem leR_leK {a b : Et} (h : leR a b = true) : leK a b = true := by
  unfold leR at h
  unfold leK
  rw [leD_eq, Bool.not_eq_true'] at h ⊢
  rw [lt_rowK] at h
  rw [lt_keyK]
  split at h
  · rename_i h1
    rw [if_pos h1]
    split at h
    · rename_i h2
      rw [if_pos h2]
    · rename_i h2
      rw [if_neg h2]
      exact h
  · rename_i h1
    rw [if_neg h1]
    exact h
theorem leR_ix {a b : Et} (h : leR a b = true) (e : keyD a.1.2 = keyD b.1.2) : a.2 ≤ b.2 := by
  have e1 := List.cons.inj (PyData.tuple.inj e)
  have es := PyData.int.inj e1.1
  have ea := PyData.str.inj (List.cons.inj e1.2).1
  unfold leR at h
  rw [leD_eq, Bool.not_eq_true', lt_rowK, es, ea, if_pos (by simp [PyData.eqv]), if_pos (by simp [PyData.eqv])] at h
  by_cases hk : PyData.eqv (.int (b.2 : Int)) (.int (a.2 : Int)) = true
  · rw [PyData.eqv, beq_iff_eq] at hk
    omega
  · rw [if_neg hk] at h
    have := of_decide_eq_false h
    omega
theorem leK_total : PySem.W.TotalLe leK := PySem.W.sortLe_total (PyProof.Rows.listOrd PyProof.Rows.itemOrd) false fun e : Et => PySem.W.keyToks (keyD e.1.2)
theorem leR_total : PySem.W.TotalLe leR := PySem.W.sortLe_total (PyProof.Rows.listOrd PyProof.Rows.itemOrd) false fun e : Et => PySem.W.keyToks (rowK e)
theorem keyD_alike (L M : Lt) : PySem.W.alike (keyD L) (keyD M) = true := by simp [keyD, PySem.W.alike, PySem.W.alikeAll]
/-- sorted by key and place is sorted by key, equal keys as they stood -/
theorem stable (ls : List (Addr × Lt)) : ls.zipIdx.mergeSort leR = ls.zipIdx.mergeSort leK := by
  refine PySem.W.sort_unique leK_total ((PySem.W.sort_pairwise leR_total _).imp fun h => leR_leK h) fun c => ?_
  have perm := (List.mergeSort_perm ls.zipIdx leR).filter (PySem.W.sameRank leK c)
  have hkey : ∀ a, PySem.W.sameRank leK c a = true → keyD a.1.2 = keyD c.1.2 := fun a h => by
    have h : (leK c a && leK a c) = true := h
    rw [Bool.and_eq_true] at h
    exact leD_anti (keyD_alike _ _) rfl rfl h.2 h.1
  refine pw_unique (le := fun a b : Et => a.2 ≤ b.2) perm (fun a ha b hb h1 h2 => ?_) ?_ ?_
  · have ma := (List.mem_filter.mp (perm.mem_iff.mp ha)).1
    have mb := (List.mem_filter.mp (perm.mem_iff.mp hb)).1
    rw [List.mem_zipIdx_iff_getElem?] at ma mb
    have e : a.2 = b.2 := by omega
    rw [e, mb] at ma
    exact Prod.ext (Option.some.inj ma).symm e
  · refine List.Pairwise.imp_of_mem (fun {a b} ha hb h => ?_) ((PySem.W.sort_pairwise leR_total ls.zipIdx).sublist List.filter_sublist)
    exact leR_ix h ((hkey a (List.mem_filter.mp ha).2).trans (hkey b (List.mem_filter.mp hb).2).symm)
  · have h1 : (ls.zipIdx.map (·.2)).Pairwise (· < ·) := by
      rw [List.zipIdx_map_snd]
      exact List.pairwise_lt_range'
    rw [List.pairwise_map] at h1
    exact (h1.imp fun h => Nat.le_of_lt h).sublist List.filter_sublist
theorem byKey_zip (ls : List (Addr × Lt)) : (ls.zipIdx.mergeSort leR).map (·.1) = byKey ls := by
  rw [stable]
  have h := PySem.W.sort_maps (r := leK) (s := PySem.W.dataLe false fun y : Addr × Lt => keyD y.2) (fun e : Et => e.1) (l := ls.zipIdx) fun _ _ _ _ => rfl
  rw [h, List.zipIdx_map_fst]
  rfl
theorem rows_srt (ls : List (Addr × Lt)) : srtD (ls.zipIdx.map rowK) = (ls.zipIdx.mergeSort leR).map rowK := (PySem.W.sort_maps rowK fun _ _ _ _ => rfl).symm
theorem rowK_alk (es : List Et) : Alk (es.map rowK) := ⟨fun d hd e he => by
  obtain ⟨a, _, rfl⟩ := List.mem_map.mp hd
  obtain ⟨b, _, rfl⟩ := List.mem_map.mp he
  simp [rowK, PySem.W.alike, PySem.W.alikeAll], fun d hd => by
  obtain ⟨a, _, rfl⟩ := List.mem_map.mp hd
  rfl⟩
theorem tabS_lst {H H' : Hp} {P e : Addr} {q : Str} {xs : List V} (t : LamX.TabS H P q) (h : H e = some (.lst xs)) (k : Kp e H H') : LamX.TabS H' P q := by
  obtain ⟨ps, hp, ok, c⟩ := t
  have ne : ∀ b o, H b = some o → (∀ xs, o ≠ .lst xs) → H' b = some o := fun b o hb n => k b o (fun z => by
    rw [z, h] at hb
    exact n _ (Option.some.inj hb).symm) hb
  refine ⟨ps, ne _ _ hp (fun _ z => by cases z), ok, fun pos cv hcv => ?_⟩
  obtain ⟨c', e1, e2⟩ := c pos cv hcv
  exact ⟨c', e1, ne _ _ e2 (fun _ z => by cases z)⟩
abbrev autD : PyData → Prop := fun d => ∃ z : Str, d = .str z ∧ ascii z = true ∧ z ≠ "zz"
theorem evs_big {K : PySem.W.Frag} {σ : L2.St} {H : Hp} {p : Addr} {i : Nat} (hi : σ[i]? = some (some (.ref p))) : EvS p (tOp qMul (tCall (spNext K) [] C8.E0 (tCons (tVar i) (tCons (tOp qPow (tC (.int 10)) (tC (.int 9))) tNil))) (tOp qPow (tC (.int 10)) (tC (.int 9)))) σ H (isInt 0 1000000000000000000) := fun H1 k s Q q => by
  have e : (10 : Int) ^ (9 : Int).toNat = 1000000000 := by decide +kernel
  refine w_op (w_call (w_cons (w_var hi (w_cons (w_op (w_c (w_c ⟨10, 9, rfl, rfl, ⟨by decide, by decide, by decide⟩, w_nil ?_⟩)))))))
  show spNext K [.ref p, .int ((10 : Int) ^ (9 : Int).toNat)] H1 _ _
  rw [e]
  refine ⟨p, 1000000000, rfl, s, by decide, by decide, fun v H2 k2 s2 a b => w_op (w_c (w_c ⟨10, 9, rfl, rfl, ⟨by decide, by decide, by decide⟩, ?_⟩))⟩
  show qMul _ (.int ((10 : Int) ^ (9 : Int).toNat)) H2 _
  rw [e]
  exact ⟨v, 1000000000, rfl, rfl, cmul_r (by decide) (by decide), q _ (.int (v * 1000000000)) H2 k2 s2 ⟨_, rfl, by omega, by omega⟩ (.int _)⟩
section
variable {K : PySem.W.Frag} {H : Hp} {Q : VK} {a b : Addr} {xs ys : List V}
theorem w_catA2 (h : SqT K H a xs) (h' : SqT K H b ys) (hx : xs ≠ []) (hy : ys ≠ []) (q : ∀ p H', H p = none → Same H H' → H' p = some (.tup (xs ++ ys)) → Q (.ref p) H') (z : xs.length + ys.length ≤ 1000 := by simp) : rCatA K (.ref a) (.ref b) H Q :=
  ⟨a, b, xs, ys, rfl, rfl, h, h', Nat.le_trans z (by decide), fun e => absurd e hx, fun _ e => absurd e hy, fun _ _ p hp => q p _ hp (Same.upd (Same.refl H) hp) upd_same⟩
theorem w_catA0 (h : SqT K H a xs) (h' : SqT K H b []) (hx : xs ≠ []) (q : Q (.ref a) H) (z : xs.length ≤ 1000 := by simp) : rCatA K (.ref a) (.ref b) H Q :=
  ⟨a, b, xs, [], rfl, rfl, h, h', Nat.le_trans z (by decide), fun e => absurd e hx, fun _ _ => q, fun _ e => absurd rfl e⟩
end
section
variable {K : PySem.W.Frag} {C CL P_by_key : Addr} {vs : List V} {H : Hp} {Q : VK} {E : XK} {σ : L2.St} {D : Ends}
/-- _law_drawn: slots 0:stream 1:k 2:author 3:stamp 4:number 5:seen 6:kind 7:body -/
def t__law_drawn (K : PySem.W.Frag) (C_Letter : Addr) : TS := (tSeq (tAsg (tOp (rIxT K) (tTup (tCons (tC (.str "a")) (tCons (tC (.str "anna")) (tCons (tC (.str "anna1")) (tCons (tC (.str "anna2")) (tCons (tC (.str "ann2")) (tCons (tC (.str "bert")) (tCons (tC (.str "b")) tNil)))))))) (tCall (spNext K) [] C8.E0 (tCons (tVar 0) (tCons (tC (.int 7)) tNil)))) (gName 2))
  (tSeq (tAsg (tOp (rIxT K) (tTup (tCons (tCall (spNext K) [] C8.E0 (tCons (tVar 0) (tCons (tC (.int 3)) tNil))) (tCons (tCall (spNext K) [] C8.E0 (tCons (tVar 0) (tCons (tC (.int 39)) tNil))) (tCons (tOp qMul (tCall (spNext K) [] C8.E0 (tCons (tVar 0) (tCons (tOp qPow (tC (.int 10)) (tC (.int 9))) tNil))) (tOp qPow (tC (.int 10)) (tC (.int 9)))) tNil)))) (tCall (spNext K) [] C8.E0 (tCons (tVar 0) (tCons (tC (.int 3)) tNil)))) (gName 3))
  (tSeq (tAsg (tOp qAdd (tC (.int 1)) (tCall (spNext K) [] C8.E0 (tCons (tVar 0) (tCons (tCB qMin2 (tCons (tC (.int 9)) (tCons (tOp qAdd (tC (.int 2)) (tVar 3)) tNil))) tNil)))) (gName 4))
  (tSeq (tAsg (tOp (rCatA K) (tTup (tCons (tTup (tCons (tVar 2) (tCons (tVar 4) tNil))) tNil)) (tOp (Wp.rRep01 K) (tTup (tCons (tTup (tCons (tC (.str "zz")) (tCons (tC (.int 1)) tNil))) tNil)) (tCall (spNext K) [] C8.E0 (tCons (tVar 0) (tCons (tC (.int 2)) tNil))))) (gName 5))
  (tSeq (tAsg (tCall (spNext K) [] C8.E0 (tCons (tVar 0) (tCons (tC (.int 3)) tNil))) (gName 6))
  (tSeq (tAsg (tOp (rIxT K) (tTup (tCons (tTup (tCons (tC (.str "say")) (tCons (tOp qAddS (tC (.str "t")) (tCB qStrInt (tCons (tVar 1) tNil))) tNil))) (tCons (tTup (tCons (tC (.str "title")) (tCons (tOp qAddS (tC (.str "t")) (tCB qStrInt (tCons (tVar 1) tNil))) tNil))) (tCons (tTup (tCons (tC (.str "reply")) (tCons (tTup (tCons (tC (.str "bert")) (tCons (tC (.int 1)) tNil))) (tCons (tOp qAddS (tC (.str "t")) (tCB qStrInt (tCons (tVar 1) tNil))) tNil)))) tNil)))) (tVar 6)) (gName 7))
  (tRet (tMake C_Letter (spInit K C_Letter) [] C8.E0 (tCons (tVar 2) (tCons (tVar 4) (tCons (tOp qAdd (tC (.int 2)) (tVar 3)) (tCons (tVar 5) (tCons (tVar 7) tNil)))))))))))))
theorem l__law_drawn (h : spDrawn K CL vs H Q E) : vs.length = 2 := by obtain ⟨p, k, rfl, _⟩ := h; rfl
theorem r__law_drawn (LC : IsC_Letter K CL) (h : spDrawn K CL vs H Q E) : t__law_drawn K CL { nx := fun _ H' => Q .non H', rt := Q } (start ["stream", "k", "author", "stamp", "number", "seen", "kind", "body"] vs) H := by
  obtain ⟨p, k, rfl, hs, hk0, hk1, q⟩ := h
  have hkl : (Str.ofString (toString k)).length ≤ 3 := toString_length_le hk0 (by decide) (Int.lt_of_le_of_lt hk1 (by decide))
  have hsz : (Str.ofString "t").length + (Str.ofString (toString k)).length ≤ sizeLine := sz (by have h1 : (Str.ofString "t").length ≤ 1 := by decide
                                                                                                 omega)
  have hta : ascii (Str.ofString "t" ++ Str.ofString (toString k)) = true := ascii_app (ascii_of _) (ascii_of _)
  unfold t__law_drawn
  with_reducible refine w_seq (w_asg ?_)
  refine (evs_pickT (P := autD) (are_cons (evs_str ⟨_, rfl, by decide +kernel⟩) (are_cons (evs_str ⟨_, rfl, by decide +kernel⟩) (are_cons (evs_str ⟨_, rfl, by decide +kernel⟩) (are_cons (evs_str ⟨_, rfl, by decide +kernel⟩) (are_cons (evs_str ⟨_, rfl, by decide +kernel⟩) (are_cons (evs_str ⟨_, rfl, by decide +kernel⟩) (are_cons (evs_str ⟨_, rfl, by decide +kernel⟩) are_nil))))))) rfl (by decide) (by decide) (are_pick rfl)).use hs fun v d H1 k1 s1 hd dn => w_name ?_
  obtain ⟨au, rfl, hau, haz⟩ := hd
  cases dn
  with_reducible refine w_seq (w_asg ?_)
  refine (evs_pickT (P := isInt 0 1000000000000000000) (are_cons (evs_nextIn rfl (by decide) (by decide) (by decide) (by decide)) (are_cons (evs_nextIn rfl (by decide) (by decide) (by decide) (by decide)) (are_cons (evs_big rfl) are_nil))) rfl (by decide) (by decide) (are_pick rfl)).use s1 fun v d H2 k2 s2 hd dn => w_name ?_
  obtain ⟨st, rfl, hst0, hst1⟩ := hd
  cases dn
  have hm : (if 2 + st < 9 then 2 + st else (9 : Int)) ≤ 9 ∧ 2 ≤ (if 2 + st < 9 then 2 + st else (9 : Int)) := by
    split <;> omega
  with_reducible refine w_seq (w_asg ?_)
  refine w_op (w_c (w_call (w_cons (w_var rfl (w_cons (w_cb (w_cons (w_c (w_cons (w_op (w_c (w_var rfl (w_I0 (w_nil (w_min2 (w_nil ⟨p, _, rfl, s2, by omega, by omega, fun nn H3 k3 s3 n0 n1 => w_I0 (w_name ?_)⟩))))))))))))))))
  generalize (if 2 + st < 9 then 2 + st else (9 : Int)) = mm at hm n1
  with_reducible refine w_seq (w_asg ?_)
  refine w_op (w_tupV (w_cons (w_tupV (w_cons (w_var rfl (w_cons (w_var rfl (w_nil ⟨sz (by simp), w_new fun t1 H4 f4 z4 e4 => w_nil ⟨sz (by simp), w_new fun t2 H5 f5 z5 e5 => ?_⟩⟩))))))))
  refine w_op (w_tupV (w_cons (w_tupV (w_cons (w_c (w_cons (w_c (w_nil ⟨sz (by simp), w_new fun t3 H6 f6 z6 e6 => w_nil ⟨sz (by simp), w_new fun t4 H7 f7 z7 e7 => ?_⟩⟩))))))))
  have s4 := s3.same z4
  have s5 := s4.same z5
  have s6 := s5.same z6
  have s7 := s6.same z7
  have k37 : Kp p H3 H7 := (((Same.kp z4).trans (Same.kp z5)).trans (Same.kp z6)).trans (Same.kp z7)
  refine w_call (w_cons (w_var rfl (w_cons (w_c (w_nil ⟨p, 2, rfl, s7, by decide, by decide, fun j H8 k8 s8 j0 j1 => ?_⟩)))))
  have n1p : t1 ≠ p := s3.ne f4
  have n2p : t2 ≠ p := s4.ne f5
  have n3p : t3 ≠ p := s5.ne f6
  have n4p : t4 ≠ p := s6.ne f7
  have g1 := k8 _ _ n1p (z7 _ _ (z6 _ _ (z5 _ _ e4)))
  have g2 := k8 _ _ n2p (z7 _ _ (z6 _ _ e5))
  have g3 := k8 _ _ n3p (z7 _ _ e6)
  have g4 := k8 _ _ n4p e7
  have k38 := k37.trans k8
  have k08 := ((k1.trans k2).trans k3).trans k38
  -- the rest, once seen is there
  have fin : ∀ (sv : V) (PS : List (Str × Int)) (G : Hp), Kp p H G → Stm G p → Dn (Off p) G sv (seenD PS) → (PS.map (·.1)).Nodup → PS.length ≤ 2 → (∀ q ∈ PS, ascii q.1 = true) → (tSeq (tAsg (tCall (spNext K) [] C8.E0 (tCons (tVar 0) (tCons (tC (.int 3)) tNil))) (gName 6)) (tSeq (tAsg (tOp (rIxT K) (tTup (tCons (tTup (tCons (tC (.str "say")) (tCons (tOp qAddS (tC (.str "t")) (tCB qStrInt (tCons (tVar 1) tNil))) tNil))) (tCons (tTup (tCons (tC (.str "title")) (tCons (tOp qAddS (tC (.str "t")) (tCB qStrInt (tCons (tVar 1) tNil))) tNil))) (tCons (tTup (tCons (tC (.str "reply")) (tCons (tTup (tCons (tC (.str "bert")) (tCons (tC (.int 1)) tNil))) (tCons (tOp qAddS (tC (.str "t")) (tCB qStrInt (tCons (tVar 1) tNil))) tNil)))) tNil)))) (tVar 6)) (gName 7)) (tRet (tMake CL (spInit K CL) [] C8.E0 (tCons (tVar 2) (tCons (tVar 4) (tCons (tOp qAdd (tC (.int 2)) (tVar 3)) (tCons (tVar 5) (tCons (tVar 7) tNil))))))))) { nx := fun _ H' => Q .non H', rt := Q } [some (.ref p), some (.int k), some (.str au), some (.int st), some (.int (1 + nn)), some sv, none, none] G := by
    intro sv PS G kG sG dS hnd hlen hasc
    have fin2 : ∀ (kd : V) (bv : V) (B : PyData) (G' : Hp), Kp p G G' → Stm G' p → Dn (Off p) G' bv B → Lay 3 B → plainB B = true → (tRet (tMake CL (spInit K CL) [] C8.E0 (tCons (tVar 2) (tCons (tVar 4) (tCons (tOp qAdd (tC (.int 2)) (tVar 3)) (tCons (tVar 5) (tCons (tVar 7) tNil))))))) { nx := fun _ H' => Q .non H', rt := Q } [some (.ref p), some (.int k), some (.str au), some (.int st), some (.int (1 + nn)), some sv, some kd, some bv] G' := by
      intro kd bv B G' kG' sG' dB hlay hpl
      have dS' := dS.kp kG'
      with_reducible refine w_ret ?_
      refine w_make (w_cons (w_var rfl (w_cons (w_var rfl (w_cons (w_op (w_c (w_var rfl (w_I0 (w_cons (w_var rfl (w_cons (w_var rfl (w_nil fun x dx hx hdx ndx => ?_))))))))))))))
      refine ⟨x, dx, au, 1 + nn, 2 + st, PS, sv, bv, rfl, upd_same, dn_made2 dS' hx hdx _, hnd, by omega, fun Gg dd hd kg eg ed => ⟨rfl, ?_⟩⟩
      have sg : Same G' Gg := same_made2 hx hdx kg
      refine q x ⟨au, 1 + nn, 2 + st, PS, B⟩ Gg ((kG.trans kG').trans (Same.kp sg)) (sG'.same sg) ⟨dx, dd, sv, bv, eg, trivial, ed, (dS'.same sg).any, (dB.same sg).any⟩ ⟨by show 1 ≤ 1 + nn; omega, hnd, by show PS.length ≤ 100; omega, hau, hasc, hlay, hpl⟩
    with_reducible refine w_seq (w_asg ?_)
    refine w_call (w_cons (w_var rfl (w_cons (w_c (w_nil ⟨p, 3, rfl, sG, by decide, by decide, fun kd G1 k1' s1' kd0 kd1 => w_name ?_⟩)))))
    with_reducible refine w_seq (w_asg ?_)
    refine w_op (w_tupV (w_cons (w_tupV (w_cons (w_c (w_cons (w_op (w_c (w_cb (w_cons (w_var rfl (w_nil (w_strInt hk0 (by omega) (w_addS hsz (w_nil ⟨sz (by simp), w_new fun b1 G2 f2 z2 e2 => ?_⟩)))))))))))))))
    refine w_cons (w_tupV (w_cons (w_c (w_cons (w_op (w_c (w_cb (w_cons (w_var rfl (w_nil (w_strInt hk0 (by omega) (w_addS hsz (w_nil ⟨sz (by simp), w_new fun b2 G3 f3 z3 e3 => ?_⟩)))))))))))))
    refine w_cons (w_tupV (w_cons (w_c (w_cons (w_tupV (w_cons (w_c (w_cons (w_c (w_nil ⟨sz (by simp), w_new fun b3 G4 f4' z4' e4' => ?_⟩))))))))))
    refine w_cons (w_op (w_c (w_cb (w_cons (w_var rfl (w_nil (w_strInt hk0 (by omega) (w_addS hsz (w_nil ⟨sz (by simp), w_new fun b4 G5 f5' z5' e5' => ?_⟩)))))))))
    refine w_nil ⟨sz (by simp), w_new fun b5 G6 f6' z6' e6' => w_var rfl ?_⟩
    have z26 := ((z3.trans z4').trans z5').trans z6'
    have sa := (((((s1'.same z2).same z3).same z4').same z5').same z6')
    have ka : Kp p G G6 := k1'.trans (Same.kp (z2.trans z26))
    have m1 := z26 _ _ e2
    have m2 := z6' _ _ (z5' _ _ (z4' _ _ e3))
    have m3 := z6' _ _ (z5' _ _ e4')
    have m4 := z6' _ _ e5'
    have o1 : b1 ≠ p := s1'.ne f2
    have o2 : b2 ≠ p := (s1'.same z2).ne f3
    have o3 : b3 ≠ p := ((s1'.same z2).same z3).ne f4'
    have o4 : b4 ≠ p := (((s1'.same z2).same z3).same z4').ne f5'
    obtain rfl | rfl | rfl : kd = 0 ∨ kd = 1 ∨ kd = 2 := by omega
    · refine w_ixT (SqT.of e6') (atI_nat (j := 0) rfl) (w_name ?_)
      exact fin2 _ _ (.tuple [.str "say", .str ("t" ++ Str.ofString (toString k))]) G6 ka sa (.tup o1 m1 (.cons (.str _) (.cons (.str _) .nil))) (lay2 (k := 0) (lay_str (by decide +kernel)) (lay_str hta)).up (by rfl)
    · refine w_ixT (SqT.of e6') (atI_nat (j := 1) rfl) (w_name ?_)
      exact fin2 _ _ (.tuple [.str "title", .str ("t" ++ Str.ofString (toString k))]) G6 ka sa (.tup o2 m2 (.cons (.str _) (.cons (.str _) .nil))) (lay2 (k := 0) (lay_str (by decide +kernel)) (lay_str hta)).up (by rfl)
    · refine w_ixT (SqT.of e6') (atI_nat (j := 2) rfl) (w_name ?_)
      exact fin2 _ _ (.tuple [.str "reply", .tuple [.str "bert", .int 1], .str ("t" ++ Str.ofString (toString k))]) G6 ka sa (.tup o4 m4 (.cons (.str _) (.cons (.tup o3 m3 (.cons (.str _) (.cons (.int _) .nil))) (.cons (.str _) .nil)))) (lay3 (k := 2) (lay_str (by decide +kernel)) (lay2 (k := 1) (lay_str (by decide +kernel)) lay_int) (lay_str hta)) (by rfl)
  have dn1 : ∀ G, Same H8 G → Dn (Off p) G (.ref t1) (.tuple [.str au, .int (1 + nn)]) := fun G s => .tup n1p (s _ _ g1) (.cons (.str _) (.cons (.int _) .nil))
  have dn3 : ∀ G, Same H8 G → Dn (Off p) G (.ref t3) (.tuple [.str "zz", .int 1]) := fun G s => .tup n3p (s _ _ g3) (.cons (.str _) (.cons (.int _) .nil))
  refine w_rep01 (SqT.of g4) (by simp) j0 (by omega) (fun _ => ?_) (fun _ p5 H9 f9 z9 e9 => ?_)
  · refine w_catA2 (SqT.of g2) (SqT.of g4) (by simp) (by simp) fun p6 Ha fa za ea => w_name ?_
    refine fin (.ref p6) [(au, 1 + nn), ("zz", 1)] Ha (k08.trans (Same.kp za)) (s8.same za) (.tup (s8.ne fa) ea (.cons (dn1 _ za) (.cons (dn3 _ za) .nil))) ?_ (by simp) ?_
    · simp [haz]
    · intro q hq
      simp only [List.mem_cons, List.not_mem_nil, or_false] at hq
      rcases hq with rfl | rfl
      · exact hau
      · show ascii "zz" = true
        decide +kernel
  · refine w_catA0 (SqT.of (z9 _ _ g2)) (SqT.of e9) (by simp) (w_name ?_)
    refine fin (.ref t2) [(au, 1 + nn)] H9 (k08.trans (Same.kp z9)) (s8.same z9) (.tup n2p (z9 _ _ g2) (.cons (dn1 _ z9) .nil)) (by simp) (by simp) ?_
    intro q hq
    rw [List.mem_singleton.mp hq]
    exact hau
/-- _law_due: slots 0:letters 1:k 2:rows 3:row -/
def t__law_due (K : PySem.W.Frag) (C_Letter : Addr) : TS := (tSeq (tAsg (tLc (iRng1 (tCons (tCB (qLenSeq K) (tCons (tVar 0) tNil)) tNil)) (gName 1) tYes (tTup (tCons (tFld K (tOp (rIxL K) (tVar 0) (tVar 1)) "stamp") (tCons (tFld K (tOp (rIxL K) (tVar 0) (tVar 1)) "author") (tCons (tVar 1) tNil)))) [1]) (gName 2))
  (tRet (tLc (iList K (tCB (Wp.rSortedW K) (tCons (tVar 2) tNil))) (gName 3) tYes (tMeth C_Letter "value" (spValue K C_Letter) [] C8.E0 (tOp (rIxL K) (tVar 0) (tOp (rIxT K) (tVar 3) (tC (.int 2)))) tNil) [3])))
theorem l__law_due (h : spDue K CL vs H Q E) : vs.length = 1 := by obtain ⟨l, ls, rfl, _⟩ := h; rfl
theorem r__law_due (LC : IsC_Letter K CL) (h : spDue K CL vs H Q E) : t__law_due K CL { nx := fun _ H' => Q .non H', rt := Q } (start ["letters", "k", "rows", "row"] vs) H := by
  obtain ⟨l, ls, rfl, hl, hok, hlen, q⟩ := h
  unfold t__law_due
  refine w_seq (w_asg (w_lc (w_iRng1 (w_cons (w_cb (w_cons (w_var rfl (w_nil (w_lenL (SqL.of hl) (w_nil ⟨_, rfl, ?_, ?_, fun D hD => ?_⟩))))))))))
  · rw [lsV_len]; omega
  · rw [lsV_len]; omega
  rw [lsV_len]
  have hz : ∀ k y, ls[k]? = some y → ls.zipIdx.take (k + 1) = ls.zipIdx.take k ++ [(y, k)] := fun k y hy => by
    rw [List.take_add_one, List.getElem?_zipIdx, hy]
    simp
  refine lc_it walk_range (fun k G => Same H G ∧ ∃ ts, G D = some (.lst ts) ∧ ts.length ≤ k ∧ DnAll Any G ts ((ls.zipIdx.take k).map rowK)) ⟨Same.upd (Same.refl H) hD, [], upd_same, Nat.le_refl _, .nil⟩ (fun _ _ _ _ => trivial) ?_ ?_
  · rintro k x Gz G hk ⟨s, ts, eD, htl, dts⟩ ⟨rfl, rfl⟩
    have hk' : k < ls.length := by omega
    obtain ⟨y, hy⟩ : ∃ y, ls[k]? = some y := ⟨_, List.getElem?_eq_getElem hk'⟩
    have hat : atI (lsV ls) (0 + (k : Int)) = some (.ref y.1) := by
      rw [Int.zero_add]
      exact atI_nat (by rw [List.getElem?_map, hy]; rfl)
    obtain ⟨dx, d, sv, bv, hx, _⟩ := (hok.get hy).1
    have hxG := s _ _ hx
    refine w_name ⟨rfl, w_yes (iteT_ (w_tupV (w_cons (w_fld (w_op (w_var rfl (w_var rfl (w_ixL (SqL.of (s _ _ hl)) hat ⟨_, CL, dx, _, _, rfl, hxG, LC.cl, LC.n_stamp, lfs_stamp, ?_⟩))))))))⟩
    refine w_cons (w_fld (w_op (w_var rfl (w_var rfl (w_ixL (SqL.of (s _ _ hl)) hat ⟨_, CL, dx, _, _, rfl, hxG, LC.cl, LC.n_author, lfs_author, ?_⟩)))))
    refine w_cons (w_var rfl (w_nil ⟨sz (by simp), w_new fun t G2 f2 s2 e2 => ⟨ts, s2 _ _ eD, ?_, ?_, _, upd_same, ?_, ?_⟩⟩))
    · exact Nat.lt_of_le_of_lt (show ts.length ≤ 100 by omega) (by decide)
    · exact fun b o e => by
        rw [upd_ne (ne_of_none e hD)]
        exact s2 _ _ (s _ _ e)
    · rw [List.length_append, List.length_singleton]
      omega
    · have tk : Tk G2 (upd G2 D (.lst (ts ++ [V.ref t]))) := Tk.kpL Kp.refl.updp (s2 _ _ eD)
      rw [hz k y hy, List.map_append]
      have e2 : G2 t = some (.tup [.int y.2.s, .str y.2.a, .int (0 + (k : Int))]) := e2
      rw [Int.zero_add] at e2
      refine DnAll.app (dnall_tk tk (plainAll_of fun d hd => (rowK_alk _).pl d hd) (dts.same s2)) (.cons (.tup trivial (tk _ _ e2) (.cons (.int _) (.cons (.str _) (.cons (.int _) .nil)))) .nil)
  rintro G ⟨s, ts, eD, htl, dts⟩
  have e0 : (((ls.length : Nat) : Int) - 0).toNat = ls.length := by omega
  rw [show ls.zipIdx.take _ = ls.zipIdx from List.take_of_length_le (by rw [List.length_zipIdx]; omega)] at dts
  refine w_name ?_
  with_reducible refine w_ret ?_
  have hdl := dts.len
  rw [List.length_map, List.length_zipIdx] at hdl
  refine w_lc (w_iList (w_cb (w_cons (w_var rfl (w_nil (w_sortedDs eD dts (rowK_alk _) (.inl fun d hd => ?_) (by rw [List.length_map, List.length_zipIdx]; omega) (fun d hd => ?_) fun p ws G2 f2 s2 e2 d2 => ?_))))))
  · obtain ⟨a, _, rfl⟩ := List.mem_map.mp hd
    exact ⟨_, _, rfl⟩
  · obtain ⟨a, _, rfl⟩ := List.mem_map.mp hd
    simp [rowK, PyData.depth, PyData.depthAll]
  rw [rows_srt] at d2
  have hwl := d2.len
  rw [List.length_map, List.length_mergeSort, List.length_zipIdx] at hwl
  have s12 := s.trans s2
  refine ⟨p, rfl, ⟨_, SqL.of e2⟩, fun D2 hD2 => ?_⟩
  have hplain : ∀ k, plainAll (((ls.zipIdx.mergeSort leR).take k).map fun e => valD e.1.2) = true := fun k => plainAll_of fun d hd => by
    obtain ⟨e, he, rfl⟩ := List.mem_map.mp hd
    have he2 := (List.mergeSort_perm _ _).mem_iff.mp (List.mem_of_mem_take he)
    rw [List.mem_zipIdx_iff_getElem?] at he2
    exact (hok.get he2).2.plain
  refine lc_it (walk_list (xs := ws)) (fun k G' => Same G2 G' ∧ ∃ us, G' D2 = some (.lst us) ∧ us.length ≤ k ∧ DnAll Any G' us (((ls.zipIdx.mergeSort leR).take k).map fun e => valD e.1.2)) ⟨Same.upd (Same.refl G2) hD2, [], upd_same, Nat.le_refl _, .nil⟩ (fun k G' _ e => SqL.of (e.1 _ _ e2)) ?_ ?_
  · rintro k x Gz G3 hk ⟨s3, us, eD2, hus, dus⟩ ⟨rfl, hx⟩
    obtain ⟨d, hd, dn⟩ := d2.get hx
    rw [List.getElem?_map] at hd
    obtain ⟨e, he, rfl⟩ := Option.map_eq_some_iff.mp hd
    have he2 := (List.mergeSort_perm _ _).mem_iff.mp (List.mem_of_getElem? he)
    rw [List.mem_zipIdx_iff_getElem?] at he2
    cases dn with
    | tup _ ht hxs =>
    cases hxs with
    | cons d1 hxs =>
    cases d1
    cases hxs with
    | cons d1 hxs =>
    cases d1
    cases hxs with
    | cons d1 hxs =>
    cases d1
    cases hxs
    have hy := hok.get he2
    obtain ⟨dx, dd, sv, bv, hox, _⟩ := id hy.1
    have et : (ls.zipIdx.mergeSort leR).take (k + 1) = (ls.zipIdx.mergeSort leR).take k ++ [e] := by rw [List.take_add_one, he]; rfl
    have s13 := s12.trans s3
    refine w_name ⟨rfl, w_yes (iteT_ (w_meth (w_op (w_var rfl (w_op (w_var rfl (w_c (w_ixT (SqT.of (s3 _ _ ht)) (atI_nat (j := 2) rfl) (w_ixL (v := .ref e.1.1) (SqL.of (s13 _ _ hl)) (atI_nat (by rw [List.getElem?_map, he2]; rfl)) ⟨e.1.1, dx, _, rfl, s13 _ _ hox, rfl, w_nil ⟨e.1.1, e.1.2, rfl, hy.1.same s13, fun v' G4 s4 dn4 => ⟨us, s4 _ _ eD2, ?_, ?_, _, upd_same, ?_, ?_⟩⟩⟩)))))))))⟩
    · exact Nat.lt_of_le_of_lt (show us.length ≤ 100 by omega) (by decide)
    · exact fun b o e => by
        rw [upd_ne (ne_of_none e hD2)]
        exact s4 _ _ (s3 _ _ e)
    · rw [List.length_append, List.length_singleton]
      omega
    · have tk : Tk G4 (upd G4 D2 (.lst (us ++ [v']))) := Tk.kpL Kp.refl.updp (s4 _ _ eD2)
      rw [et, List.map_append]
      exact DnAll.app (dnall_tk tk (hplain k) (dus.same s4)) (.cons (dn_tk tk hy.2.plain dn4) .nil)
  · rintro G3 ⟨s3, us, eD2, hus, dus⟩
    have hw2 : (ls.zipIdx.mergeSort leR).take ws.length = ls.zipIdx.mergeSort leR := List.take_of_length_le (by rw [List.length_mergeSort, List.length_zipIdx]; omega)
    rw [hw2] at dus
    refine q D2 us G3 (same_none s12 hD2) (s12.trans s3) eD2 ?_
    rw [← byKey_zip, List.map_map]
    exact dus
/-- law: slots 0:script 1:letters 2:k 3:stream 4:passed 5:due 6:turn 7:answer -/
def t_law (K : PySem.W.Frag) (C_Letter : Addr) (P_by_key : Addr) : TS := (tSeq (tAsg (tLst tNil) (gName 1))
  (tSeq (tFor (iRng1 (tCons (tCB qMin2 (tCons (tCB (qLenSeq K) (tCons (tVar 0) tNil)) (tCons (tC (.int 63)) tNil))) tNil)) (gName 2) (tSeq (tAsg (tCall (spStream K) [] C8.E0 (tCons (tOp (rIxL K) (tVar 0) (tVar 2)) (tCons (tVar 2) tNil))) (gName 3))
  (tIfS (tAnd (tTest (tOp qGt (tCB (qLenSeq K) (tCons (tVar 1) tNil)) (tC (.int 0)))) (tTest (tOp rEq (tCall (spNext K) [] C8.E0 (tCons (tVar 3) (tCons (tC (.int 8)) tNil))) (tC (.int 0))))) (tDrop (tBM K "list" rAppend (tVar 1) (tCons (tOp (rIxL K) (tVar 1) (tCall (spNext K) [] C8.E0 (tCons (tVar 3) (tCons (tCB (qLenSeq K) (tCons (tVar 1) tNil)) tNil)))) tNil))) (tDrop (tBM K "list" rAppend (tVar 1) (tCons (tCall (spDrawn K C_Letter) [] C8.E0 (tCons (tVar 3) (tCons (tVar 2) tNil))) tNil))))))
  (tSeq (tAsg (tCB (qListOf K) (tCons (tVar 1) tNil)) (gName 4))
  (tSeq (tAsg (tCall (spDue K C_Letter) [] C8.E0 (tCons (tVar 1) tNil)) (gName 5))
  (tSeq (tFor (iRng1 (tCons (tC (.int 2)) tNil)) (gName 6) (tSeq (tAsg (tCall (spByKey K C_Letter P_by_key) [] C8.E0 (tCons (tVar 4) tNil)) (gName 7))
  (tSeq (tIfS (tOr (tNot (tB (tCB (rIsi K) (tCons (tVar 7) (tCons (tC (.ty "list")) tNil))))) (tOr (tTest (tOp rNe (tCB (qLenSeq K) (tCons (tVar 4) tNil)) (tCB (qLenSeq K) (tCons (tVar 1) tNil)))) (tTest (tOp rNe (tCB (qLenSeq K) (tCons (tVar 7) tNil)) (tCB (qLenSeq K) (tCons (tVar 5) tNil)))))) (tRet (tC (.bl false))) tNext)
  (tSeq (tFor (iRng1 (tCons (tCB (qLenSeq K) (tCons (tVar 5) tNil)) tNil)) (gName 2) (tIfS (tOr (tTest (tOp (rNeD K) (tMeth C_Letter "value" (spValue K C_Letter) [] C8.E0 (tOp (rIxL K) (tVar 7) (tVar 2)) tNil) (tOp (rIxL K) (tVar 5) (tVar 2)))) (tTest (tOp (rNeD K) (tMeth C_Letter "value" (spValue K C_Letter) [] C8.E0 (tOp (rIxL K) (tVar 4) (tVar 2)) tNil) (tMeth C_Letter "value" (spValue K C_Letter) [] C8.E0 (tOp (rIxL K) (tVar 1) (tVar 2)) tNil)))) (tRet (tC (.bl false))) tNext))
  (tSeq (tDrop (tBM K "list" rAppend (tVar 7) (tCons (tC (.int 0)) tNil)))
  (tIfS (tTest (tOp rNe (tCB (qLenSeq K) (tCons (tVar 4) tNil)) (tCB (qLenSeq K) (tCons (tVar 1) tNil)))) (tRet (tC (.bl false))) tNext))))))
  (tRet (tOp (rEqD K) (tCall (spByKey K C_Letter P_by_key) [] C8.E0 (tCons (tLst tNil) tNil)) (tLst tNil))))))))
theorem l_law (h : spLaw K P_by_key vs H Q E) : vs.length = 1 := by obtain ⟨a, ns, rfl, _⟩ := h; rfl
theorem r_law (LC : IsC_Letter K CL) (h : spLaw K P_by_key vs H Q E) : t_law K CL P_by_key { nx := fun _ H' => Q .non H', rt := Q } (start ["script", "letters", "k", "stream", "passed", "due", "turn", "answer"] vs) H := by
  obtain ⟨a, ns, rfl, hS, hn, hT, q⟩ := h
  unfold t_law
  refine w_seq (w_asg (w_lstV (w_nil ⟨sz (by simp), w_new fun Lr G1 L0 s1 e1 => w_name ?_⟩)))
  with_reducible refine w_seq ?_
  refine w_for (w_iRng1 (w_cons (w_cb (w_cons (w_cb (w_cons (w_var rfl (w_nil (w_lenL (s1.seq hS) (w_cons (w_c (w_nil (w_min2 (w_nil ?_))))))))))))))
  rw [List.length_map]
  have hm : (if (63 : Int) < (ns.length : Int) then (63 : Int) else (ns.length : Int)) ≤ 63 ∧ (if (63 : Int) < (ns.length : Int) then (63 : Int) else (ns.length : Int)) ≤ ns.length ∧ 0 ≤ (if (63 : Int) < (ns.length : Int) then (63 : Int) else (ns.length : Int)) := by
    split <;> omega
  generalize (if (63 : Int) < (ns.length : Int) then (63 : Int) else (ns.length : Int)) = m at hm
  refine ⟨m, rfl, by omega, by omega, ?_⟩
  refine for_it walk_range (fun i σ G => (∃ u2 u3, σ = [some (.ref a), some (.ref Lr), u2, u3, none, none, none, none]) ∧ Same H G ∧ ∃ ls, G Lr = some (.lst (lsV ls)) ∧ LsOk Any CL G ls ∧ ls.length ≤ i) ⟨⟨_, _, rfl⟩, s1, [], e1, fun y hy => (nomatch hy), Nat.le_refl _⟩ (fun _ _ _ _ _ => trivial) ?_ ?_
  · rintro i x' σ Gz G hi ⟨⟨u2, u3, rfl⟩, sG, ls, eL, hok, hll⟩ ⟨rfl, rfl⟩
    have hin : i < ns.length := by omega
    have hi62 : i ≤ 62 := by omega
    refine w_name ?_
    with_reducible refine w_seq ?_
    refine w_asg (w_call (w_cons (w_op (w_var rfl (w_var rfl (w_ixL (v := .int ns[i]) (sG.seq hS) (atI_of (by omega) ?_) (w_cons (w_var rfl (w_nil ⟨_, _, rfl, fun p1 G2 f2 t2 stp => w_name ?_⟩)))))))))
    · rw [List.getElem?_map, show (0 + (i : Int)).toNat = i by omega, List.getElem?_eq_getElem hin]
      rfl
    have eL2 := t2 _ _ eL
    have nLp : Lr ≠ p1 := stm_ne stp eL2
    have hok2 : LsOk Any CL G2 ls := hok.same t2
    have f20 := same_none sG f2
    -- a drawn letter
    have fin : ∀ (G4 : Hp) (y : Addr × Lt), Kp p1 G2 G4 → LtAt Any CL G4 y.1 y.2 → Wf y.2 → rAppend (.ref Lr) [.ref y.1] G4 fun _ G' => (∃ u2 u3, [some (.ref a), some (.ref Lr), some (.int (0 + (i : Int))), some (.ref p1), none, none, none, none] = [some (V.ref a), some (.ref Lr), u2, u3, none, none, none, none]) ∧ Same H G' ∧ ∃ ls, G' Lr = some (.lst (lsV ls)) ∧ LsOk Any CL G' ls ∧ ls.length ≤ i + 1 := by
      intro G4 y k4 hy wy
      have eL4 := k4 _ _ nLp eL2
      refine w_appV eL4 (by rw [lsV_len]; omega) fun G5 k5 e5 => ⟨⟨_, _, rfl⟩, fun b o e => ?_, ls ++ [y], by rw [e5]; unfold lsV; rw [List.map_append]; rfl, ?_, by rw [List.length_append, List.length_singleton]; omega⟩
      · exact k5 _ _ (ne_of_none e L0) (k4 _ _ (ne_of_none e f20) (t2 _ _ (sG _ _ e)))
      · refine LsOk.fm (H := G4) (LsOk.app (hok2.fm (Fm.stm k4 stp)) fun z hz => ?_) (Fm.kpL k5 eL4)
        rw [List.mem_singleton.mp hz]
        exact ⟨hy, wy⟩
    have els : ∀ G3, Kp p1 G2 G3 → Stm G3 p1 → (tDrop (tBM K "list" rAppend (tVar 1) (tCons (tCall (spDrawn K CL) [] C8.E0 (tCons (tVar 3) (tCons (tVar 2) tNil))) tNil))) { nx := fun σ' G' => (∃ u2 u3, σ' = [some (.ref a), some (.ref Lr), u2, u3, none, none, none, none]) ∧ Same H G' ∧ ∃ ls, G' Lr = some (.lst (lsV ls)) ∧ LsOk Any CL G' ls ∧ ls.length ≤ i + 1, rt := Q } [some (.ref a), some (.ref Lr), some (.int (0 + (i : Int))), some (.ref p1), none, none, none, none] G3 := by
      intro G3 k3 s3
      refine w_drop (w_bm (w_var rfl (w_tyL (k3 _ _ nLp eL2) (w_cons (w_call (w_cons (w_var rfl (w_cons (w_var rfl (w_nil ⟨p1, _, rfl, s3, by omega, by omega, fun x L G4 k4 s4 hL4 wL => w_nil (fin G4 (x, L) (k3.trans k4) hL4 wL)⟩))))))))))
    refine w_ifS (w_and (w_test (w_op (w_cb (w_cons (w_var rfl (w_nil (w_lenL (SqL.of eL2) (w_c (w_I0 ⟨_, rfl, ?_⟩))))))))))
    rw [lsV_len]
    by_cases h0 : (0 : Int) < (ls.length : Int)
    · rw [decide_eq_true h0, if_pos rfl]
      refine w_test (w_op (w_call (w_cons (w_var rfl (w_cons (w_c (w_nil ⟨p1, 8, rfl, stp, by decide, by decide, fun j G3 k3 s3 j0 j1 => w_c (w_eqI ⟨_, rfl, ?_⟩)⟩)))))))
      by_cases hj : j = 0
      · rw [decide_eq_true hj, if_pos rfl]
        refine w_drop (w_bm (w_var rfl (w_tyL (k3 _ _ nLp eL2) (w_cons (w_op (w_var rfl (w_call (w_cons (w_var rfl (w_cons (w_cb (w_cons (w_var rfl (w_nil (w_lenL (SqL.of (k3 _ _ nLp eL2)) (w_nil ⟨p1, _, rfl, s3, by rw [lsV_len]; omega, by rw [lsV_len]; omega, fun m G4 k4 s4 m0 m1 => ?_⟩))))))))))))))))
        rw [lsV_len] at m1
        have hml : m.toNat < ls.length := by omega
        have hy := (hok2.fm (Fm.stm (k3.trans k4) stp)).get (List.getElem?_eq_getElem hml)
        refine w_ixL (v := .ref (ls[m.toNat]).1) (SqL.of ((k3.trans k4) _ _ nLp eL2)) (atI_of m0 (by rw [List.getElem?_map, List.getElem?_eq_getElem hml]; rfl)) (w_nil (fin G4 (ls[m.toNat]) (k3.trans k4) hy.1 hy.2))
      · rw [decide_eq_false hj, if_neg (by decide)]
        exact els G3 k3 s3
    · rw [decide_eq_false h0, if_neg (by decide), if_neg (by decide)]
      exact els G2 Kp.refl stp
  rintro σ G ⟨⟨u2, u3, rfl⟩, sG, ls, eL, hok, hll⟩
  have hll : ls.length ≤ 63 := by omega
  with_reducible refine w_seq (w_asg ?_)
  refine w_cb (w_cons (w_var rfl (w_nil (w_listOfV (.inl (SqL.of eL)) fun Pp G2 f2 s2 e2 => w_name ?_))))
  with_reducible refine w_seq (w_asg ?_)
  refine w_call (w_cons (w_var rfl (w_nil ⟨Lr, ls, rfl, s2 _ _ eL, hok.same s2, by omega, fun Du ts G3 f3 s3 e3 d3 => w_name ?_⟩)))
  have hplain : plainAll ((byKey ls).map fun y => valD y.2) = true := plainAll_of fun d hd => by
    obtain ⟨y, hy, rfl⟩ := List.mem_map.mp hd
    exact (hok y ((byKey_perm ls).mem_iff.mp hy)).2.plain
  have hT3 := hT.ext ((sG.trans s2).trans s3)
  with_reducible refine w_seq ?_
  refine w_for (w_iRng1 (w_cons (w_c (w_nil ⟨2, rfl, by decide, by decide, ?_⟩))))
  refine for_it walk_range (fun i σ G' => (∃ u2' u3' u6 u7, σ = [some (.ref a), some (.ref Lr), u2', u3', some (.ref Pp), some (.ref Du), u6, u7]) ∧ G' Lr = some (.lst (lsV ls)) ∧ G' Pp = some (.lst (lsV ls)) ∧ G' Du = some (.lst ts) ∧ DnAll Any G' ts ((byKey ls).map fun y => valD y.2) ∧ LsOk Any CL G' ls ∧ LamX.TabS G' P_by_key "by_key.<locals>.<lambda>") ⟨⟨_, _, _, _, rfl⟩, s3 _ _ (s2 _ _ eL), s3 _ _ e2, e3, d3, hok.same (s2.trans s3), hT3⟩ (fun _ _ _ _ _ => trivial) ?_ ?_
  · rintro i x' σ Gz G4 hi ⟨⟨u2', u3', u6, u7, rfl⟩, fL, fP, fD, dD, hok4, hT4⟩ ⟨rfl, rfl⟩
    refine w_name ?_
    with_reducible refine w_seq (w_asg ?_)
    refine w_call (w_cons (w_var rfl (w_nil ⟨Pp, ls, rfl, SqL.of fP, hok4, by omega, hT4, fun ea G5 nea hne ext T5 e5 => w_name ?_⟩)))
    have fm : Fm Any G4 G5 := Fm.ext ext
    have gL := ext _ _ fL (fun _ z => by cases z)
    have gP := ext _ _ fP (fun _ z => by cases z)
    have gD := ext _ _ fD (fun _ z => by cases z)
    have nL := hne _ _ fL (fun _ z => by cases z)
    have nP := hne _ _ fP (fun _ z => by cases z)
    have nD := hne _ _ fD (fun _ z => by cases z)
    have dD5 := dnall_tk fm.1 hplain dD
    have hok5 := hok4.fm fm
    have htl := dD5.len
    rw [List.length_map, byKey_len] at htl
    with_reducible refine w_seq ?_
    refine w_ifS (w_or (w_not (w_B (w_cb (w_cons (w_var rfl (w_cons (w_c (w_nil (w_isi (.base (.lst e5)) (kit_ty (b := "list") (r := true) (by decide +kernel)) ⟨_, rfl, ?_⟩))))))))))
    rw [if_neg (by decide)]
    refine w_or (w_test (w_op (w_cb (w_cons (w_var rfl (w_nil (w_lenL (SqL.of gP) (w_cb (w_cons (w_var rfl (w_nil (w_lenL (SqL.of gL) (w_neI ⟨_, rfl, ?_⟩)))))))))))))
    rw [decide_eq_false (by simp), if_neg (by decide)]
    refine w_test (w_op (w_cb (w_cons (w_var rfl (w_nil (w_lenL (SqL.of e5) (w_cb (w_cons (w_var rfl (w_nil (w_lenL (SqL.of gD) (w_neI ⟨_, rfl, ?_⟩))))))))))))
    rw [lsV_len, byKey_len, htl, decide_eq_false (by simp), if_neg (by decide)]
    with_reducible refine w_next ?_
    with_reducible refine w_seq ?_
    refine w_for (w_iRng1 (w_cons (w_cb (w_cons (w_var rfl (w_nil (w_lenL (SqL.of gD) (w_nil ⟨_, rfl, by rw [htl]; omega, by rw [htl]; omega, ?_⟩))))))))
    refine for_it walk_range (fun k σ G' => (∃ u2', σ = [some (.ref a), some (.ref Lr), u2', u3', some (.ref Pp), some (.ref Du), some (.int (0 + (i : Int))), some (.ref ea)]) ∧ Same G5 G') ⟨⟨_, rfl⟩, Same.refl G5⟩ (fun _ _ _ _ _ => trivial) ?_ ?_
    · rintro k x' σ Gz' Ga hk ⟨⟨u2'', rfl⟩, sa⟩ ⟨rfl, rfl⟩
      have hk1 : k < ls.length := by omega
      have hk2 : k < (byKey ls).length := by rw [byKey_len]; exact hk1
      have hk3 : k < ts.length := by omega
      have hy := List.getElem?_eq_getElem hk2
      have hz := List.getElem?_eq_getElem hk1
      have hyo := (hok5 _ ((byKey_perm ls).mem_iff.mp (List.mem_of_getElem? hy)))
      have hzo := hok5 _ (List.mem_of_getElem? hz)
      obtain ⟨d, hd, dn⟩ := dD5.get (List.getElem?_eq_getElem hk3)
      rw [List.getElem?_map, hy] at hd
      have hd := (Option.some.inj hd).symm
      subst hd
      generalize (byKey ls)[k] = y at hy hyo dn
      generalize ls[k] = z at hz hzo
      have at0 : ∀ {xs : List V} {v : V}, xs[k]? = some v → atI xs (0 + (k : Int)) = some v := fun h => by
        rw [Int.zero_add]
        exact atI_nat h
      have ay : (lsV (byKey ls))[k]? = some (.ref y.1) := by rw [List.getElem?_map, hy]; rfl
      have az : (lsV ls)[k]? = some (.ref z.1) := by rw [List.getElem?_map, hz]; rfl
      obtain ⟨dx, dd, sv, bv, hox, _⟩ := id hyo.1
      obtain ⟨dx2, dd2, sv2, bv2, hox2, _⟩ := id hzo.1
      refine w_name ?_
      refine w_ifS (w_or (w_test (w_op (w_meth (w_op (w_var rfl (w_var rfl (w_ixL (SqL.of (sa _ _ e5)) (at0 ay) ⟨y.1, dx, _, rfl, sa _ _ hox, rfl, w_nil ⟨y.1, y.2, rfl, hyo.1.same sa, fun v1 Gb sb dnb => ?_⟩⟩))))))))
      have sab := sa.trans sb
      refine w_op (w_var rfl (w_var rfl (w_ixL (SqL.of (sab _ _ gD)) (at0 (List.getElem?_eq_getElem hk3)) (w_neDs dnb (dn.same sab) hyo.2.lay.shaped ⟨_, rfl, ?_⟩))))
      rw [if_neg (by decide)]
      refine w_test (w_op (w_meth (w_op (w_var rfl (w_var rfl (w_ixL (SqL.of (sab _ _ gP)) (at0 az) ⟨z.1, dx2, _, rfl, sab _ _ hox2, rfl, w_nil ⟨z.1, z.2, rfl, hzo.1.same sab, fun v2 Gc sc dnc => ?_⟩⟩))))))
      have sac := sab.trans sc
      refine w_meth (w_op (w_var rfl (w_var rfl (w_ixL (SqL.of (sac _ _ gL)) (at0 az) ⟨z.1, dx2, _, rfl, sac _ _ hox2, rfl, w_nil ⟨z.1, z.2, rfl, hzo.1.same sac, fun v3 Gd sd dnd => w_neDs (dnc.same sd) dnd hzo.2.lay.shaped ⟨_, rfl, ?_⟩⟩⟩))))
      rw [if_neg (by decide)]
      with_reducible refine w_next ?_
      exact ⟨⟨_, rfl⟩, sac.trans sd⟩
    rintro σ Ga ⟨⟨u2'', rfl⟩, sa⟩
    with_reducible refine w_seq ?_
    refine w_drop (w_bm (w_var rfl (w_tyL (sa _ _ e5) (w_cons (w_c (w_nil (w_appV (sa _ _ e5) (by rw [lsV_len, byKey_len]; omega) fun Gb kb eb => ?_)))))))
    have hL := kb _ _ nL (sa _ _ gL)
    have hP := kb _ _ nP (sa _ _ gP)
    refine w_ifS (w_test (w_op (w_cb (w_cons (w_var rfl (w_nil (w_lenL (SqL.of hP) (w_cb (w_cons (w_var rfl (w_nil (w_lenL (SqL.of hL) (w_neI ⟨_, rfl, ?_⟩)))))))))))))
    rw [decide_eq_false (by simp), if_neg (by decide)]
    with_reducible refine w_next ?_
    have fmb : Fm Any Ga Gb := Fm.kpL kb (sa _ _ e5)
    exact ⟨⟨_, _, _, _, rfl⟩, hL, hP, kb _ _ nD (sa _ _ gD), dnall_tk fmb.1 hplain (dD5.same sa), (hok5.same sa).fm fmb, tabS_lst (T5.ext sa) (sa _ _ e5) kb⟩
  rintro σ Gz ⟨⟨u2', u3', u6, u7, rfl⟩, fL, fP, fD, dD, hok4, hT4⟩
  with_reducible refine w_ret ?_
  refine w_op (w_call (w_cons (w_lstV (w_nil ⟨sz (by simp), w_new fun el G5 f5 s5 e5 => w_nil ⟨el, [], rfl, SqL.of e5, (fun y hy => nomatch hy), by simp, hT4.ext s5, fun ea G6 nea hne ext T6 e6 => ?_⟩⟩))))
  refine w_lstV (w_nil ⟨sz (by simp), w_new fun e2' G7 f7 s7 e7 => ?_⟩)
  rw [show byKey [] = [] from List.mergeSort_nil] at e6
  have e6 : G6 ea = some (.lst []) := e6
  exact w_eqDs (ok := Any) (ok2 := Any) (d := .list []) (.lst trivial (s7 _ _ e6) .nil) (.lst trivial e7 .nil) (by decide +kernel) (q G7)
end

section
variable {P : Program} {w : World} {K : PySem.W.Frag} {mg : Str → Option Value} {base : Heap} {C_Letter : Addr} {P_by_key : Addr}
def topS (i : Nat) : Stmt := PySem.Challenge.pw_lettersonce_k08_letters_by_key.main.body.getD i (.Pass ⟨0, 0, 0, 0⟩)
def inC (s : Stmt) (j : Nat) : Stmt := (C8.clsBody s).getD j (.Pass ⟨0, 0, 0, 0⟩)
abbrev s_Letter___init__ : Stmt := inC (topS 2) 0
theorem sc_Letter___init__ : FnScope ["self", "author", "number", "stamp", "seen", "body", "name", "count"] ["self", "author", "number", "stamp", "seen", "body"] (C8.fnScope s_Letter___init__) := C8.fnScope_by (by decide +kernel)
theorem c_Letter___init__ {f : Addr} {fd : FuncData} (M : Mk K C_Letter f) (hm : mg "Letter" = some (.ref C_Letter)) (F : C8.Fun K "__init__" "Letter.__init__" s_Letter___init__ f fd) (b : Binds K fd ["self", "author", "number", "stamp", "seen", "body"] [])
  (LC_Letter : IsC_Letter K C_Letter) :
  C8.Mak P w K mg base 1 "Letter" C_Letter (spInit K C_Letter) [] :=
  C8.mak0 M hm F b .nil sc_Letter___init__ (fun vs H Q E h => l_Letter___init__ h) (fun cdv A outer s H vs Q E hr h => ⟨t_Letter___init__ K C_Letter,
  (pss_cons (ps_fld (pv 0) (pv 1) rfl)
  (pss_cons (ps_fld (pv 0) (pv 2) rfl)
  (pss_cons (ps_fld (pv 0) (pv 3) rfl)
  (pss_cons (ps_fld (pv 0) (pv 4) rfl)
  (pss_cons (ps_fld (pv 0) (pv 5) rfl)
  (pss_one (ps_fld (pv 0) (pe_dc (own := [("name", 6), ("count", 7)]) (g := (gTup K 2 (gCons (gName 6) (gCons (gName 7) gNil)))) (tt := tYes) (by rfl) sc_Letter___init__.nd (pi_tup (pv 4)) (blkOk_by (own := [("name", 6), ("count", 7)]) (N := ["self", "author", "number", "stamp", "seen", "body", "name", "count"]) (sc := C8.fnScope s_Letter___init__) (by decide +kernel)) (fun _ _ _ _ _ => (pg_tup rfl (pgs_cons (pg_name (i := 6) sc_Letter___init__.nd rfl (Or.inl rfl)) (pgs_cons (pg_name (i := 7) sc_Letter___init__.nd rfl (Or.inl rfl)) pgs_nil)))) (fun _ _ _ _ _ => pts_nil) (fun _ _ _ _ _ => (pv 6)) (fun _ _ _ _ _ => (pv 7))) rfl))))))), r_Letter___init__ LC_Letter h⟩)
abbrev s_Letter_value : Stmt := inC (topS 2) 5
theorem sc_Letter_value : FnScope ["self"] ["self"] (C8.fnScope s_Letter_value) := C8.fnScope_by (by decide +kernel)
theorem c_Letter_value {f : Addr} {fd : FuncData} (me : Meth K C_Letter "value" f) (F : C8.Fun K "value" "Letter.value" s_Letter_value f fd) (b : Binds K fd ["self"] [])
  (LC_Letter : IsC_Letter K C_Letter) :
  C8.Met P w K mg base 1 C_Letter "value" (spValue K C_Letter) [] :=
  C8.met0 LC_Letter.cl me F b sc_Letter_value (fun vs H Q E h => l_Letter_value h) (fun cdv A outer s H vs Q E hr h => ⟨t_Letter_value K C_Letter,
  (pss_one (ps_ret (pe_tup (pa_cons (pe_fld (pv 0) rfl) (pa_cons (pe_fld (pv 0) rfl) (pa_cons (pe_fld (pv 0) rfl) (pa_cons (pe_fld (pv 0) rfl) (pa_cons (pe_fld (pv 0) rfl) pa_nil)))))))), r_Letter_value LC_Letter h⟩)
abbrev s_by_key : Stmt := topS 3
theorem sc_by_key : FnScope ["letters"] ["letters"] (C8.fnScope s_by_key) := C8.fnScope_by (by decide +kernel)
theorem c_by_key {f : Addr} {fd : FuncData} (F : C8.Def K mg "by_key" s_by_key f fd) (b : Binds K fd ["letters"] [])
  (LC_Letter : IsC_Letter K C_Letter) (n_sorted : mg "sorted" = none) {c_by_key_ : Addr} (TB_by_key : LamX.TabB base mg c_by_key_ P_by_key) (hc_by_key : fd.code = .ref c_by_key_) :
  C8.Cal P w K mg base 1 "by_key" (spByKey K C_Letter P_by_key) [] :=
  Wp.calC F hc_by_key b sc_by_key (fun vs H Q E h => l_by_key h) (fun A outer s H vs Q E hr h => ⟨t_by_key K C_Letter P_by_key,
  (pss_one (ps_ret (Wp.pe_sortBy (x := "letter") hr (by rfl) n_sorted (pv 0) TB_by_key rfl (by rfl) rfl (Wp.lamK_by (by decide +kernel)) rfl (by decide) (fun _ _ _ _ _ => rfl) (fun _ _ _ => rfl) (fun _ _ _ => rfl)))), r_by_key LC_Letter h⟩)
abbrev s__law_stream : Stmt := topS 6
theorem sc__law_stream : FnScope ["cell", "k", "digits"] ["cell", "k"] (C8.fnScope s__law_stream) := C8.fnScope_by (by decide +kernel)
theorem c__law_stream {f : Addr} {fd : FuncData} (F : C8.Def K mg "_law_stream" s__law_stream f fd) (b : Binds K fd ["cell", "k"] [])
  (n_int : mg "int" = none) :
  C8.Cal P w K mg base 1 "_law_stream" (spStream K) [] :=
  C8.cal0 F b .nil sc__law_stream (fun vs H Q E h => l__law_stream h) (fun cdv A outer s H vs Q E hr h => ⟨t__law_stream K,
  (pss_cons (ps_set (i := 2) sc__law_stream.nd rfl (Or.inl rfl) pe_int)
  (pss_cons (ps_if (pt_cmpR op_ge (pv 0) (pe_op op_pow pe_int pe_int) (nomark _)) (pss_one (ps_set (i := 2) sc__law_stream.nd rfl (Or.inl rfl) (pv 0))) pss_nil)
  (pss_one (ps_ret (pe_lst (pa_cons (pv 2) (pa_cons (pe_op op_mod (pe_callTy call_int1 (by rfl) n_int (by decide +kernel) (pa_cons (pe_op op_add (pe_op op_add (pe_op op_mul (pv 0) pe_int) (pe_op op_mul (pv 1) pe_int)) pe_int) pa_nil)) pe_int) pa_nil))))))), r__law_stream h⟩)
abbrev s__law_next : Stmt := topS 7
theorem sc__law_next : FnScope ["stream", "size", "drawn"] ["stream", "size"] (C8.fnScope s__law_next) := C8.fnScope_by (by decide +kernel)
theorem c__law_next {f : Addr} {fd : FuncData} (F : C8.Def K mg "_law_next" s__law_next f fd) (b : Binds K fd ["stream", "size"] [])
  (n_int : mg "int" = none) :
  C8.Cal P w K mg base 1 "_law_next" (spNext K) [] :=
  C8.cal0 F b .nil sc__law_next (fun vs H Q E h => l__law_next h) (fun cdv A outer s H vs Q E hr h => ⟨t__law_next K,
  (pss_cons (ps_if (pt_cmpR op_gt (pe_ix ix_list (pv 0) pe_int (fun _ _ => rfl)) pe_int (nomark _)) (pss_cons (ps_set (i := 2) sc__law_next.nd rfl (Or.inl rfl) (pe_op op_mod (pe_callTy call_int1 (by rfl) n_int (by decide +kernel) (pa_cons (pe_ix ix_list (pv 0) pe_int (fun _ _ => rfl)) pa_nil)) (pv 1)))
  (pss_cons (ps_asg (pe_op op_fdiv (pe_ix ix_list (pv 0) pe_int (fun _ _ => rfl)) (pv 1)) (pg_sub (pv 0) pe_int set_list))
  (pss_one (ps_ret (pv 2))))) pss_nil)
  (pss_cons (ps_asg (pe_op op_mod (pe_callTy call_int1 (by rfl) n_int (by decide +kernel) (pa_cons (pe_op op_add (pe_op op_mul (pe_ix ix_list (pv 0) pe_int (fun _ _ => rfl)) pe_int) pe_int) pa_nil)) pe_int) (pg_sub (pv 0) pe_int set_list))
  (pss_one (ps_ret (pe_op op_mod (pe_callTy call_int1 (by rfl) n_int (by decide +kernel) (pa_cons (pe_op op_fdiv (pe_op op_mod (pe_callTy call_int1 (by rfl) n_int (by decide +kernel) (pa_cons (pe_op op_add (pe_op op_mul (pe_ix ix_list (pv 0) pe_int (fun _ _ => rfl)) pe_int) pe_int) pa_nil)) pe_int) pe_int) pa_nil)) (pv 1)))))), r__law_next h⟩)
abbrev s__law_due : Stmt := topS 9
theorem sc__law_due : FnScope ["letters", "k", "rows", "row"] ["letters"] (C8.fnScope s__law_due) := C8.fnScope_by (by decide +kernel)
theorem c__law_due {f : Addr} {fd : FuncData} (F : C8.Def K mg "_law_due" s__law_due f fd) (b : Binds K fd ["letters"] [])
  (LC_Letter : IsC_Letter K C_Letter) (c_Letter_value : C8.Met P w K mg base 1 C_Letter "value" (spValue K C_Letter) []) (n_range : mg "range" = none) (n_len : mg "len" = none) (n_sorted : mg "sorted" = none) :
  C8.Cal P w K mg base 2 "_law_due" (spDue K C_Letter) [] :=
  C8.cal0 F b .nil sc__law_due (fun vs H Q E h => l__law_due h) (fun cdv A outer s H vs Q E hr h => ⟨t__law_due K C_Letter,
  (pss_cons (ps_setLc (i := 2) (own := [("k", 1)]) (g := (gName 1)) (tt := tYes) (by rfl) sc__law_due.nd rfl rfl (sw_true rfl rfl rfl (by decide +kernel)) (pi_range1 (by rfl) n_range (pa_cons (pe_callB call_len_seq (by rfl) n_len (by decide +kernel) (pa_cons (pv 0) pa_nil)) pa_nil)) (blkOk_by (own := [("k", 1)]) (N := ["letters", "k", "rows", "row"]) (sc := C8.fnScope s__law_due) (by decide +kernel)) (fun _ _ _ _ _ => (pg_name (i := 1) sc__law_due.nd rfl (Or.inl rfl))) (fun _ _ _ _ _ => pts_nil) (fun _ _ _ _ _ => (pe_tup (pa_cons (pe_fld (pe_ix ix_list (pv 0) (pv 1) (fun _ _ => rfl)) rfl) (pa_cons (pe_fld (pe_ix ix_list (pv 0) (pv 1) (fun _ _ => rfl)) rfl) (pa_cons (pv 1) pa_nil))))))
  (pss_one (ps_ret (pe_lc (own := [("row", 3)]) (g := (gName 3)) (tt := tYes) (by rfl) sc__law_due.nd (pi_list (pe_callB (Wp.cr_sortedW (Nat.lt_of_succ_lt (Wp.hu65 hr))) (by rfl) n_sorted (by decide +kernel) (pa_cons (pv 2) pa_nil))) (blkOk_by (own := [("row", 3)]) (N := ["letters", "k", "rows", "row"]) (sc := C8.fnScope s__law_due) (by decide +kernel)) (fun _ _ _ _ _ => (pg_name (i := 3) sc__law_due.nd rfl (Or.inl rfl))) (fun _ _ _ _ _ => pts_nil) (fun _ _ _ _ _ => (C8.pe_mt0 c_Letter_value hr (by decide) (pe_ix ix_list (pv 0) (pe_ix ix_tup (pv 3) pe_int (fun _ _ => rfl)) (fun _ _ => rfl)))))))), r__law_due LC_Letter h⟩)
abbrev s__law_drawn : Stmt := topS 8
theorem sc__law_drawn : FnScope ["stream", "k", "author", "stamp", "number", "seen", "kind", "body"] ["stream", "k"] (C8.fnScope s__law_drawn) := C8.fnScope_by (by decide +kernel)
theorem c__law_drawn {f : Addr} {fd : FuncData} (F : C8.Def K mg "_law_drawn" s__law_drawn f fd) (b : Binds K fd ["stream", "k"] [])
  (LC_Letter : IsC_Letter K C_Letter) (c__law_next : C8.Cal P w K mg base 1 "_law_next" (spNext K) []) (c_Letter___init__ : C8.Mak P w K mg base 1 "Letter" C_Letter (spInit K C_Letter) []) (n_min : mg "min" = none) (n_str : mg "str" = none) :
  C8.Cal P w K mg base 3 "_law_drawn" (spDrawn K C_Letter) [] :=
  C8.cal0 F b .nil sc__law_drawn (fun vs H Q E h => l__law_drawn h) (fun cdv A outer s H vs Q E hr h => ⟨t__law_drawn K C_Letter,
  (pss_cons (ps_set (i := 2) sc__law_drawn.nd rfl (Or.inl rfl) (pe_ix ix_tup (pe_tup (pa_cons pe_str (pa_cons pe_str (pa_cons pe_str (pa_cons pe_str (pa_cons pe_str (pa_cons pe_str (pa_cons pe_str pa_nil)))))))) (C8.pe_c c__law_next hr (by decide) (by rfl) (pa_cons (pv 0) (pa_cons pe_int pa_nil))) (fun _ _ => rfl)))
  (pss_cons (ps_set (i := 3) sc__law_drawn.nd rfl (Or.inl rfl) (pe_ix ix_tup (pe_tup (pa_cons (C8.pe_c c__law_next hr (by decide) (by rfl) (pa_cons (pv 0) (pa_cons pe_int pa_nil))) (pa_cons (C8.pe_c c__law_next hr (by decide) (by rfl) (pa_cons (pv 0) (pa_cons pe_int pa_nil))) (pa_cons (pe_op op_mul (C8.pe_c c__law_next hr (by decide) (by rfl) (pa_cons (pv 0) (pa_cons (pe_op op_pow pe_int pe_int) pa_nil))) (pe_op op_pow pe_int pe_int)) pa_nil)))) (C8.pe_c c__law_next hr (by decide) (by rfl) (pa_cons (pv 0) (pa_cons pe_int pa_nil))) (fun _ _ => rfl)))
  (pss_cons (ps_set (i := 4) sc__law_drawn.nd rfl (Or.inl rfl) (pe_op op_add pe_int (C8.pe_c c__law_next hr (by decide) (by rfl) (pa_cons (pv 0) (pa_cons (pe_callB (call_min2 rfl) (by rfl) n_min (by decide +kernel) (pa_cons pe_int (pa_cons (pe_op op_add pe_int (pv 3)) pa_nil))) pa_nil)))))
  (pss_cons (ps_set (i := 5) sc__law_drawn.nd rfl (Or.inl rfl) (pe_op op_catA (pe_tup (pa_cons (pe_tup (pa_cons (pv 2) (pa_cons (pv 4) pa_nil))) pa_nil)) (pe_op Wp.op_rep01 (pe_tup (pa_cons (pe_tup (pa_cons pe_str (pa_cons pe_int pa_nil))) pa_nil)) (C8.pe_c c__law_next hr (by decide) (by rfl) (pa_cons (pv 0) (pa_cons pe_int pa_nil))))))
  (pss_cons (ps_set (i := 6) sc__law_drawn.nd rfl (Or.inl rfl) (C8.pe_c c__law_next hr (by decide) (by rfl) (pa_cons (pv 0) (pa_cons pe_int pa_nil))))
  (pss_cons (ps_set (i := 7) sc__law_drawn.nd rfl (Or.inl rfl) (pe_ix ix_tup (pe_tup (pa_cons (pe_tup (pa_cons pe_str (pa_cons (pe_op op_add_str pe_str (pe_callTy call_str_int (by rfl) n_str (by decide +kernel) (pa_cons (pv 1) pa_nil))) pa_nil))) (pa_cons (pe_tup (pa_cons pe_str (pa_cons (pe_op op_add_str pe_str (pe_callTy call_str_int (by rfl) n_str (by decide +kernel) (pa_cons (pv 1) pa_nil))) pa_nil))) (pa_cons (pe_tup (pa_cons pe_str (pa_cons (pe_tup (pa_cons pe_str (pa_cons pe_int pa_nil))) (pa_cons (pe_op op_add_str pe_str (pe_callTy call_str_int (by rfl) n_str (by decide +kernel) (pa_cons (pv 1) pa_nil))) pa_nil)))) pa_nil)))) (pv 6) (fun _ _ => rfl)))
  (pss_one (ps_ret (C8.pe_mk c_Letter___init__ hr (by decide) (by rfl) (pa_cons (pv 2) (pa_cons (pv 4) (pa_cons (pe_op op_add pe_int (pv 3)) (pa_cons (pv 5) (pa_cons (pv 7) pa_nil)))))))))))))), r__law_drawn LC_Letter h⟩)
abbrev s_law : Stmt := topS 10
theorem sc_law : FnScope ["script", "letters", "k", "stream", "passed", "due", "turn", "answer"] ["script"] (C8.fnScope s_law) := C8.fnScope_by (by decide +kernel)
theorem f_law {f : Addr} {fd : FuncData} (F : C8.Fun K "law" "law" s_law f fd)
  (LC_Letter : IsC_Letter K C_Letter) (c__law_stream : C8.Cal P w K mg base 1 "_law_stream" (spStream K) []) (c__law_next : C8.Cal P w K mg base 1 "_law_next" (spNext K) []) (c__law_drawn : C8.Cal P w K mg base 3 "_law_drawn" (spDrawn K C_Letter) []) (c__law_due : C8.Cal P w K mg base 2 "_law_due" (spDue K C_Letter) []) (c_by_key : C8.Cal P w K mg base 1 "by_key" (spByKey K C_Letter P_by_key) []) (c_Letter_value : C8.Met P w K mg base 1 C_Letter "value" (spValue K C_Letter) []) (n_range : mg "range" = none) (n_min : mg "min" = none) (n_len : mg "len" = none) (n_list : mg "list" = none) (n_isinstance : mg "isinstance" = none) :
  FnOk P w K mg base C8.CX0 4 f fd ["script"] (spLaw K P_by_key) :=
  C8.fn0 F sc_law (fun vs H Q E h => l_law h) (fun cdv A outer s H vs Q E hr h => ⟨t_law K C_Letter P_by_key,
  (pss_cons (ps_set (i := 1) sc_law.nd rfl (Or.inl rfl) (pe_lst pa_nil))
  (pss_cons (ps_for PassesOwn.never rfl (pi_range1 (by rfl) n_range (pa_cons (pe_callB (call_min2 rfl) (by rfl) n_min (by decide +kernel) (pa_cons (pe_callB call_len_seq (by rfl) n_len (by decide +kernel) (pa_cons (pv 0) pa_nil)) (pa_cons pe_int pa_nil))) pa_nil)) (pg_name (i := 2) sc_law.nd rfl (Or.inl rfl)) (pss_cons (ps_set (i := 3) sc_law.nd rfl (Or.inl rfl) (C8.pe_c c__law_stream hr (by decide) (by rfl) (pa_cons (pe_ix ix_list (pv 0) (pv 2) (fun _ _ => rfl)) (pa_cons (pv 2) pa_nil))))
  (pss_one (ps_if (PW.pt (pw_and (pt_cmpR op_gt (pe_callB call_len_seq (by rfl) n_len (by decide +kernel) (pa_cons (pv 1) pa_nil)) pe_int (nomark _)) (pw_and1 (pt_cmpR op_eq (C8.pe_c c__law_next hr (by decide) (by rfl) (pa_cons (pv 3) (pa_cons pe_int pa_nil))) pe_int (nomark _))))) (pss_one (ps_expr (pe_bm PySem.F.plainAttrs_list PySem.F.slot_list_append PySem.F.type_list_append mt_append (pv 1) (pa_cons (pe_ix ix_list (pv 1) (C8.pe_c c__law_next hr (by decide) (by rfl) (pa_cons (pv 3) (pa_cons (pe_callB call_len_seq (by rfl) n_len (by decide +kernel) (pa_cons (pv 1) pa_nil)) pa_nil))) (fun _ _ => rfl)) pa_nil)))) (pss_one (ps_expr (pe_bm PySem.F.plainAttrs_list PySem.F.slot_list_append PySem.F.type_list_append mt_append (pv 1) (pa_cons (C8.pe_c c__law_drawn hr (by decide) (by rfl) (pa_cons (pv 3) (pa_cons (pv 2) pa_nil))) pa_nil))))))))
  (pss_cons (ps_set (i := 4) sc_law.nd rfl (Or.inl rfl) (pe_callTy call_list_of (by rfl) n_list (by decide +kernel) (pa_cons (pv 1) pa_nil)))
  (pss_cons (ps_set (i := 5) sc_law.nd rfl (Or.inl rfl) (C8.pe_c c__law_due hr (by decide) (by rfl) (pa_cons (pv 1) pa_nil)))
  (pss_cons (ps_for PassesOwn.never rfl (pi_range1 (by rfl) n_range (pa_cons pe_int pa_nil)) (pg_name (i := 6) sc_law.nd rfl (Or.inl rfl)) (pss_cons (ps_set (i := 7) sc_law.nd rfl (Or.inl rfl) (C8.pe_c c_by_key hr (by decide) (by rfl) (pa_cons (pv 4) pa_nil)))
  (pss_cons (ps_if (PW.pt (pw_or (pt_not (pt_val (pe_callB call_isi (by rfl) n_isinstance (by decide +kernel) (pa_cons (pv 7) (pa_cons (pe_bltn (v := .ty "list") (by rfl) n_list PyProof.Rows.boot_list rfl) pa_nil))))) (pw_or (pt_cmpR op_ne (pe_callB call_len_seq (by rfl) n_len (by decide +kernel) (pa_cons (pv 4) pa_nil)) (pe_callB call_len_seq (by rfl) n_len (by decide +kernel) (pa_cons (pv 1) pa_nil)) (nomark _)) (pw_or1 (pt_cmpR op_ne (pe_callB call_len_seq (by rfl) n_len (by decide +kernel) (pa_cons (pv 7) pa_nil)) (pe_callB call_len_seq (by rfl) n_len (by decide +kernel) (pa_cons (pv 5) pa_nil)) (nomark _)))))) (pss_one (ps_ret pe_bl)) pss_nil)
  (pss_cons (ps_for PassesOwn.never rfl (pi_range1 (by rfl) n_range (pa_cons (pe_callB call_len_seq (by rfl) n_len (by decide +kernel) (pa_cons (pv 5) pa_nil)) pa_nil)) (pg_name (i := 2) sc_law.nd rfl (Or.inl rfl)) (pss_one (ps_if (PW.pt (pw_or (pt_cmpR (op_neD hr.units) (C8.pe_mt0 c_Letter_value hr (by decide) (pe_ix ix_list (pv 7) (pv 2) (fun _ _ => rfl))) (pe_ix ix_list (pv 5) (pv 2) (fun _ _ => rfl)) (nomark _)) (pw_or1 (pt_cmpR (op_neD hr.units) (C8.pe_mt0 c_Letter_value hr (by decide) (pe_ix ix_list (pv 4) (pv 2) (fun _ _ => rfl))) (C8.pe_mt0 c_Letter_value hr (by decide) (pe_ix ix_list (pv 1) (pv 2) (fun _ _ => rfl))) (nomark _))))) (pss_one (ps_ret pe_bl)) pss_nil)))
  (pss_cons (ps_expr (pe_bm PySem.F.plainAttrs_list PySem.F.slot_list_append PySem.F.type_list_append mt_append (pv 7) (pa_cons pe_int pa_nil)))
  (pss_one (ps_if (pt_cmpR op_ne (pe_callB call_len_seq (by rfl) n_len (by decide +kernel) (pa_cons (pv 4) pa_nil)) (pe_callB call_len_seq (by rfl) n_len (by decide +kernel) (pa_cons (pv 1) pa_nil)) (nomark _)) (pss_one (ps_ret pe_bl)) pss_nil)))))))
  (pss_one (ps_ret (pe_cmpR (op_eqD hr.units) (C8.pe_c c_by_key hr (by decide) (by rfl) (pa_cons (pe_lst pa_nil) pa_nil)) (pe_lst pa_nil) (nomark _))))))))), r_law LC_Letter h⟩)
end
theorem all_mk {l : PySem.W.OpenLaw} {w : World} {K : PySem.W.Frag} {h : Heap} {mg : Str → Option Value} {fa f0 f1 f2 f3 f4 f5 f6 f7 c_by_key_ P_by_key C_Letter : Addr} (X : K.In h) (G : h.Ns mainGlobals mg) (hfa : mg "law" = some (.ref fa))
    {od0 an0 od1 an1 od2 an2 od3 an3 od4 an4 od5 an5 od6 an6 od7 an7 : Option Addr} {sl0 sl1 sl2 sl3 sl4 sl5 sl6 sl7 : Array (Option Value)} {oc0 kV0 dc0 pm0 cd0 ct0 oc1 kV1 dc1 pm1 cd1 ct1 oc2 kV2 dc2 pm2 ct2 oc3 kV3 dc3 pm3 cd3 ct3 oc4 kV4 dc4 pm4 cd4 ct4 oc5 kV5 dc5 pm5 cd5 ct5 oc6 kV6 dc6 pm6 cd6 ct6 oc7 kV7 dc7 pm7 cd7 ct7 : Value}
    (aC_Letter : PySem.W.nsIn K mainGlobals "Letter" = some (some (.ref C_Letter))) (pg_Letter : PySem.W.plainGet K C_Letter Str.empty = true) (hd_Letter : PySem.W.hasDictIn K C_Letter = true) (po_Letter : PySem.W.plainOver K C_Letter = true) (sa_Letter : PySem.W.findIn K (.ref C_Letter) "__setattr__" = some (some (.builtin "object.__setattr__"))) (mk_Letter : PySem.W.makesIn K C_Letter = true) (kc_Letter : PySem.W.keepIn K (.ref C_Letter) = true)
    (nf_Letter_author : PySem.W.findIn K (.ref C_Letter) "author" = some none)
    (nf_Letter_number : PySem.W.findIn K (.ref C_Letter) "number" = some none)
    (nf_Letter_stamp : PySem.W.findIn K (.ref C_Letter) "stamp" = some none)
    (nf_Letter_seen : PySem.W.findIn K (.ref C_Letter) "seen" = some none)
    (nf_Letter_body : PySem.W.findIn K (.ref C_Letter) "body" = some none)
    (nf_Letter_counts : PySem.W.findIn K (.ref C_Letter) "_counts" = some none)
    (a0 : PySem.W.findIn K (.ref C_Letter) "__init__" = some (some (.ref f0))) (i0 : PySem.W.isFn K (.ref f0) = true) (l0 : K.lookup f0 = some ⟨oc0, od0, .func (PySem.W.fnOf "__init__" "Letter.__init__" (C8.fnArgs s_Letter___init__) (C8.fnBody s_Letter___init__) (C8.fnScope s_Letter___init__) .none kV0 dc0 pm0 an0 cd0 ct0), sl0⟩) (c0 : PySem.W.codeIn K cd0 "Letter.__init__" = true) (k0 : PySem.W.keepIn K (.ref f0) = true)
    (a1 : PySem.W.findIn K (.ref C_Letter) "value" = some (some (.ref f1))) (i1 : PySem.W.isFn K (.ref f1) = true) (l1 : K.lookup f1 = some ⟨oc1, od1, .func (PySem.W.fnOf "value" "Letter.value" (C8.fnArgs s_Letter_value) (C8.fnBody s_Letter_value) (C8.fnScope s_Letter_value) .none kV1 dc1 pm1 an1 cd1 ct1), sl1⟩) (c1 : PySem.W.codeIn K cd1 "Letter.value" = true) (k1 : PySem.W.keepIn K (.ref f1) = true)
    (a2 : PySem.W.nsIn K mainGlobals "by_key" = some (some (.ref f2))) (l2 : K.lookup f2 = some ⟨oc2, od2, .func (PySem.W.fnOf "by_key" "by_key" (C8.fnArgs s_by_key) (C8.fnBody s_by_key) (C8.fnScope s_by_key) .none kV2 dc2 pm2 an2 (.ref c_by_key_) ct2), sl2⟩) (c2 : PySem.W.codeIn K (.ref c_by_key_) "by_key" = true) (k2 : PySem.W.keepIn K (.ref f2) = true)
    (a3 : PySem.W.nsIn K mainGlobals "_law_stream" = some (some (.ref f3))) (l3 : K.lookup f3 = some ⟨oc3, od3, .func (PySem.W.fnOf "_law_stream" "_law_stream" (C8.fnArgs s__law_stream) (C8.fnBody s__law_stream) (C8.fnScope s__law_stream) .none kV3 dc3 pm3 an3 cd3 ct3), sl3⟩) (c3 : PySem.W.codeIn K cd3 "_law_stream" = true) (k3 : PySem.W.keepIn K (.ref f3) = true)
    (a4 : PySem.W.nsIn K mainGlobals "_law_next" = some (some (.ref f4))) (l4 : K.lookup f4 = some ⟨oc4, od4, .func (PySem.W.fnOf "_law_next" "_law_next" (C8.fnArgs s__law_next) (C8.fnBody s__law_next) (C8.fnScope s__law_next) .none kV4 dc4 pm4 an4 cd4 ct4), sl4⟩) (c4 : PySem.W.codeIn K cd4 "_law_next" = true) (k4 : PySem.W.keepIn K (.ref f4) = true)
    (a5 : PySem.W.nsIn K mainGlobals "_law_due" = some (some (.ref f5))) (l5 : K.lookup f5 = some ⟨oc5, od5, .func (PySem.W.fnOf "_law_due" "_law_due" (C8.fnArgs s__law_due) (C8.fnBody s__law_due) (C8.fnScope s__law_due) .none kV5 dc5 pm5 an5 cd5 ct5), sl5⟩) (c5 : PySem.W.codeIn K cd5 "_law_due" = true) (k5 : PySem.W.keepIn K (.ref f5) = true)
    (a6 : PySem.W.nsIn K mainGlobals "_law_drawn" = some (some (.ref f6))) (l6 : K.lookup f6 = some ⟨oc6, od6, .func (PySem.W.fnOf "_law_drawn" "_law_drawn" (C8.fnArgs s__law_drawn) (C8.fnBody s__law_drawn) (C8.fnScope s__law_drawn) .none kV6 dc6 pm6 an6 cd6 ct6), sl6⟩) (c6 : PySem.W.codeIn K cd6 "_law_drawn" = true) (k6 : PySem.W.keepIn K (.ref f6) = true)
    (a7 : PySem.W.nsIn K mainGlobals "law" = some (some (.ref f7))) (l7 : K.lookup f7 = some ⟨oc7, od7, .func (PySem.W.fnOf "law" "law" (C8.fnArgs s_law) (C8.fnBody s_law) (C8.fnScope s_law) .none kV7 dc7 pm7 an7 cd7 ct7), sl7⟩) (c7 : PySem.W.codeIn K cd7 "law" = true) (k7 : PySem.W.keepIn K (.ref f7) = true)
    (z0 : PySem.W.nsIn K mainGlobals "sorted" = some none)
    (z1 : PySem.W.nsIn K mainGlobals "int" = some none)
    (z2 : PySem.W.nsIn K mainGlobals "range" = some none)
    (z3 : PySem.W.nsIn K mainGlobals "len" = some none)
    (z4 : PySem.W.nsIn K mainGlobals "min" = some none)
    (z5 : PySem.W.nsIn K mainGlobals "str" = some none)
    (z6 : PySem.W.nsIn K mainGlobals "list" = some none)
    (z7 : PySem.W.nsIn K mainGlobals "isinstance" = some none)
    (hT_by_key : h.get? P_by_key = some { cls := .none, data := .fields #[] }) (nT_by_key : K.lookup P_by_key = none) (ch_by_key : PySem.W.codeHdIn K c_by_key_ P_by_key = true)
    : LamX.LawAtS l w K C8.CX0 4 63 "script" mg fa h := by
  have e := hfa.symm.trans (PySem.W.mg_of X G a7)
  cases e
  have n_sorted : mg "sorted" = none := PySem.W.mg_none_of X G z0
  have n_int : mg "int" = none := PySem.W.mg_none_of X G z1
  have n_range : mg "range" = none := PySem.W.mg_none_of X G z2
  have n_len : mg "len" = none := PySem.W.mg_none_of X G z3
  have n_min : mg "min" = none := PySem.W.mg_none_of X G z4
  have n_str : mg "str" = none := PySem.W.mg_none_of X G z5
  have n_list : mg "list" = none := PySem.W.mg_none_of X G z6
  have n_isinstance : mg "isinstance" = none := PySem.W.mg_none_of X G z7
  have LC_Letter : IsC_Letter K C_Letter := ⟨⟨pg_Letter, hd_Letter, po_Letter, sa_Letter⟩, nf_Letter_author, nf_Letter_number, nf_Letter_stamp, nf_Letter_seen, nf_Letter_body, nf_Letter_counts⟩
  have F0 : C8.Fun K "__init__" "Letter.__init__" s_Letter___init__ _ _ := ⟨⟨_, _, _, _, _, _, _, _, _, _, rfl, l0, c0⟩⟩
  have F1 : C8.Fun K "value" "Letter.value" s_Letter_value _ _ := ⟨⟨_, _, _, _, _, _, _, _, _, _, rfl, l1, c1⟩⟩
  have F2 : C8.Fun K "by_key" "by_key" s_by_key _ _ := ⟨⟨_, _, _, _, _, _, _, _, _, _, rfl, l2, c2⟩⟩
  have F3 : C8.Fun K "_law_stream" "_law_stream" s__law_stream _ _ := ⟨⟨_, _, _, _, _, _, _, _, _, _, rfl, l3, c3⟩⟩
  have F4 : C8.Fun K "_law_next" "_law_next" s__law_next _ _ := ⟨⟨_, _, _, _, _, _, _, _, _, _, rfl, l4, c4⟩⟩
  have F5 : C8.Fun K "_law_due" "_law_due" s__law_due _ _ := ⟨⟨_, _, _, _, _, _, _, _, _, _, rfl, l5, c5⟩⟩
  have F6 : C8.Fun K "_law_drawn" "_law_drawn" s__law_drawn _ _ := ⟨⟨_, _, _, _, _, _, _, _, _, _, rfl, l6, c6⟩⟩
  have F7 : C8.Fun K "law" "law" s_law _ _ := ⟨⟨_, _, _, _, _, _, _, _, _, _, rfl, l7, c7⟩⟩
  refine ⟨PySem.W.fnOf "law" "law" (C8.fnArgs s_law) (C8.fnBody s_law) (C8.fnScope s_law) .none kV7 dc7 pm7 an7 cd7 ct7, [(c_by_key_, P_by_key)], spLaw K P_by_key, fun p hp => by rw [List.mem_singleton.mp hp]; exact hT_by_key, fun p hp => by rw [List.mem_singleton.mp hp]; exact nT_by_key, fun p hp => by rw [List.mem_singleton.mp hp]; exact PySem.W.codeHd_of_K X ch_by_key, fun s v => .of_eq rfl, fun H a ns hl _ ht hS => ⟨a, ns, rfl, hS, hl, LamX.TabS.nil (ht _ (List.mem_singleton.mpr rfl)), fun _ => rfl⟩, fun base _ _ TBs => ?_⟩
  have TB_by_key : LamX.TabB base mg c_by_key_ P_by_key := TBs (c_by_key_, P_by_key) (List.mem_singleton.mpr rfl)
  have c_Letter___init__ := c_Letter___init__ (P := l.prog) (w := w) (base := base) ⟨mk_Letter, a0, i0, kc_Letter⟩ (PySem.W.mg_of X G aC_Letter) F0 (F0.binds rfl fun _ _ _ _ _ _ us hl => match us, hl with | [_, _, _, _, _, _], _ => rfl) LC_Letter
  have c_Letter_value := c_Letter_value (P := l.prog) (w := w) (mg := mg) (base := base) ⟨a1, i1, k1⟩ F1 (F1.binds rfl fun _ _ _ _ _ _ us hl => match us, hl with | [_], _ => rfl) LC_Letter
  have c_by_key := c_by_key (P := l.prog) (w := w) (base := base) ⟨F2, PySem.W.mg_of X G a2, k2⟩ (F2.binds rfl fun _ _ _ _ _ _ us hl => match us, hl with | [_], _ => rfl) LC_Letter n_sorted TB_by_key rfl
  have c__law_stream := c__law_stream (P := l.prog) (w := w) (base := base) ⟨F3, PySem.W.mg_of X G a3, k3⟩ (F3.binds rfl fun _ _ _ _ _ _ us hl => match us, hl with | [_, _], _ => rfl) n_int
  have c__law_next := c__law_next (P := l.prog) (w := w) (base := base) ⟨F4, PySem.W.mg_of X G a4, k4⟩ (F4.binds rfl fun _ _ _ _ _ _ us hl => match us, hl with | [_, _], _ => rfl) n_int
  have c__law_due := c__law_due (P := l.prog) (w := w) (base := base) ⟨F5, PySem.W.mg_of X G a5, k5⟩ (F5.binds rfl fun _ _ _ _ _ _ us hl => match us, hl with | [_], _ => rfl) LC_Letter c_Letter_value n_range n_len n_sorted
  have c__law_drawn := c__law_drawn (P := l.prog) (w := w) (base := base) ⟨F6, PySem.W.mg_of X G a6, k6⟩ (F6.binds rfl fun _ _ _ _ _ _ us hl => match us, hl with | [_, _], _ => rfl) LC_Letter c__law_next c_Letter___init__ n_min n_str
  exact f_law F7 LC_Letter c__law_stream c__law_next c__law_drawn c__law_due c_by_key c_Letter_value n_range n_min n_len n_list n_isinstance
end T
open PySem PySem.W PyProof.Rows
set_option maxHeartbeats 0 in
theorem PySem.Challenge.cw_lettersonce_k08_letters_by_key_holds : PySem.Challenge.rw_lettersonce_k08_letters_by_key.Holds := by
  w_on; o_law; k_head; (case hw => w_witness2)
  k_fill
  refine LamX.walk_ofTs (l := PySem.Challenge.rw_lettersonce_k08_letters_by_key) (n := 63) (k := 4) (x := "script") (CX := fun _ => C8.CX0) rfl (by decide) rfl ⟨rfl, by decide, by decide⟩ (fun w h Y => PySem.W.km_in_of Y) ?F (fun _ _ _ _ _ h => h)
  case F =>
    intro w mg fa h Y KX G hmg
    refine' T.all_mk KX G hmg ?aC_Letter ?pg_Letter ?hd_Letter ?po_Letter ?sa_Letter ?mk_Letter ?kc_Letter ?nf_Letter_author ?nf_Letter_number ?nf_Letter_stamp ?nf_Letter_seen ?nf_Letter_body ?nf_Letter_counts ?a0 ?i0 ?l0 ?c0 ?k0 ?a1 ?i1 ?l1 ?c1 ?k1 ?a2 ?l2 ?c2 ?k2 ?a3 ?l3 ?c3 ?k3 ?a4 ?l4 ?c4 ?k4 ?a5 ?l5 ?c5 ?k5 ?a6 ?l6 ?c6 ?k6 ?a7 ?l7 ?c7 ?k7 ?z0 ?z1 ?z2 ?z3 ?z4 ?z5 ?z6 ?z7 ?hT_by_key ?nT_by_key ?ch_by_key
    (case aC_Letter => k_is); (case pg_Letter => k_is); (case hd_Letter => k_is); (case po_Letter => k_is); (case sa_Letter => k_is); (case mk_Letter => k_is); (case kc_Letter => k_is); (case nf_Letter_author => k_is); (case nf_Letter_number => k_is); (case nf_Letter_stamp => k_is); (case nf_Letter_seen => k_is); (case nf_Letter_body => k_is); (case nf_Letter_counts => k_is); (case a0 => k_is); (case i0 => k_is); (case l0 => k_is); (case c0 => k_is); (case k0 => k_is); (case a1 => k_is); (case i1 => k_is); (case l1 => k_is); (case c1 => k_is); (case k1 => k_is); (case a2 => k_is); (case l2 => k_is); (case c2 => k_is); (case k2 => k_is); (case a3 => k_is); (case l3 => k_is); (case c3 => k_is); (case k3 => k_is); (case a4 => k_is); (case l4 => k_is); (case c4 => k_is); (case k4 => k_is); (case a5 => k_is); (case l5 => k_is); (case c5 => k_is); (case k5 => k_is); (case a6 => k_is); (case l6 => k_is); (case c6 => k_is); (case k6 => k_is); (case a7 => k_is); (case l7 => k_is); (case c7 => k_is); (case k7 => k_is); (case z0 => k_is); (case z1 => k_is); (case z2 => k_is); (case z3 => k_is); (case z4 => k_is); (case z5 => k_is); (case z6 => k_is); (case z7 => k_is); (case hT_by_key => exact PySem.W.km_tabs_of Y _ (by simp only [List.mem_cons]; first | exact .inl rfl | (exact rfl))); (case nT_by_key => first | rfl | k_is); (case ch_by_key => first | rfl | k_is)
