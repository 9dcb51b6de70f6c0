import PyProof.Rows.All
import Wide.All
import OpenK.AllK
import Wide.FinOn
import HandS.ForMost
import HandS.IsInst
import HandS.More
import PyProof.TypeEq
import PyProof.InstEq
import HandS.Codes
import HandS.TupLe
import HandS.Walk
import HandS.StrMore
import PyProof.StrBlock2
import HandS.Property
import HandS.DictComp
import HandS.HeadHook3
import HandS.Zip
import HandS.FStr
import HandS.TupAny
import PyProof.FitsInt
import KE.DataCmp
import HandS.Exc
import HandS.ExcOwn
import HandS.ExcIs
import HandS.TryOnly
import PyProof.EqAt
import PyProof.EqKinds
import PyProof.DictRoadsH
import HandS.Base
import HandS.Dict
import HandS.NoneIn
import HandS.SetKeys
import HandS.Star
import KE.KDictPairs
import KE.SortData
import PySem.Challenge.RW_lettersonce_k21_whole_rolls_one_of_the_o
set_option Elab.async false
set_option linter.all false
set_option maxRecDepth 100000
set_option maxHeartbeats 4000000
namespace TyNe
open PySem PySem.Spec PyProof.Rows L2 PySem.TypeEq Builtin

theorem slot_type_ne : Slot "type" (cmpInfo .NotEq).2.1 "object.__ne__" :=
  .of (owner := "object") (n := "__ne__") (by rw [typeLookup_type, builtinLookup_eq_fast]; kernel_rfl) (by decide +kernel) (by decide +kernel) (by decide +kernel)
    (by first | exact .inl (by decide +kernel) | exact .inr (by decide +kernel)) (by rw [isSubtype_type]; kernel_rfl)
theorem slot_type_ne_refl : Slot "type" (cmpInfo .NotEq).2.2 "object.__ne__" :=
  .of (owner := "object") (n := "__ne__") (by rw [typeLookup_type, builtinLookup_eq_fast]; kernel_rfl) (by decide +kernel) (by decide +kernel) (by decide +kernel)
    (by first | exact .inl (by decide +kernel) | exact .inr (by decide +kernel)) (by rw [isSubtype_type]; kernel_rfl)
theorem slot_type_eq' : Slot "type" "__eq__" "object.__eq__" := slot_type_eq
section
variable {prog : Program} {w : World} {A : Around} {E : Value → Shared → Prop} {s : Shared}
theorem ne_entry_same {X : String} (hX : ∀ s' : Shared, s'.TypeIs (.type X) "type") {Q : Fin → Shared → Prop} (h : Q (.done (.ret (.bool false))) s) :
    wpAny (model prog w) A (Builtin.«object.__ne__» ⟨[.type X, .type X], []⟩) Q E s := by
  unfold Builtin.«object.__ne__»
  repeat (first
    | with_reducible refine wpAny_cRoomFor_or (.inl rfl) ?_
    | (refine wpAny_bind (m := callSpecialIfBound? (.type X) (Str.ofString "__eq__") [.type X]) (wpAny_callSpecialIfBound?_slot (hX s) slot_type_eq'
        (call_gives slot_type_eq' (hX s) F.entry_object_eq (F.args_object_eq_2 _ _) (object_eq_same rfl (by simp)) ?_)))
    | wp_step)
  show wpAny _ A _ Q E s
  repeat (first | exact h | exact wpAny_pure h | (refine wpAny_bind (m := truthy (.bool _)) (wpAny_truthy_bool ?_)) | wp_step)
theorem ne_entry_other {X Y : String} (hX : ∀ s' : Shared, s'.TypeIs (.type X) "type") (hne : (Value.type X == Value.type Y) = false) {Q : Fin → Shared → Prop} (h : Q (.done (.ret .notImplemented)) s) :
    wpAny (model prog w) A (Builtin.«object.__ne__» ⟨[.type X, .type Y], []⟩) Q E s := by
  unfold Builtin.«object.__ne__»
  repeat (first
    | with_reducible refine wpAny_cRoomFor_or (.inl rfl) ?_
    | (refine wpAny_bind (m := callSpecialIfBound? (.type X) (Str.ofString "__eq__") [.type Y]) (wpAny_callSpecialIfBound?_slot (hX s) slot_type_eq'
        (call_gives slot_type_eq' (hX s) F.entry_object_eq (F.args_object_eq_2 _ _) (object_eq_other rfl hne) ?_)))
    | wp_step)
  show wpAny _ A _ Q E s
  repeat (first | exact h | exact wpAny_pure h | wp_step)
theorem call_ne_same {X : String} (hX : ∀ s' : Shared, s'.TypeIs (.type X) "type") {Q : Value → Shared → Prop} (h : Q (.bool false) s) :
    wpAny (model prog w) A (call (.builtin "object.__ne__") [.type X, .type X]) Q E s :=
  wpAny_call_entry slot_type_ne (hX s) F.cmpEntry_ne (ne_entry_same hX ⟨_, rfl, h⟩) (F.cmpArgs_ne _ _)
theorem call_ne_other {X Y : String} (hX : ∀ s' : Shared, s'.TypeIs (.type X) "type") (hne : (Value.type X == Value.type Y) = false) {Q : Value → Shared → Prop} (h : Q .notImplemented s) :
    wpAny (model prog w) A (call (.builtin "object.__ne__") [.type X, .type Y]) Q E s :=
  wpAny_call_entry slot_type_ne (hX s) F.cmpEntry_ne (ne_entry_other hX hne ⟨_, rfl, h⟩) (F.cmpArgs_ne _ _)
theorem ne_type_same {Q : Value → Shared → Prop} {X : String} (hX : ∀ s' : Shared, s'.TypeIs (.type X) "type") (h : Q (.bool false) s) : wpAny (model prog w) A (compareOp .NotEq (.type X) (.type X)) Q E s := by
  show wpAny _ A (richCompare .NotEq _ _) Q E s
  exact wpAny_richCompare_same (T := "type") (hX s) (hX s) slot_type_ne (call_ne_same hX ⟨(by intro e; cases e), h⟩)
theorem rich_ne_decline {M : Model} {a b : Value} {T id : String} {k : Bool} {Q : Value → Shared → Prop} (ha : ∀ s' : Shared, s'.TypeIs a T) (hb : ∀ s' : Shared, s'.TypeIs b T)
    (h1 : Slot T (cmpInfo .NotEq).2.1 id) (h2 : Slot T (cmpInfo .NotEq).2.2 id) (hv : [a, b].any Value.onHeap = false) (hk : isSame a b = pure k)
    (hc : wpAny M A (call (.builtin id) [a, b]) (fun v s₁ => v = .notImplemented ∧ wpAny M A (call (.builtin id) [b, a]) (fun v s₂ => v = .notImplemented ∧ Q (.bool (!k)) s₂) E s₁) E s) :
    wpAny M A (richCompare .NotEq a b) Q E s := by
  rcases hi : cmpInfo CmpOp.NotEq with ⟨sym, f, r⟩
  rw [hi] at h1 h2
  simp only [richCompare, hi, (ha s).oneThing_none]
  try with_reducible refine wpAny_holding ?_
  refine wpAny_bind (wpAny_cRoomFor_or (.inl hv) ?_)
  refine wpAny_bind (wpAny_typeOf (ha s) (wpAny_bind (wpAny_typeOf (hb s) ?_)))
  simp only [bne_self_eq_false, Bool.false_eq_true, if_false, pure_bind, Bool.not_false, if_true]
  refine wpAny_bind (m := tryCompare a _ b) (wpAny_tryCompare_declines (ha s) h1 (wpAny_mono hc (fun v s₁ h₁ => ⟨h₁.1, ?_⟩) fun _ _ x => x))
  refine wpAny_bind (m := tryCompare b _ a) (wpAny_tryCompare_declines (hb s₁) h2 (wpAny_mono h₁.2 (fun v s₂ h₂ => ⟨h₂.1, ?_⟩) fun _ _ x => x))
  refine wpAny_bind (wpAny_rule (wpAny_bind (wpAny_of_eq hk (wpAny_pure h₂.2))))
theorem ne_type_other {Q : Value → Shared → Prop} {X Y : String} (hX : ∀ s' : Shared, s'.TypeIs (.type X) "type") (hY : ∀ s' : Shared, s'.TypeIs (.type Y) "type") (hne : (Value.type X == Value.type Y) = false) (h : Q (.bool true) s) : wpAny (model prog w) A (compareOp .NotEq (.type X) (.type Y)) Q E s := by
  have hne' : (Value.type Y == Value.type X) = false := by
    rw [Bool.eq_false_iff] at hne ⊢
    intro e
    exact hne (by rw [beq_iff_eq] at e ⊢; exact e.symm)
  show wpAny _ A (richCompare .NotEq _ _) Q E s
  exact rich_ne_decline (T := "type") (k := false) hX hY slot_type_ne slot_type_ne_refl rfl (by rw [isSame_plain rfl, hne])
    (call_ne_other hX hne ⟨rfl, call_ne_other hY hne' ⟨rfl, h⟩⟩)
end
/-- the types whose own type is plainly `type` -/
def Ty9 (a : String) : Prop := ∀ s' : Shared, s'.TypeIs (.type a) "type"
section
variable {X : Cx}
def rEqTy : R2 := fun x y H Q => ∃ a b, x = .ty a ∧ y = .ty b ∧ Ty9 a ∧ Ty9 b ∧ Q (.bl (decide (a = b))) H
def rNeTy : R2 := fun x y H Q => ∃ a b, x = .ty a ∧ y = .ty b ∧ Ty9 a ∧ Ty9 b ∧ Q (.bl (!decide (a = b))) H
theorem op_eqTy : OpR X (compareOp .Eq) rEqTy := by
  intro pins s σ H x y v u Q I rx ry h
  obtain ⟨a, b, rfl, rfl, ta, tb, q⟩ := h
  cases (show v = Value.type a from rx)
  cases (show u = Value.type b from ry)
  by_cases e : a = b
  · subst e
    exact eq_type_same ta (fin_bl I q (by simp))
  · exact eq_type_other ta tb (by rw [ty_beq]; exact decide_eq_false e) (fin_bl I q (by simp [e]))
theorem op_neTy : OpR X (compareOp .NotEq) rNeTy := by
  intro pins s σ H x y v u Q I rx ry h
  obtain ⟨a, b, rfl, rfl, ta, tb, q⟩ := h
  cases (show v = Value.type a from rx)
  cases (show u = Value.type b from ry)
  by_cases e : a = b
  · subst e
    exact ne_type_same ta (fin_bl I q (by simp))
  · exact ne_type_other ta tb (by rw [ty_beq]; exact decide_eq_false e) (fin_bl I q (by simp [e]))
end
end TyNe

namespace Wp
open PySem PySem.Spec PyProof.Rows L2 TyNe

/-! ### the rules' readings under short names -/
abbrev qAdd : R2 := rI0 fun i j => .int (i + j)
abbrev qSub : R2 := rI0 fun i j => .int (i - j)
abbrev qMul : R2 := rI CMul fun i j => .int (i * j)
abbrev qFdiv : R2 := rI CDiv fun i j => .int (i / j)
abbrev qMod : R2 := rI (fun _ j => 0 < j) fun i j => .int (i % j)
abbrev qPow : R2 := rI CPow fun i j => .int (i ^ j.toNat)
abbrev qNeg : V → Hp → VK → Prop := rU fun i => .int (-i)
abbrev qLt : R2 := rI0 fun i j => .bl (decide (i < j))
abbrev qLe : R2 := rI0 fun i j => .bl (decide (i ≤ j))
abbrev qGt : R2 := rI0 fun i j => .bl (decide (j < i))
abbrev qGe : R2 := rI0 fun i j => .bl (decide (j ≤ i))
abbrev qAddS : R2 := fun x y H Q => ∃ i j, x = .str i ∧ y = .str j ∧ i.length + j.length ≤ sizeLine ∧ Q (.str (i ++ j)) H
abbrev qInSign : R2 := fun x y H Q => ∃ (c : Nat) (z : Str), x = .str ⟨#[c]⟩ ∧ y = .str z ∧ Q (.bl (decide (c ∈ z.cps.toList))) H
abbrev qNinSign : R2 := fun x y H Q => ∃ (c : Nat) (z : Str), x = .str ⟨#[c]⟩ ∧ y = .str z ∧ Q (.bl (!decide (c ∈ z.cps.toList))) H
abbrev qLtS : R2 := fun x y H Q => ∃ i j, x = .str i ∧ y = .str j ∧ Q (.bl (decide (i.cps.toList < j.cps.toList))) H
abbrev qLeS : R2 := fun x y H Q => ∃ i j, x = .str i ∧ y = .str j ∧ Q (.bl (!decide (j.cps.toList < i.cps.toList))) H
abbrev qGtS : R2 := fun x y H Q => ∃ i j, x = .str i ∧ y = .str j ∧ Q (.bl (decide (j.cps.toList < i.cps.toList))) H
abbrev qGeS : R2 := fun x y H Q => ∃ i j, x = .str i ∧ y = .str j ∧ Q (.bl (!decide (i.cps.toList < j.cps.toList))) H
abbrev qIsBl : R2 := fun x y H Q => ∃ a b, x = .bl a ∧ y = .bl b ∧ Q (.bl (decide (a = b))) H
abbrev qLenStr : List V → Hp → VK → Prop := fun xs H Q => ∃ z, xs = [.str z] ∧ z.length ≤ sizeLine ∧ Q (.int z.length) H
abbrev qLenSeq (K : PySem.W.Frag) : List V → Hp → VK → Prop := fun xs H Q => ∃ p ys, xs = [.ref p] ∧ (SqL K H p ys ∨ SqT K H p ys) ∧ Q (.int ys.length) H
abbrev qInt1 : List V → Hp → VK → Prop := fun xs H Q => (∃ i, xs = [.int i] ∧ Q (.int i) H) ∨ ∃ k, xs = [.bl k] ∧ Q (.int (if k then 1 else 0)) H
abbrev qStrInt : List V → Hp → VK → Prop := fun xs H Q => ∃ i : Int, xs = [.int i] ∧ i.natAbs.log2 < 1920 ∧ Q (.str (toString i)) H
abbrev qTupleOf (K : PySem.W.Frag) : List V → Hp → VK → Prop := fun xs H Q => ∃ p ys, xs = [.ref p] ∧ ((SqL K H p ys ∧ ∀ l, H l = none → Q (.ref l) (upd H l (.tup ys))) ∨ (SqT K H p ys ∧ Q (.ref p) H))
abbrev qListOf (K : PySem.W.Frag) : List V → Hp → VK → Prop := fun xs H Q => ∃ p ys, xs = [.ref p] ∧ (SqL K H p ys ∨ SqT K H p ys) ∧ ∀ l, H l = none → Q (.ref l) (upd H l (.lst ys))
abbrev qIsN : R2 := fun x y H Q => y = .non ∧ Q (.bl (decide (x = .non))) H
abbrev qNotN : R2 := fun x y H Q => y = .non ∧ Q (.bl (!decide (x = .non))) H
abbrev qMax2 : List V → Hp → VK → Prop := fun xs H Q => ∃ i j, xs = [.int i, .int j] ∧ Q (.int (if j > i then j else i)) H
abbrev qMin2 : List V → Hp → VK → Prop := fun xs H Q => ∃ i j, xs = [.int i, .int j] ∧ Q (.int (if j < i then j else i)) H

/-! ### heaps -/
/-- what was tracked stands as it stood, but p -/
def Kp (p : Addr) (H H' : Hp) : Prop := ∀ b o, b ≠ p → H b = some o → H' b = some o
theorem Same.kp {p : Addr} {H H' : Hp} (h : Same H H') : Kp p H H' := fun b o _ e => h b o e
theorem Kp.refl {p : Addr} {H : Hp} : Kp p H H := fun _ _ _ e => e
theorem Kp.trans {p : Addr} {H H1 H2 : Hp} (a : Kp p H H1) (b : Kp p H1 H2) : Kp p H H2 := fun c o n e => b c o n (a c o n e)
theorem Kp.get {p : Addr} {H H' : Hp} (h : Kp p H H') {b : Addr} {o : HO} (n : b ≠ p) (e : H b = some o) : H' b = some o := h b o n e
theorem Kp.updp {p : Addr} {H H' : Hp} {o : HO} (h : Kp p H H') : Kp p H (upd H' p o) := fun b u n e => by
  rw [upd_ne n]
  exact h b u n e
theorem Kp.upd {p a : Addr} {H H' : Hp} {o : HO} (h : Kp p H H') (n : H a = none) : Kp p H (upd H' a o) := fun b u m e => by
  rw [upd_ne (ne_of_none e n)]
  exact h b u m e
theorem Same.upd {a : Addr} {H H' : Hp} {o : HO} (h : Same H H') (n : H a = none) : Same H (L2.upd H' a o) := fun b u e => by
  rw [upd_ne (ne_of_none e n)]
  exact h b u e
theorem Kp.same {p : Addr} {H H' : Hp} (h : Kp p H H') (n : H p = none) : Same H H' := fun b o e => h b o (ne_of_none e n) e
theorem Kp.free {p a : Addr} {H H' : Hp} (h : Kp p H H') (n : a ≠ p) (e : H' a = none) : H a = none := by
  cases q : H a with
  | none => rfl
  | some o => rw [h a o n q] at e; cases e
/-- a stream -/
def Stm (H : Hp) (p : Addr) : Prop := ∃ a b : Int, H p = some (.lst [.int a, .int b]) ∧ 0 ≤ a ∧ 0 ≤ b
theorem Stm.ne {H : Hp} {p a : Addr} (h : Stm H p) (e : H a = none) : a ≠ p := by
  obtain ⟨x, y, h, _⟩ := h
  exact (ne_of_none h e).symm
theorem Stm.same {H H' : Hp} {p : Addr} (h : Stm H p) (s : Same H H') : Stm H' p := by
  obtain ⟨x, y, h, r⟩ := h
  exact ⟨x, y, s _ _ h, r⟩
theorem Stm.up {H : Hp} {p a : Addr} {o : HO} (h : Stm H p) (e : H a = none) : Stm (L2.upd H a o) p := by
  obtain ⟨x, y, h, r⟩ := h
  exact ⟨x, y, by rw [upd_ne (ne_of_none h e)]; exact h, r⟩

/-! ### steps, in the order of the reading -/
section
variable {K : PySem.W.Frag} {σ : L2.St} {H : Hp} {Q : VK} {v : V} {ta tb tc te : TE} {tt uu : TT} {r r' : R2} {D : Ends} {t u : TS}
theorem w_var {i : Nat} (h : σ[i]? = some (some v)) (q : Q v H) : tVar i σ H Q := ⟨v, h, q⟩
theorem w_c (q : Q v H) : tC v σ H Q := q
theorem w_op (q : ta σ H fun x H1 => tb σ H1 fun y H2 => r x y H2 Q) : tOp r ta tb σ H Q := q
theorem w_un {r : V → Hp → VK → Prop} (q : ta σ H fun x H1 => r x H1 Q) : tUn r ta σ H Q := q
theorem w_I0 {g : Int → Int → V} {i j : Int} (q : Q (g i j) H) : rI0 g (.int i) (.int j) H Q := ⟨i, j, rfl, rfl, q⟩
theorem w_I {C : Int → Int → Prop} {g : Int → Int → V} {i j : Int} (c : C i j) (q : Q (g i j) H) : rI C g (.int i) (.int j) H Q := ⟨i, j, rfl, rfl, c, q⟩
theorem w_U {g : Int → V} {i : Int} (q : Q (g i) H) : rU g (.int i) H Q := ⟨i, rfl, q⟩
theorem w_eqI {i j : Int} (q : Q (.bl (decide (i = j))) H) : rEq (.int i) (.int j) H Q := ⟨rfl, by
  have e : decide (V.int i = V.int j) = decide (i = j) := by rw [decide_eq_decide]; exact ⟨fun z => V.int.inj z, fun z => by rw [z]⟩
  rw [e]; exact q⟩
theorem w_neI {i j : Int} (q : Q (.bl (decide (i ≠ j))) H) : rNe (.int i) (.int j) H Q := ⟨rfl, by
  have e : (!decide (V.int i = V.int j)) = decide (i ≠ j) := by rw [decide_not]; congr 1; rw [decide_eq_decide]; exact ⟨fun z => V.int.inj z, fun z => by rw [z]⟩
  rw [e]; exact q⟩
theorem w_eqS {i j : Str} (q : Q (.bl (decide (i = j))) H) : rEq (.str i) (.str j) H Q := ⟨rfl, by
  have e : decide (V.str i = V.str j) = decide (i = j) := by rw [decide_eq_decide]; exact ⟨fun z => V.str.inj z, fun z => by rw [z]⟩
  rw [e]; exact q⟩
theorem w_neS {i j : Str} (q : Q (.bl (decide (i ≠ j))) H) : rNe (.str i) (.str j) H Q := ⟨rfl, by
  have e : (!decide (V.str i = V.str j)) = decide (i ≠ j) := by rw [decide_not]; congr 1; rw [decide_eq_decide]; exact ⟨fun z => V.str.inj z, fun z => by rw [z]⟩
  rw [e]; exact q⟩
theorem w_eqB {i j : Bool} (q : Q (.bl (decide (i = j))) H) : rEq (.bl i) (.bl j) H Q := ⟨rfl, by
  have e : decide (V.bl i = V.bl j) = decide (i = j) := by rw [decide_eq_decide]; exact ⟨fun z => V.bl.inj z, fun z => by rw [z]⟩
  rw [e]; exact q⟩
theorem w_eqTy {a b : String} (ha : Ty9 a) (hb : Ty9 b) (q : Q (.bl (decide (a = b))) H) : rEqTy (.ty a) (.ty b) H Q := ⟨a, b, rfl, rfl, ha, hb, q⟩
theorem w_neTy {a b : String} (ha : Ty9 a) (hb : Ty9 b) (q : Q (.bl (decide (a ≠ b))) H) : rNeTy (.ty a) (.ty b) H Q := ⟨a, b, rfl, rfl, ha, hb, by rw [← decide_not]; exact q⟩
theorem w_addS {i j : Str} (h : i.length + j.length ≤ sizeLine) (q : Q (.str (i ++ j)) H) : qAddS (.str i) (.str j) H Q := ⟨i, j, rfl, rfl, h, q⟩
theorem w_inSign {c : Nat} {z : Str} (q : Q (.bl (decide (c ∈ z.cps.toList))) H) : qInSign (.str ⟨#[c]⟩) (.str z) H Q := ⟨c, z, rfl, rfl, q⟩
theorem w_ninSign {c : Nat} {z : Str} (q : Q (.bl (!decide (c ∈ z.cps.toList))) H) : qNinSign (.str ⟨#[c]⟩) (.str z) H Q := ⟨c, z, rfl, rfl, q⟩
theorem w_ixL {p : Addr} {xs : List V} {i : Int} (h : SqL K H p xs) (ha : atI xs i = some v) (q : Q v H) : rIxL K (.ref p) (.int i) H Q := ⟨p, xs, i, v, rfl, rfl, h, ha, q⟩
theorem w_ixT {p : Addr} {xs : List V} {i : Int} (h : SqT K H p xs) (ha : atI xs i = some v) (q : Q v H) : rIxT K (.ref p) (.int i) H Q := ⟨p, xs, i, v, rfl, rfl, h, ha, q⟩
theorem w_ixS {z : Str} {i : Int} {c : Nat} (h : z.length ≤ sizeLine) (ha : atI z.cps.toList i = some c) (q : Q (.str ⟨#[c]⟩) H) : rIxS (.str z) (.int i) H Q := ⟨z, i, c, rfl, rfl, h, ha, q⟩
theorem w_nil {R : List V → Hp → Prop} (q : R [] H) : tNil σ H R := q
theorem w_cons {tr : TA} {R : List V → Hp → Prop} (q : ta σ H fun x H1 => tr σ H1 fun xs H2 => R (x :: xs) H2) : tCons ta tr σ H R := q
theorem w_tup {tr : TA} (q : tr σ H fun xs H1 => xs.length ≤ sizeLine ∧ ∀ p, H1 p = none → Q (.ref p) (upd H1 p (.tup xs))) : tTup tr σ H Q := q
theorem w_lst {tr : TA} (q : tr σ H fun xs H1 => xs.length ≤ sizeLine ∧ ∀ p, H1 p = none → Q (.ref p) (upd H1 p (.lst xs))) : tLst tr σ H Q := q
theorem w_cb {r : List V → Hp → VK → Prop} {tr : TA} (q : tr σ H fun vs H1 => r vs H1 Q) : tCB r tr σ H Q := q
theorem w_lenStr {z : Str} (h : z.length ≤ sizeLine) (q : Q (.int z.length) H) : qLenStr [.str z] H Q := ⟨z, rfl, h, q⟩
theorem w_lenL {p : Addr} {xs : List V} (h : SqL K H p xs) (q : Q (.int xs.length) H) : qLenSeq K [.ref p] H Q := ⟨p, xs, rfl, .inl h, q⟩
theorem w_lenT {p : Addr} {xs : List V} (h : SqT K H p xs) (q : Q (.int xs.length) H) : qLenSeq K [.ref p] H Q := ⟨p, xs, rfl, .inr h, q⟩
theorem w_int1 {i : Int} (q : Q (.int i) H) : qInt1 [.int i] H Q := .inl ⟨i, rfl, q⟩
theorem w_int1b {c : Prop} [Decidable c] (q : Q (.int (if c then 1 else 0)) H) : qInt1 [.bl (decide c)] H Q := .inr ⟨_, rfl, by
  by_cases h : c
  · simp only [h, decide_true, if_true] at q ⊢; exact q
  · simp only [h, decide_false, if_false, Bool.false_eq_true] at q ⊢; exact q⟩
theorem w_strInt {i : Int} (h0 : 0 ≤ i) (h1 : i ≤ 100000000000000000000) (q : Q (.str (toString i)) H) : qStrInt [.int i] H Q := ⟨i, rfl, by
  have h2 : i.natAbs ≤ 100000000000000000000 := by omega
  have h3 : i.natAbs.log2 < 67 := by
    by_cases h : i.natAbs = 0
    · rw [h]; decide
    · exact (Nat.log2_lt h).mpr (Nat.lt_of_le_of_lt h2 (by decide))
  omega, q⟩
theorem w_tupleOfL {p : Addr} {ys : List V} (h : SqL K H p ys) (q : ∀ l, H l = none → Q (.ref l) (upd H l (.tup ys))) : qTupleOf K [.ref p] H Q := ⟨p, ys, rfl, .inl ⟨h, q⟩⟩
theorem w_tupleOfT {p : Addr} {ys : List V} (h : SqT K H p ys) (q : Q (.ref p) H) : qTupleOf K [.ref p] H Q := ⟨p, ys, rfl, .inr ⟨h, q⟩⟩
theorem w_listOf {p : Addr} {ys : List V} (h : SqL K H p ys ∨ SqT K H p ys) (q : ∀ l, H l = none → Q (.ref l) (upd H l (.lst ys))) : qListOf K [.ref p] H Q := ⟨p, ys, rfl, h, q⟩
theorem w_isN (q : Q (.bl (decide (v = .non))) H) : qIsN v .non H Q := ⟨rfl, q⟩
theorem w_notN (q : Q (.bl (!decide (v = .non))) H) : qNotN v .non H Q := ⟨rfl, q⟩
theorem w_bm {T : String} {r : V → List V → Hp → VK → Prop} {tr : TA} (q : te σ H fun x H1 => tyV K T x H1 ∧ tr σ H1 fun xs H2 => r x xs H2 Q) : tBM K T r te tr σ H Q := q
theorem w_tyL {p : Addr} {xs : List V} {A : Prop} (h : H p = some (.lst xs)) (q : A) : tyV K "list" (.ref p) H ∧ A := ⟨.inl ⟨rfl, xs, SqL.of h⟩, q⟩
theorem w_app {p : Addr} {xs : List V} (h : H p = some (.lst xs)) (z : xs.length < sizeLine) (q : Q .non (upd H p (.lst (xs ++ [v])))) : rAppend (.ref p) [v] H Q := ⟨p, xs, v, rfl, rfl, h, z, q⟩
theorem w_inL {neg : Bool} {p : Addr} {xs : List V} (h : SqL K H p xs) (f : flatV v = true) (fs : xs.all flatV = true) (q : Q (.bl (if neg then !inV v xs else inV v xs)) H) : rIn K neg v (.ref p) H Q := ⟨p, xs, rfl, .inl h, f, fs, q⟩
theorem w_inT {neg : Bool} {p : Addr} {xs : List V} (h : SqT K H p xs) (f : flatV v = true) (fs : xs.all flatV = true) (q : Q (.bl (if neg then !inV v xs else inV v xs)) H) : rIn K neg v (.ref p) H Q := ⟨p, xs, rfl, .inr h, f, fs, q⟩
theorem inV_strs (z : Str) (ys : List Str) : inV (.str z) (ys.map V.str) = decide (z ∈ ys) := by
  unfold inV
  rw [List.any_map, Bool.eq_iff_iff, List.any_eq_true, decide_eq_true_eq]
  constructor
  · rintro ⟨y, hy, e⟩
    have e' : (y == z) = true := e
    rw [beq_iff_eq] at e'
    exact e' ▸ hy
  · intro h
    refine ⟨z, h, ?_⟩
    show (z == z) = true
    exact beq_self_eq_true z
theorem flat_strs (ys : List Str) : (ys.map V.str).all flatV = true := by
  rw [List.all_map, List.all_eq_true]
  intro y _
  rfl
theorem w_max2 {i j : Int} (q : Q (.int (if j > i then j else i)) H) : qMax2 [.int i, .int j] H Q := ⟨i, j, rfl, q⟩
theorem w_min2 {i j : Int} (q : Q (.int (if j < i then j else i)) H) : qMin2 [.int i, .int j] H Q := ⟨i, j, rfl, q⟩
theorem w_test {R : Bool → Hp → Prop} (q : te σ H fun x H' => ∃ k, x = .bl k ∧ R k H') : tTest te σ H R := q
theorem w_B {R : Bool → Hp → Prop} (q : te σ H fun x H' => ∃ k, x = .bl k ∧ R k H') : tB te σ H R := q
theorem w_exb {b : Bool} {R : Bool → Prop} (q : R b) : ∃ k, V.bl b = .bl k ∧ R k := ⟨b, rfl, q⟩
theorem w_and {R : Bool → Hp → Prop} (q : tt σ H fun c H1 => if c = true then uu σ H1 R else R false H1) : tAnd tt uu σ H R := q
theorem w_or {R : Bool → Hp → Prop} (q : tt σ H fun c H1 => if c = true then R true H1 else uu σ H1 R) : tOr tt uu σ H R := q
theorem w_not {R : Bool → Hp → Prop} (q : tt σ H fun c H1 => R (!c) H1) : tNot tt σ H R := q
theorem w_andV (q : ta σ H fun x H1 => ∃ c, x = .bl c ∧ if c = true then tb σ H1 Q else Q (.bl false) H1) : tAndV ta tb σ H Q := q
theorem w_orV (q : ta σ H fun x H1 => ∃ c, x = .bl c ∧ if c = true then Q (.bl true) H1 else tb σ H1 Q) : tOrV ta tb σ H Q := q
theorem w_notV (q : ta σ H fun x H1 => ∃ c, x = .bl c ∧ Q (.bl (!c)) H1) : tNotV ta σ H Q := q
theorem w_if (q : tt σ H fun c H1 => if c = true then ta σ H1 Q else tb σ H1 Q) : tIf tt ta tb σ H Q := q
theorem w_chain (q : ta σ H fun x H1 => tb σ H1 fun y H2 => r x y H2 fun z H3 => ∃ k, z = .bl k ∧ (if k = true then tc σ H3 fun w' H4 => r' y w' H4 Q else Q (.bl false) H3)) : tChain r r' ta tb tc σ H Q := q
theorem w_ifS (q : tt σ H fun b H1 => if b = true then t D σ H1 else u D σ H1) : tIfS tt t u D σ H := q
theorem w_ifCut {Mid : L2.St → Hp → Prop} (k : ∀ σ' H', Mid σ' H' → D.nx σ' H') (q : ∀ R : L2.St → Hp → Prop, (∀ σ' H', Mid σ' H' → R σ' H') → tIfS tt t u { D with nx := R } σ H) : tIfS tt t u D σ H := q _ k
theorem cmul_l {i j : Int} (h0 : -1000000000000 ≤ i) (h1 : i ≤ 1000000000000) : CMul i j := .inl ⟨by omega, by omega⟩
theorem cmul_r {i j : Int} (h0 : -1000000000000 ≤ j) (h1 : j ≤ 1000000000000) : CMul i j := .inr ⟨by omega, by omega⟩
theorem w_ite {c A B : Prop} [Decidable c] (h1 : c → A) (h2 : ¬ c → B) : if decide c = true then A else B := by
  by_cases h : c
  · rw [if_pos (decide_eq_true h)]; exact h1 h
  · rw [if_neg (by rw [decide_eq_true_iff]; exact h)]; exact h2 h
theorem w_iteN {c A B : Prop} [Decidable c] (h1 : ¬ c → A) (h2 : c → B) : if (!decide c) = true then A else B := by
  by_cases h : c
  · rw [decide_eq_true h, if_neg (by decide)]; exact h2 h
  · rw [decide_eq_false h]; exact h1 h
theorem w_iteb {b : Bool} {A B : Prop} (h1 : b = true → A) (h2 : b = false → B) : if b = true then A else B := by
  cases b
  · rw [if_neg (by decide)]; exact h2 rfl
  · rw [if_pos rfl]; exact h1 rfl
theorem w_seq (q : t { D with nx := u D } σ H) : tSeq t u D σ H := q
theorem w_next (q : D.nx σ H) : tNext D σ H := q
theorem w_asg {g : TG} (q : te σ H fun x H1 => g x σ H1 D.nx) : tAsg te g D σ H := q
theorem w_name {i : Nat} {R : L2.St → Hp → Prop} (q : R (σ.set i (some v)) H) : gName i v σ H R := q
theorem w_sub {to ti : TE} {ts : TSet} {R : L2.St → Hp → Prop} (q : to σ H fun o H1 => ti σ H1 fun i H2 => ts o i v H2 fun H3 => R σ H3) : gSub to ti ts v σ H R := q
theorem w_setL {p : Addr} {xs : List V} {k : Int} {j : Nat} {R : Hp → Prop} (h : H p = some (.lst xs)) (hj : ixN xs.length k = some j) (q : R (upd H p (.lst (xs.set j v)))) : rSetL (.ref p) (.int k) v H R := ⟨p, xs, k, j, rfl, rfl, h, hj, q⟩
theorem w_ret (q : te σ H D.rt) : tRet te D σ H := q
theorem w_retN (q : D.rt .non H) : tRetN D σ H := q
theorem w_drop (q : te σ H fun _ H1 => D.nx σ H1) : tDrop te D σ H := q
theorem w_call {sp : Sp} {dvs : List V} {E : XK} {tr : TA} (q : tr σ H fun vs H1 => sp (vs ++ dvs) H1 Q E) : tCall sp dvs E tr σ H Q := q
theorem w_sl {r : V → Option Int → Option Int → Hp → VK → Prop} {tl th : TO} (q : te σ H fun x H1 => tl σ H1 fun l H2 => th σ H2 fun u H3 => r x l u H3 Q) : tSl r te tl th σ H Q := q
theorem w_noPart {R : Option Int → Hp → Prop} (q : R none H) : tNoPart σ H R := q
theorem w_part {R : Option Int → Hp → Prop} (q : te σ H fun x H1 => ∃ i, x = .int i ∧ R (some i) H1) : tPart te σ H R := q
theorem w_exi {i : Int} {R : Int → Prop} (q : R i) : ∃ k, V.int i = .int k ∧ R k := ⟨i, rfl, q⟩
theorem w_slS {z : Str} {lo hi : Option Int} (h : z.length ≤ sizeLine) (q : Q (.str (cutS z lo hi)) H) : rSlS (.str z) lo hi H Q := ⟨z, rfl, h, q⟩
theorem w_isi {x : V} {t : Value} {T : String} {b : Bool} (h : TyX K H x t) (k : PySem.W.kitOne K t (.type T) = some b) (q : Q (.bl b) H) : rIsi K [x, .ty T] H Q := ⟨x, _, t, _, b, rfl, .ty T, h, k, q⟩
theorem w_typ {x : V} {T : String} (h : TyB K H x T) (q : Q (.ty T) H) : rTyp K [x] H Q := ⟨x, T, rfl, h, q⟩
theorem w_cat {l b : Addr} {xs zs : List V} (h : H l = some (.lst xs)) (h' : H b = some (.lst zs)) (z : xs.length + zs.length ≤ sizeLine) (q : ∀ p, H p = none → Q (.ref p) (upd H p (.lst (xs ++ zs)))) : rCat (.ref l) (.ref b) H Q := ⟨l, b, xs, zs, rfl, rfl, h, h', z, q⟩
theorem w_isBl {a b : Bool} (q : Q (.bl (decide (a = b))) H) : qIsBl (.bl a) (.bl b) H Q := ⟨a, b, rfl, rfl, q⟩
theorem w_nf {A B : Prop} (q : A) : if (!false) = true then A else B := q
theorem w_nt {A B : Prop} (q : B) : if (!true) = true then A else B := q
theorem w_len0 {n : Nat} {A : Prop} (h : n ≤ sizeLine) (q : A) : n ≤ sizeLine ∧ A := ⟨h, q⟩
end
theorem sz {n : Nat} (h : n ≤ 100000) : n ≤ sizeLine := Nat.le_trans h (by decide)
theorem atI_of {α : Type} {xs : List α} {i : Int} {v : α} (h0 : 0 ≤ i) (h : xs[i.toNat]? = some v) : atI xs i = some v := by
  have e : ((i.toNat : Nat) : Int) = i := Int.toNat_of_nonneg h0
  rw [← e]
  exact atI_nat h
end Wp

namespace Wp
open PySem PySem.Spec PyProof.Rows L2 TyNe

/-! ### what is made of data -/
mutual
/-- v denotes d at H; every object on the way stands at an address that ok takes -/
inductive Dn (ok : Addr → Prop) (H : Hp) : V → PyData → Prop where
  | non : Dn ok H .non .none
  | bl (b : Bool) : Dn ok H (.bl b) (.bool b)
  | int (i : Int) : Dn ok H (.int i) (.int i)
  | str (x : Str) : Dn ok H (.str x) (.str x)
  | lst {a : Addr} {xs : List V} {ds : List PyData} (ha : ok a) (h : H a = some (.lst xs)) (hs : DnAll ok H xs ds) : Dn ok H (.ref a) (.list ds)
  | tup {a : Addr} {xs : List V} {ds : List PyData} (ha : ok a) (h : H a = some (.tup xs)) (hs : DnAll ok H xs ds) : Dn ok H (.ref a) (.tuple ds)
  | dic {a : Addr} {kvs : List (Key × V)} (ha : ok a) (h : H a = some (.dK kvs)) : Dn ok H (.ref a) (.dict [])
inductive DnAll (ok : Addr → Prop) (H : Hp) : List V → List PyData → Prop where
  | nil : DnAll ok H [] []
  | cons {v : V} {vs : List V} {d : PyData} {ds : List PyData} (h : Dn ok H v d) (hs : DnAll ok H vs ds) : DnAll ok H (v :: vs) (d :: ds)
end
mutual
theorem Dn.step {ok : Addr → Prop} {H H' : Hp} (k : ∀ a o, ok a → H a = some o → H' a = some o) {v : V} {d : PyData} : Dn ok H v d → Dn ok H' v d
  | .non => .non
  | .bl b => .bl b
  | .int i => .int i
  | .str x => .str x
  | .lst ha h hs => .lst ha (k _ _ ha h) (DnAll.step k hs)
  | .tup ha h hs => .tup ha (k _ _ ha h) (DnAll.step k hs)
  | .dic ha h => .dic ha (k _ _ ha h)
theorem DnAll.step {ok : Addr → Prop} {H H' : Hp} (k : ∀ a o, ok a → H a = some o → H' a = some o) {vs : List V} {ds : List PyData} : DnAll ok H vs ds → DnAll ok H' vs ds
  | .nil => .nil
  | .cons h hs => .cons (Dn.step k h) (DnAll.step k hs)
end
mutual
theorem Dn.weak {ok ok' : Addr → Prop} {H : Hp} (k : ∀ a o, ok a → H a = some o → ok' a) {v : V} {d : PyData} : Dn ok H v d → Dn ok' H v d
  | .non => .non
  | .bl b => .bl b
  | .int i => .int i
  | .str x => .str x
  | .lst ha h hs => .lst (k _ _ ha h) h (DnAll.weak k hs)
  | .tup ha h hs => .tup (k _ _ ha h) h (DnAll.weak k hs)
  | .dic ha h => .dic (k _ _ ha h) h
theorem DnAll.weak {ok ok' : Addr → Prop} {H : Hp} (k : ∀ a o, ok a → H a = some o → ok' a) {vs : List V} {ds : List PyData} : DnAll ok H vs ds → DnAll ok' H vs ds
  | .nil => .nil
  | .cons h hs => .cons (Dn.weak k h) (DnAll.weak k hs)
end
/-- off the address p -/
abbrev Off (p : Addr) : Addr → Prop := fun a => a ≠ p
abbrev Any : Addr → Prop := fun _ => True
theorem Dn.same {ok : Addr → Prop} {H H' : Hp} {v : V} {d : PyData} (h : Dn ok H v d) (s : Same H H') : Dn ok H' v d := h.step fun a o _ e => s a o e
theorem Dn.kp {p : Addr} {H H' : Hp} {v : V} {d : PyData} (h : Dn (Off p) H v d) (s : Kp p H H') : Dn (Off p) H' v d := h.step fun a o n e => s a o n e
theorem Dn.any {ok : Addr → Prop} {H : Hp} {v : V} {d : PyData} (h : Dn ok H v d) : Dn Any H v d := h.weak fun _ _ _ _ => trivial
theorem Dn.off {ok : Addr → Prop} {p : Addr} {H : Hp} {v : V} {d : PyData} (h : Dn ok H v d) (n : H p = none) : Dn (Off p) H v d := h.weak fun a o _ e => ne_of_none e n
theorem DnAll.same {ok : Addr → Prop} {H H' : Hp} {v : List V} {d : List PyData} (h : DnAll ok H v d) (s : Same H H') : DnAll ok H' v d := h.step fun a o _ e => s a o e
theorem DnAll.kp {p : Addr} {H H' : Hp} {v : List V} {d : List PyData} (h : DnAll (Off p) H v d) (s : Kp p H H') : DnAll (Off p) H' v d := h.step fun a o n e => s a o n e
theorem DnAll.any {ok : Addr → Prop} {H : Hp} {v : List V} {d : List PyData} (h : DnAll ok H v d) : DnAll Any H v d := h.weak fun _ _ _ _ => trivial
theorem DnAll.off {ok : Addr → Prop} {p : Addr} {H : Hp} {v : List V} {d : List PyData} (h : DnAll ok H v d) (n : H p = none) : DnAll (Off p) H v d := h.weak fun a o _ e => ne_of_none e n
theorem DnAll.len {ok : Addr → Prop} {H : Hp} : ∀ {vs : List V} {ds : List PyData}, DnAll ok H vs ds → vs.length = ds.length
  | _, _, .nil => rfl
  | _, _, .cons _ hs => congrArg (· + 1) (DnAll.len hs)
theorem DnAll.get {ok : Addr → Prop} {H : Hp} : ∀ {vs : List V} {ds : List PyData} {i : Nat} {v : V}, DnAll ok H vs ds → vs[i]? = some v → ∃ d, ds[i]? = some d ∧ Dn ok H v d
  | _, _, _, _, .nil, e => by simp at e
  | _, _, 0, _, .cons h _, e => by
    have e' := Option.some.inj e
    subst e'
    exact ⟨_, rfl, h⟩
  | _, _, i + 1, v, .cons _ hs, e => DnAll.get (i := i) hs e
theorem DnAll.app {ok : Addr → Prop} {H : Hp} : ∀ {vs ws : List V} {ds es : List PyData}, DnAll ok H vs ds → DnAll ok H ws es → DnAll ok H (vs ++ ws) (ds ++ es)
  | _, _, _, _, .nil, h => h
  | _, _, _, _, .cons h hs, h' => .cons h (DnAll.app hs h')
def tyN : PyData → String
  | .none => "NoneType" | .bool _ => "bool" | .int _ => "int" | .str _ => "str" | .list _ => "list" | .tuple _ => "tuple" | .dict _ => "dict"
theorem Dn.tyB {K : PySem.W.Frag} {ok : Addr → Prop} {H : Hp} {v : V} {d : PyData} (h : Dn ok H v d) : TyB K H v (tyN d) := by
  cases h with
  | non => exact .non
  | bl b => exact .bl b
  | int i => exact .int i
  | str x => exact .str x
  | lst ha h hs => exact .lst (SqL.of h)
  | tup ha h hs => exact .tup (SqT.of h)
  | dic ha h => exact .dK h
theorem Dn.tyX {K : PySem.W.Frag} {ok : Addr → Prop} {H : Hp} {v : V} {d : PyData} (h : Dn ok H v d) : TyX K H v (.type (tyN d)) := by
  cases h with
  | non => exact .base .non
  | bl b => exact .base (.bl b)
  | int i => exact .base (.int i)
  | str x => exact .base (.str x)
  | lst ha h hs => exact .base (.lst h)
  | tup ha h hs => exact .base (.tup h)
  | dic ha h => exact .base (.dK h)
theorem ty9 (d : PyData) : Ty9 (tyN d) := by
  cases d
  · exact TypeEq.meta_NoneType
  · exact TypeEq.meta_bool
  · exact TypeEq.meta_int
  · exact TypeEq.meta_str
  · exact TypeEq.meta_list
  · exact TypeEq.meta_tuple
  · exact TypeEq.meta_dict
theorem kit_str {K : PySem.W.Frag} (d : PyData) : PySem.W.kitOne K (.type (tyN d)) (.type "str") = some (decide (tyN d = "str")) := by
  have hh : ∀ a ∈ ["NoneType", "bool", "int", "str", "list", "tuple", "dict"], kitB a "str" = some (decide (a = "str")) := by decide +kernel
  exact kit_ty (hh _ (by cases d <;> simp [tyN]))
theorem kit_tuple {K : PySem.W.Frag} (d : PyData) : PySem.W.kitOne K (.type (tyN d)) (.type "tuple") = some (decide (tyN d = "tuple")) := by
  have hh : ∀ a ∈ ["NoneType", "bool", "int", "str", "list", "tuple", "dict"], kitB a "tuple" = some (decide (a = "tuple")) := by decide +kernel
  exact kit_ty (hh _ (by cases d <;> simp [tyN]))
theorem kit_list {K : PySem.W.Frag} (d : PyData) : PySem.W.kitOne K (.type (tyN d)) (.type "list") = some (decide (tyN d = "list")) := by
  have hh : ∀ a ∈ ["NoneType", "bool", "int", "str", "list", "tuple", "dict"], kitB a "list" = some (decide (a = "list")) := by decide +kernel
  exact kit_ty (hh _ (by cases d <;> simp [tyN]))
theorem kit_bool {K : PySem.W.Frag} (d : PyData) : PySem.W.kitOne K (.type (tyN d)) (.type "bool") = some (decide (tyN d = "bool")) := by
  have hh : ∀ a ∈ ["NoneType", "bool", "int", "str", "list", "tuple", "dict"], kitB a "bool" = some (decide (a = "bool")) := by decide +kernel
  exact kit_ty (hh _ (by cases d <;> simp [tyN]))
theorem kit_int {K : PySem.W.Frag} (d : PyData) : PySem.W.kitOne K (.type (tyN d)) (.type "int") = some (decide (tyN d = "int" ∨ tyN d = "bool")) := by
  have hh : ∀ a ∈ ["NoneType", "bool", "int", "str", "list", "tuple", "dict"], kitB a "int" = some (decide (a = "int" ∨ a = "bool")) := by decide +kernel
  exact kit_ty (hh _ (by cases d <;> simp [tyN]))

/-! ### loops -/
section
variable {K : PySem.W.Frag} {σ : L2.St} {H : Hp} {Q : VK} {ta : TA} {te : TE} {g : TG} {tb : TS} {D : Ends} {tt : TT}
theorem w_forR (q : ta σ H fun vs H1 => ∃ n : Int, vs = [.int n] ∧ -(2 ^ 62) ≤ n ∧ n < 2 ^ 62 ∧ ∃ Pv : Nat → L2.St → Hp → Prop, Pv 0 σ H1 ∧
    (∀ (i : Nat) σ H, (i : Int) < n → Pv i σ H → g (.int (i : Int)) σ H fun σ2 H2 => tb { D with nx := Pv (i + 1), ct := Pv (i + 1), bk := D.nx } σ2 H2) ∧ ∀ σ H, Pv n.toNat σ H → D.nx σ H)
    (mono : ∀ R R' : List V → Hp → Prop, (∀ vs H, R vs H → R' vs H) → ta σ H R → ta σ H R') : tFor (iRng1 ta) g tb D σ H := by
  refine mono _ _ (fun vs H1 h => ?_) q
  obtain ⟨n, rfl, h1, h2, Pv, p0, ps, pd⟩ := h
  refine ⟨n, rfl, h1, h2, for_range (lo := 0) (n := n.toNat) Pv p0 (fun i σ' H' hi p => ?_) pd⟩
  have e0 : (0 : Int) + (i : Int) = (i : Int) := Int.zero_add _
  rw [e0]
  exact ps i σ' H' (by omega) p
theorem w_for {wi : TI} (q : wi σ H fun J H1 => ∃ W : Nat → Nat → L2.St → Hp → Prop, (∃ m, W 0 m σ H1) ∧ ∀ i m σ H, W i m σ H →
  (J.stop i H ∧ D.nx σ H) ∨ (J.go i H ∧ ∃ N : L2.St → Hp → Prop, (∀ σ' H', N σ' H' → ∃ m', m' < m ∧ W (i + 1) m' σ' H') ∧ ∀ x H', J.yld i H x H' → g x σ H' fun σ2 H2 => tb { D with nx := N, ct := N, bk := D.nx } σ2 H2)) : tFor wi g tb D σ H := q
theorem w_iRng1 {R : It → Hp → Prop} (q : ta σ H fun vs H1 => ∃ j : Int, vs = [.int j] ∧ -(2 ^ 62) ≤ j ∧ j < 2 ^ 62 ∧ R (Itr 0 j.toNat) H1) : iRng1 ta σ H R := q
theorem w_iRng2 {R : It → Hp → Prop} (q : ta σ H fun vs H1 => ∃ i j : Int, vs = [.int i, .int j] ∧ (-(2 ^ 62) ≤ i ∧ i < 2 ^ 62 ∧ -(2 ^ 62) ≤ j ∧ j < 2 ^ 62) ∧ R (Itr i (j - i).toNat) H1) : iRng2 ta σ H R := q
theorem w_iList {R : It → Hp → Prop} (q : te σ H fun x H1 => ∃ a, x = .ref a ∧ (∃ xs, SqL K H1 a xs) ∧ R (Itl K a) H1) : iList K te σ H R := q
theorem w_iTup {R : It → Hp → Prop} (q : te σ H fun x H1 => ∃ a, x = .ref a ∧ (∃ xs, SqT K H1 a xs) ∧ R (Itt K a) H1) : iTup K te σ H R := q
theorem w_iStr {R : It → Hp → Prop} (q : te σ H fun v H1 => ∃ x, v = .str x ∧ R (Its x) H1) : iStr te σ H R := q
/-- the end of iRng1's reading in a for -/
theorem w_rng {n : Int} (h1 : -(2 ^ 62) ≤ n) (h2 : n < 2 ^ 62) (Pv : Nat → L2.St → Hp → Prop) (p0 : Pv 0 σ H)
    (ps : ∀ (i : Nat) σ H, (i : Int) < n → Pv i σ H → g (.int (i : Int)) σ H fun σ2 H2 => tb { D with nx := Pv (i + 1), ct := Pv (i + 1), bk := D.nx } σ2 H2) (pd : ∀ σ H, Pv n.toNat σ H → D.nx σ H) :
    ∃ j : Int, [V.int n] = [.int j] ∧ -(2 ^ 62) ≤ j ∧ j < 2 ^ 62 ∧ ∃ W : Nat → Nat → L2.St → Hp → Prop, (∃ m, W 0 m σ H) ∧ ∀ i m σ H, W i m σ H →
  ((Itr 0 j.toNat).stop i H ∧ D.nx σ H) ∨ ((Itr 0 j.toNat).go i H ∧ ∃ N : L2.St → Hp → Prop, (∀ σ' H', N σ' H' → ∃ m', m' < m ∧ W (i + 1) m' σ' H') ∧ ∀ x H', (Itr 0 j.toNat).yld i H x H' → g x σ H' fun σ2 H2 => tb { D with nx := N, ct := N, bk := D.nx } σ2 H2) := by
  refine ⟨n, rfl, h1, h2, for_range (lo := 0) (n := n.toNat) Pv p0 (fun i σ' H' hi p => ?_) pd⟩
  have e0 : (0 : Int) + (i : Int) = (i : Int) := Int.zero_add _
  rw [e0]
  exact ps i σ' H' (by omega) p
/-- the end of iList's reading in a for -/
theorem w_lstF {a : Addr} {xs : List V} (hx : SqL K H a xs) (Pv : Nat → L2.St → Hp → Prop) (p0 : Pv 0 σ H) (hl : ∀ i σ H, i ≤ xs.length → Pv i σ H → SqL K H a xs)
    (ps : ∀ i x σ H, xs[i]? = some x → Pv i σ H → g x σ H fun σ2 H2 => tb { D with nx := Pv (i + 1), ct := Pv (i + 1), bk := D.nx } σ2 H2) (pd : ∀ σ H, Pv xs.length σ H → D.nx σ H) :
    ∃ b, V.ref a = .ref b ∧ (∃ xs, SqL K H b xs) ∧ ∃ W : Nat → Nat → L2.St → Hp → Prop, (∃ m, W 0 m σ H) ∧ ∀ i m σ H, W i m σ H →
  ((Itl K b).stop i H ∧ D.nx σ H) ∨ ((Itl K b).go i H ∧ ∃ N : L2.St → Hp → Prop, (∀ σ' H', N σ' H' → ∃ m', m' < m ∧ W (i + 1) m' σ' H') ∧ ∀ x H', (Itl K b).yld i H x H' → g x σ H' fun σ2 H2 => tb { D with nx := N, ct := N, bk := D.nx } σ2 H2) :=
  ⟨a, rfl, ⟨xs, hx⟩, for_list (xs := xs) Pv p0 hl ps pd⟩
end
/-! ### comprehensions whose element and test leave all that was tracked -/
section
variable {K : PySem.W.Frag} {σ : L2.St} {H : Hp} {Q : VK} {te : TE} {tt : TT} {vs : List Nat} {g : TG}
theorem lc_fm {Qd : Addr → Hp → Prop} {J : It} {its : List V} {G : Hp → Prop} {Y : Nat → Hp → V → Hp → Prop} (w : Walk J its.length G Y) (hy : ∀ i H x H', i < its.length → Y i H x H' → H' = H ∧ its[i]? = some x)
    (hG : ∀ H1, Same H H1 → G H1) (f : V → V) (k : V → Bool) (bind : V → L2.St)
    (hg : ∀ x H1 (R : L2.St → Hp → Prop), R (bind x) H1 → g x (wipe σ vs) H1 R) (hw : ∀ x, wipe (bind x) vs = wipe σ vs)
    (ht : ∀ x ∈ its, ∀ H1, Same H H1 → ∀ R : Bool → Hp → Prop, (∀ H2, Same H1 H2 → R (k x) H2) → tt (bind x) H1 R)
    (he : ∀ x ∈ its, k x = true → ∀ H1, Same H H1 → ∀ R : VK, (∀ H2, Same H1 H2 → R (f x) H2) → te (bind x) H1 R)
    (hlen : its.length < sizeLine) (q : ∀ D H1, H D = none → Same H H1 → H1 D = some (.lst ((its.filter k).map f)) → Qd D H1) :
    ∀ D, H D = none → ∃ W : Nat → Nat → Hp → Prop, (∃ m, W 0 m (upd H D (.lst []))) ∧ ∀ i m H, W i m H →
  (J.stop i H ∧ Qd D H) ∨ (J.go i H ∧ ∃ Nx : Hp → Prop, (∀ H', Nx H' → ∃ m', m' < m ∧ W (i + 1) m' H') ∧ ∀ x H', J.yld i H x H' → g x (wipe σ vs) H' fun σ2 H2 => wipe σ2 vs = wipe σ vs ∧ tt σ2 H2 fun b H3 =>
    if b = true then te σ2 H3 fun y H4 => ∃ acc, H4 D = some (.lst acc) ∧ acc.length < sizeLine ∧ Nx (upd H4 D (.lst (acc ++ [y]))) else Nx H3) := by
  intro D hD
  refine lc_it w (Pv := fun i H' => Same H H' ∧ H' D = some (.lst (((its.take i).filter k).map f))) ⟨Same.upd (Same.refl H) hD, upd_same⟩ (fun i H' _ p => hG H' p.1) (fun i x H' H'' hi p y => ?_) (fun H' p => ?_)
  · obtain ⟨e, hx⟩ := hy i H' x H'' hi y
    subst e
    obtain ⟨s, hD'⟩ := p
    have hm : x ∈ its := List.mem_of_getElem? hx
    have et : its.take (i + 1) = its.take i ++ [x] := by rw [List.take_add_one, hx]; rfl
    refine hg x H'' _ ⟨hw x, ht x hm H'' s _ fun H2 s2 => ?_⟩
    cases hk : k x with
    | true =>
      rw [if_pos rfl]
      refine he x hm hk H2 (s.trans s2) _ fun H3 s3 => ?_
      have hD3 : H3 D = some (.lst (((its.take i).filter k).map f)) := s3 _ _ (s2 _ _ hD')
      refine ⟨_, hD3, ?_, ?_, ?_⟩
      · rw [List.length_map]
        have h1 := List.length_filter_le k (its.take i)
        have h2 : (its.take i).length ≤ its.length := by rw [List.length_take]; omega
        omega
      · exact fun b o e => by
          rw [upd_ne (ne_of_none e hD)]
          exact s3 _ _ (s2 _ _ (s _ _ e))
      · rw [upd_same, et, List.filter_append, List.map_append, List.filter_cons_of_pos hk]
        rfl
    | false =>
      rw [if_neg (by decide)]
      refine ⟨s.trans s2, ?_⟩
      rw [et, List.filter_append, List.filter_cons_of_neg (by simp [hk]), List.filter_nil, List.append_nil]
      exact s2 _ _ hD'
  · obtain ⟨s, hD'⟩ := p
    rw [List.take_length] at hD'
    exact q D H' hD s hD'
/-- over a text, one name bound -/
def sgns (z : Str) : List V := z.cps.toList.map fun c => V.str ⟨#[c]⟩
theorem sgns_len {z : Str} : (sgns z).length = z.cps.size := by unfold sgns; simp
theorem w_lc {wi : TI} (q : wi σ H fun J H1 => ∀ D, H1 D = none → ∃ W : Nat → Nat → Hp → Prop, (∃ m, W 0 m (upd H1 D (.lst []))) ∧ ∀ i m H, W i m H →
  (J.stop i H ∧ Q (.ref D) H) ∨ (J.go i H ∧ ∃ Nx : Hp → Prop, (∀ H', Nx H' → ∃ m', m' < m ∧ W (i + 1) m' H') ∧ ∀ x H', J.yld i H x H' → g x (wipe σ vs) H' fun σ2 H2 => wipe σ2 vs = wipe σ vs ∧ tt σ2 H2 fun b H3 =>
    if b = true then te σ2 H3 fun y H4 => ∃ acc, H4 D = some (.lst acc) ∧ acc.length < sizeLine ∧ Nx (upd H4 D (.lst (acc ++ [y]))) else Nx H3)) : tLc wi g tt te vs σ H Q := q
theorem lcStr {Qd : Addr → Hp → Prop} {z : Str} {i : Nat} (hz : z.length ≤ 100000) (f : V → V) (k : V → Bool) (hw : ∀ x, wipe ((wipe σ vs).set i (some x)) vs = wipe σ vs)
    (ht : ∀ x ∈ sgns z, ∀ H1, Same H H1 → ∀ R : Bool → Hp → Prop, (∀ H2, Same H1 H2 → R (k x) H2) → tt ((wipe σ vs).set i (some x)) H1 R)
    (he : ∀ x ∈ sgns z, k x = true → ∀ H1, Same H H1 → ∀ R : VK, (∀ H2, Same H1 H2 → R (f x) H2) → te ((wipe σ vs).set i (some x)) H1 R)
    (q : ∀ D H1, H D = none → Same H H1 → H1 D = some (.lst (((sgns z).filter k).map f)) → Qd D H1) :
    ∀ D, H D = none → ∃ W : Nat → Nat → Hp → Prop, (∃ m, W 0 m (upd H D (.lst []))) ∧ ∀ j m H, W j m H →
  ((Its z).stop j H ∧ Qd D H) ∨ ((Its z).go j H ∧ ∃ Nx : Hp → Prop, (∀ H', Nx H' → ∃ m', m' < m ∧ W (j + 1) m' H') ∧ ∀ x H', (Its z).yld j H x H' → gName i x (wipe σ vs) H' fun σ2 H2 => wipe σ2 vs = wipe σ vs ∧ tt σ2 H2 fun b H3 =>
    if b = true then te σ2 H3 fun y H4 => ∃ acc, H4 D = some (.lst acc) ∧ acc.length < sizeLine ∧ Nx (upd H4 D (.lst (acc ++ [y]))) else Nx H3) := by
  have hl : (sgns z).length < sizeLine := by
    rw [sgns_len]
    exact Nat.lt_of_le_of_lt hz (by decide)
  refine lc_fm (its := sgns z) (by rw [sgns_len]; exact walk_str) (fun j H x H' hj y => ?_) (fun _ _ => trivial) f k (fun x => (wipe σ vs).set i (some x)) (fun x H1 R r => r) hw ht he hl q
  obtain ⟨e, c, hc, rfl⟩ := y
  refine ⟨e, ?_⟩
  unfold sgns
  rw [List.getElem?_map, Array.getElem?_toList, hc]
  rfl
theorem lcL {Qd : Addr → Hp → Prop} {a : Addr} {its : List V} {i : Nat} (hS : ∀ H1, Same H H1 → SqL K H1 a its) (hl : its.length < sizeLine) (f : V → V) (k : V → Bool) (hw : ∀ x, wipe ((wipe σ vs).set i (some x)) vs = wipe σ vs)
    (ht : ∀ x ∈ its, ∀ H1, Same H H1 → ∀ R : Bool → Hp → Prop, (∀ H2, Same H1 H2 → R (k x) H2) → tt ((wipe σ vs).set i (some x)) H1 R)
    (he : ∀ x ∈ its, k x = true → ∀ H1, Same H H1 → ∀ R : VK, (∀ H2, Same H1 H2 → R (f x) H2) → te ((wipe σ vs).set i (some x)) H1 R)
    (q : ∀ D H1, H D = none → Same H H1 → H1 D = some (.lst ((its.filter k).map f)) → Qd D H1) :
    ∃ b, V.ref a = .ref b ∧ (∃ xs, SqL K H b xs) ∧ ∀ D, H D = none → ∃ W : Nat → Nat → Hp → Prop, (∃ m, W 0 m (upd H D (.lst []))) ∧ ∀ j m H, W j m H →
  ((Itl K b).stop j H ∧ Qd D H) ∨ ((Itl K b).go j H ∧ ∃ Nx : Hp → Prop, (∀ H', Nx H' → ∃ m', m' < m ∧ W (j + 1) m' H') ∧ ∀ x H', (Itl K b).yld j H x H' → gName i x (wipe σ vs) H' fun σ2 H2 => wipe σ2 vs = wipe σ vs ∧ tt σ2 H2 fun b H3 =>
    if b = true then te σ2 H3 fun y H4 => ∃ acc, H4 D = some (.lst acc) ∧ acc.length < sizeLine ∧ Nx (upd H4 D (.lst (acc ++ [y]))) else Nx H3) :=
  ⟨a, rfl, ⟨its, hS H (Same.refl H)⟩, lc_fm (its := its) walk_list (fun j H x H' hj y => y) hS f k (fun x => (wipe σ vs).set i (some x)) (fun x H1 R r => r) hw ht he hl q⟩
theorem lcT {Qd : Addr → Hp → Prop} {a : Addr} {its : List V} {i : Nat} (hS : ∀ H1, Same H H1 → SqT K H1 a its) (hl : its.length < sizeLine) (f : V → V) (k : V → Bool) (hw : ∀ x, wipe ((wipe σ vs).set i (some x)) vs = wipe σ vs)
    (ht : ∀ x ∈ its, ∀ H1, Same H H1 → ∀ R : Bool → Hp → Prop, (∀ H2, Same H1 H2 → R (k x) H2) → tt ((wipe σ vs).set i (some x)) H1 R)
    (he : ∀ x ∈ its, k x = true → ∀ H1, Same H H1 → ∀ R : VK, (∀ H2, Same H1 H2 → R (f x) H2) → te ((wipe σ vs).set i (some x)) H1 R)
    (q : ∀ D H1, H D = none → Same H H1 → H1 D = some (.lst ((its.filter k).map f)) → Qd D H1) :
    ∃ b, V.ref a = .ref b ∧ (∃ xs, SqT K H b xs) ∧ ∀ D, H D = none → ∃ W : Nat → Nat → Hp → Prop, (∃ m, W 0 m (upd H D (.lst []))) ∧ ∀ j m H, W j m H →
  ((Itt K b).stop j H ∧ Qd D H) ∨ ((Itt K b).go j H ∧ ∃ Nx : Hp → Prop, (∀ H', Nx H' → ∃ m', m' < m ∧ W (j + 1) m' H') ∧ ∀ x H', (Itt K b).yld j H x H' → gName i x (wipe σ vs) H' fun σ2 H2 => wipe σ2 vs = wipe σ vs ∧ tt σ2 H2 fun b H3 =>
    if b = true then te σ2 H3 fun y H4 => ∃ acc, H4 D = some (.lst acc) ∧ acc.length < sizeLine ∧ Nx (upd H4 D (.lst (acc ++ [y]))) else Nx H3) :=
  ⟨a, rfl, ⟨its, hS H (Same.refl H)⟩, lc_fm (its := its) walk_tup (fun j H x H' hj y => y) hS f k (fun x => (wipe σ vs).set i (some x)) (fun x H1 R r => r) hw ht he hl q⟩
theorem w_exs {z : Str} {R : Str → Prop} (q : R z) : ∃ x, V.str z = .str x ∧ R x := ⟨z, rfl, q⟩
theorem w_lcStr {z : Str} {tz : TE} {i : Nat} (hz : z.length ≤ 100000) (f : V → V) (k : V → Bool)
    (hq : ∀ R : It → Hp → Prop, R (Its z) H → iStr tz σ H R) (hw : ∀ x, wipe ((wipe σ vs).set i (some x)) vs = wipe σ vs)
    (ht : ∀ x ∈ sgns z, ∀ H1, Same H H1 → ∀ R : Bool → Hp → Prop, (∀ H2, Same H1 H2 → R (k x) H2) → tt ((wipe σ vs).set i (some x)) H1 R)
    (he : ∀ x ∈ sgns z, k x = true → ∀ H1, Same H H1 → ∀ R : VK, (∀ H2, Same H1 H2 → R (f x) H2) → te ((wipe σ vs).set i (some x)) H1 R)
    (q : ∀ D H1, H D = none → Same H H1 → H1 D = some (.lst (((sgns z).filter k).map f)) → Q (.ref D) H1) :
    tLc (iStr tz) (gName i) tt te vs σ H Q := hq _ (lcStr hz f k hw ht he q)
theorem w_all {a : Addr} {bs : List Bool} (h : SqL K H a (bs.map V.bl)) (q : Q (.bl (bs.all id)) H) : rAll K [.ref a] H Q := ⟨a, bs, rfl, h, q⟩
end
end Wp

namespace Wp
open PySem PySem.Spec PyProof.Rows L2 TyNe

/-! ### what an expression yields, as data, while one stream at p is drawn from -/
def EvS (p : Addr) (te : TE) (σ : L2.St) (H : Hp) (P : PyData → Prop) : Prop := ∀ H1, Kp p H H1 → Stm H1 p → ∀ Q : VK, (∀ v d H2, Kp p H1 H2 → Stm H2 p → P d → Dn (Off p) H2 v d → Q v H2) → te σ H1 Q
def EvSs (p : Addr) (ta : TA) (σ : L2.St) (H : Hp) (P : List PyData → Prop) : Prop := ∀ H1, Kp p H H1 → Stm H1 p → ∀ Q : List V → Hp → Prop, (∀ vs ds H2, Kp p H1 H2 → Stm H2 p → P ds → DnAll (Off p) H2 vs ds → Q vs H2) → ta σ H1 Q
section
variable {p : Addr} {te : TE} {ta : TA} {σ : L2.St} {H : Hp} {P P' : PyData → Prop} {R : List PyData → Prop}
theorem EvS.weak (h : EvS p te σ H P) (k : ∀ d, P d → P' d) : EvS p te σ H P' := fun H1 a s Q q => h H1 a s Q fun v d H2 b s' x y => q v d H2 b s' (k d x) y
theorem EvSs.weak {R' : List PyData → Prop} (h : EvSs p ta σ H R) (k : ∀ d, R d → R' d) : EvSs p ta σ H R' := fun H1 a s Q q => h H1 a s Q fun v d H2 b s' x y => q v d H2 b s' (k d x) y
theorem evs_non (h : P .none) : EvS p (tC .non) σ H P := fun H1 _ s Q q => q _ _ H1 Kp.refl s h .non
theorem evs_bl {b : Bool} (h : P (.bool b)) : EvS p (tC (.bl b)) σ H P := fun H1 _ s Q q => q _ _ H1 Kp.refl s h (.bl b)
theorem evs_int {i : Int} (h : P (.int i)) : EvS p (tC (.int i)) σ H P := fun H1 _ s Q q => q _ _ H1 Kp.refl s h (.int i)
theorem evs_str {x : Str} (h : P (.str x)) : EvS p (tC (.str x)) σ H P := fun H1 _ s Q q => q _ _ H1 Kp.refl s h (.str x)
theorem evs_var {i : Nat} {v : V} {d : PyData} (e : σ[i]? = some (some v)) (hd : Dn (Off p) H v d) (h : P d) : EvS p (tVar i) σ H P := fun H1 k s Q q => ⟨v, e, q v d H1 Kp.refl s h (hd.kp k)⟩
theorem evss_nil (h : R []) : EvSs p tNil σ H R := fun H1 _ s Q q => q _ _ H1 Kp.refl s h .nil
theorem evss_cons {R' : List PyData → Prop} (h : EvS p te σ H P) (hs : EvSs p ta σ H R) (k : ∀ d r, P d → R r → R' (d :: r)) : EvSs p (tCons te ta) σ H R' := fun H1 a s Q q =>
  h H1 a s _ fun v d H2 b s2 x y => hs H2 (a.trans b) s2 _ fun vs ds H3 c s3 xs ys => q (v :: vs) (d :: ds) H3 (b.trans c) s3 (k d ds x xs) (.cons (y.kp c) ys)
theorem evs_tup (h : EvSs p ta σ H R) (k : ∀ ds, R ds → ds.length ≤ 100000 ∧ P (.tuple ds)) : EvS p (tTup ta) σ H P := fun H1 a s Q q =>
  h H1 a s _ fun vs ds H2 b s2 x y => ⟨sz (by rw [y.len]; exact (k ds x).1), fun t ht => by
    have hn : t ≠ p := (Stm.ne s2 ht)
    exact q (.ref t) (.tuple ds) _ (b.upd (b.free hn ht)) (s2.up ht) (k ds x).2 (.tup hn upd_same (y.step fun c o n e => by rw [upd_ne (ne_of_none e ht)]; exact e))⟩
theorem evs_lst (h : EvSs p ta σ H R) (k : ∀ ds, R ds → ds.length ≤ 100000 ∧ P (.list ds)) : EvS p (tLst ta) σ H P := fun H1 a s Q q =>
  h H1 a s _ fun vs ds H2 b s2 x y => ⟨sz (by rw [y.len]; exact (k ds x).1), fun t ht => by
    have hn : t ≠ p := (Stm.ne s2 ht)
    exact q (.ref t) (.list ds) _ (b.upd (b.free hn ht)) (s2.up ht) (k ds x).2 (.lst hn upd_same (y.step fun c o n e => by rw [upd_ne (ne_of_none e ht)]; exact e))⟩
theorem evs_dnew (h : P (.dict [])) : EvS p tDNewK σ H P := fun H1 a s Q q t ht =>
  have hn : t ≠ p := (Stm.ne s ht)
  q (.ref t) (.dict []) _ (Kp.refl.upd ht) (s.up ht) h (.dic hn upd_same)
theorem evs_disp1 {k : Str} {v : Int} (h : P (.dict [])) : EvS p (tDisp [(tC (.str k), tC (.int v))]) σ H P := fun H1 a s Q q t ht =>
  have hn : t ≠ p := (Stm.ne s ht)
  ⟨upd_same, [(Sum.inr k, .int v)], rfl, (show 1 ≤ 15 by decide), q (.ref t) (.dict []) _ ((Kp.refl.upd ht).upd ht) (by
    obtain ⟨x, y, e, r⟩ := s
    exact ⟨x, y, by rw [upd_ne (ne_of_none e ht), upd_ne (ne_of_none e ht)]; exact e, r⟩) h (.dic hn upd_same)⟩
theorem evs_call {sp : Sp} (h : ∀ vs ds H1, Kp p H H1 → Stm H1 p → R ds → DnAll (Off p) H1 vs ds → ∀ Q : VK, (∀ v d H2, Kp p H1 H2 → Stm H2 p → P d → Dn (Off p) H2 v d → Q v H2) → sp vs H1 Q C8.E0) (ha : EvSs p ta σ H R) : EvS p (tCall sp [] C8.E0 ta) σ H P := fun H1 a s Q q =>
  ha H1 a s _ fun vs ds H2 b s2 x y => by
    show sp (vs ++ []) H2 Q C8.E0
    rw [List.append_nil]
    exact h vs ds H2 (a.trans b) s2 x y Q fun v d H3 c s3 x3 y3 => q v d H3 (b.trans c) s3 x3 y3
/-- used in a reading -/
theorem EvS.use {Q : VK} (h : EvS p te σ H P) (s : Stm H p) (q : ∀ v d H2, Kp p H H2 → Stm H2 p → P d → Dn (Off p) H2 v d → Q v H2) : te σ H Q := h H Kp.refl s Q q
theorem EvSs.use {Q : List V → Hp → Prop} (h : EvSs p ta σ H R) (s : Stm H p) (q : ∀ vs ds H2, Kp p H H2 → Stm H2 p → R ds → DnAll (Off p) H2 vs ds → Q vs H2) : ta σ H Q := h H Kp.refl s Q q
end
end Wp

namespace Wp
open PySem PySem.Spec PyProof.Rows L2 TyNe

/-! ### text * int -/
abbrev qMulS : R2 := fun x y H Q => ∃ (z : Str) (n : Int), x = .str z ∧ y = .int n ∧ MulOk z n ∧ Q (.str (Txt.mul z n)) H
theorem op_mulS {X : Cx} : OpR X (binaryOp .Mult) qMulS := by
  intro pins s σ H x y v u Q I rx ry h
  obtain ⟨i, j, rfl, rfl, hz, q⟩ := h
  obtain ⟨t, rfl⟩ := rx
  obtain ⟨t', rfl⟩ := ry
  exact SB.mul hz fun t' k => ⟨.str (Txt.mul i j), H, I.tok _, ⟨_, rfl⟩, q⟩
theorem foldl_size : ∀ (l : List (Array Nat)) (a : Array Nat), (l.foldl (· ++ ·) a).size = a.size + (l.map Array.size).sum
  | [], a => by simp
  | x :: l, a => by
    rw [List.foldl_cons, foldl_size l, Array.size_append, List.map_cons, List.sum_cons]
    omega
theorem rep_sum (n k : Nat) : ((List.replicate n k) : List Nat).sum = n * k := by
  induction n with
  | zero => simp
  | succ n ih => rw [List.replicate_succ, List.sum_cons, ih, Nat.succ_mul, Nat.add_comm]
theorem mul_len (x : Str) {n : Int} (h : 0 ≤ n) : (Txt.mul x n).length ≤ x.length * n.toNat := by
  unfold Txt.mul
  by_cases h1 : n < 1
  · rw [if_pos h1]
    exact Nat.zero_le _
  · rw [if_neg h1]
    by_cases h2 : (n == 1 || x.length == 0) = true
    · rw [if_pos h2]
      have : 1 ≤ n.toNat := by omega
      exact Nat.le_mul_of_pos_right _ this
    · rw [if_neg h2]
      show ((List.replicate n.toNat x.cps).foldl (· ++ ·) (#[] : Array Nat)).size ≤ _
      rw [foldl_size, List.map_replicate, rep_sum]
      show 0 + n.toNat * x.cps.size ≤ x.cps.size * n.toNat
      rw [Nat.zero_add, Nat.mul_comm]
      exact Nat.le_refl _
theorem mulOk {x : Str} {n : Int} (h0 : 0 ≤ n) (h1 : n ≤ 1000) (hx : x.length ≤ 10000) : MulOk x n := by
  refine ⟨?_, fun a b => ?_, fun a b => ?_⟩
  · rw [decide_eq_false (by omega), decide_eq_false (by omega)]
    rfl
  · have e : (2 ^ 63 - 1 : Int) / n ≥ (2 ^ 63 - 1 : Int) / 1000 := by
      rw [ge_iff_le, Int.le_ediv_iff_mul_le (by omega)]
      have e2 : (2 ^ 63 - 1 : Int) / 1000 = 9223372036854775 := by decide
      rw [e2]
      have := Int.mul_le_mul_of_nonneg_left h1 (show (0 : Int) ≤ 9223372036854775 by decide)
      omega
    have e2 : (2 ^ 63 - 1 : Int) / 1000 = 9223372036854775 := by decide
    omega
  · unfold Builtin.Str.tooLong
    have h2 : n.toNat ≤ 1000 := by omega
    have h3 : x.length * n.toNat ≤ 10000 * 1000 := Nat.mul_le_mul hx h2
    exact decide_eq_false (by
      have : (10000 * 1000 : Nat) ≤ sizeLine := by decide
      omega)
section
variable {H : Hp} {Q : VK}
theorem w_mulS {z : Str} {n : Int} (h0 : 0 ≤ n) (h1 : n ≤ 1000) (hx : z.length ≤ 10000) (q : (Txt.mul z n).length ≤ z.length * n.toNat → Q (.str (Txt.mul z n)) H) : qMulS (.str z) (.int n) H Q := ⟨z, n, rfl, rfl, mulOk h0 h1 hx, q (mul_len z h0)⟩
end

/-! ### the place of a sign -/
abbrev q_rfind4 : V → List V → Hp → VK → Prop := fun x xs H Q => ∃ (a b : Str) (i j : Int), x = .str a ∧ xs = [.str b, .int i, .int j] ∧ Q (.int (Txt.rfindIn a b i j)) H
abbrev q_find3 : V → List V → Hp → VK → Prop := fun x xs H Q => ∃ (a b : Str) (i : Int), x = .str a ∧ xs = [.str b, .int i] ∧ Q (.int (Txt.find3 a b i)) H
open Builtin Builtin.Str StrLaws in
theorem at_one {x : Str} {c hi i : Nat} (h : hi ≤ x.length) : At x ⟨#[c]⟩ hi i ↔ i < hi ∧ x.cps.toList[i]? = some c := by
  have e : (⟨#[c]⟩ : Str).length = 1 := rfl
  constructor
  · rintro ⟨h1, h2⟩
    rw [e] at h1
    exact ⟨by omega, (subAt_one x c i).mp ⟨by rw [e]; omega, h2⟩⟩
  · rintro ⟨h1, h2⟩
    exact ⟨by rw [e]; omega, ((subAt_one x c i).mpr h2).2⟩
open Builtin Builtin.Str StrLaws in
/-- the last c in [lo, hi) -/
theorem last_one (x : Str) (c lo hi : Nat) (h : hi ≤ x.length) : (lastOccurrence x ⟨#[c]⟩ lo hi = none ∧ ∀ i, lo ≤ i → i < hi → x.cps.toList[i]? ≠ some c) ∨
    ∃ i, lastOccurrence x ⟨#[c]⟩ lo hi = some i ∧ lo ≤ i ∧ i < hi ∧ x.cps.toList[i]? = some c ∧ ∀ k, i < k → k < hi → x.cps.toList[k]? ≠ some c := by
  rw [last_eq]
  have key := last_run x ⟨#[c]⟩ hi (List.range' lo (hi + 1 - lo)) [] none (fun _ h => nomatch h) (fun _ h => nomatch h) (by simpa using List.pairwise_lt_range' (s := lo) (n := hi + 1 - lo))
  have mem : ∀ i, lo ≤ i → i < hi → i ∈ [] ++ List.range' lo (hi + 1 - lo) := fun i h1 h2 => by
    simp [List.mem_range']
    exact ⟨i - lo, by omega, by omega⟩
  cases hr : (forIn (List.range' lo (hi + 1 - lo)) none (lastBody x ⟨#[c]⟩ hi)).run with
  | none =>
    rw [hr] at key
    exact .inl ⟨rfl, fun i h1 h2 e => key i (mem i h1 h2) ((at_one h).mpr ⟨h2, e⟩)⟩
  | some a =>
    rw [hr] at key
    have ka := (at_one h).mp key.1
    refine .inr ⟨a, rfl, ?_, ka.1, ka.2, fun k h1 h2 e => ?_⟩
    · -- it was among the places looked at
      have hmem : ∀ (l : List Nat) (st : Option Nat) (r : Nat), (forIn l st (lastBody x ⟨#[c]⟩ hi)).run = some r → r ∈ l ∨ st = some r := by
        intro l
        induction l with
        | nil => intro st r e; exact .inr e
        | cons b l ih =>
          intro st r e
          rw [List.forIn_cons] at e
          unfold lastBody at e
          split at e
          · rcases ih _ _ e with hm | hm
            · exact .inl (List.mem_cons_of_mem _ hm)
            · exact .inl (by cases hm; exact List.mem_cons_self ..)
          · rcases ih _ _ e with hm | hm
            · exact .inl (List.mem_cons_of_mem _ hm)
            · exact .inr hm
      rcases hmem _ _ _ hr with hm | hm
      · simp [List.mem_range'] at hm
        omega
      · exact nomatch hm
    · by_cases hk : lo ≤ k
      · exact key.2 k (mem k hk h2) h1 ((at_one h).mpr ⟨h2, e⟩)
      · exact key.2 k (by
          have hk2 : k < lo := by omega
          have : lo ≤ a := by
            have hmem : ∀ (l : List Nat) (st : Option Nat) (r : Nat), (forIn l st (lastBody x ⟨#[c]⟩ hi)).run = some r → r ∈ l ∨ st = some r := by
              intro l
              induction l with
              | nil => intro st r e; exact .inr e
              | cons b l ih =>
                intro st r e
                rw [List.forIn_cons] at e
                unfold lastBody at e
                split at e
                · rcases ih _ _ e with hm | hm
                  · exact .inl (List.mem_cons_of_mem _ hm)
                  · exact .inl (by cases hm; exact List.mem_cons_self ..)
                · rcases ih _ _ e with hm | hm
                  · exact .inl (List.mem_cons_of_mem _ hm)
                  · exact .inr hm
            rcases hmem _ _ _ hr with hm | hm
            · simp [List.mem_range'] at hm
              omega
            · exact nomatch hm
          omega) h1 ((at_one h).mpr ⟨h2, e⟩)
open Builtin Builtin.Str StrLaws in
/-- the first c from lo on -/
theorem first_one (x : Str) (c lo : Nat) : (occurrences x ⟨#[c]⟩ lo x.length 1 = [] ∧ ∀ i, lo ≤ i → x.cps.toList[i]? ≠ some c) ∨
    ∃ i r, occurrences x ⟨#[c]⟩ lo x.length 1 = i :: r ∧ lo ≤ i ∧ x.cps.toList[i]? = some c ∧ ∀ k, lo ≤ k → k < i → x.cps.toList[k]? ≠ some c := by
  rw [occ_eq]
  have inr : ∀ i c, x.cps.toList[i]? = some c → i < x.length := fun i c e => by
    have h := (List.getElem?_eq_some_iff.mp e).1
    simpa [Str.length] using h
  rcases occ_first x ⟨#[c]⟩ x.length 1 (Nat.le_refl _) (List.range' lo (x.length + 1 - lo)) lo (fun i hi => by simp [List.mem_range'] at hi; omega) with ⟨h0, hn⟩ | ⟨pre, a, post, e, h0, ha, hn⟩
  · refine .inl ⟨by rw [h0], fun i h1 e => ?_⟩
    have := inr i c e
    exact hn i (by simp [List.mem_range']; exact ⟨i - lo, by omega, by omega⟩) ((at_one (Nat.le_refl _)).mpr ⟨this, e⟩)
  · have hm : a ∈ List.range' lo (x.length + 1 - lo) := by rw [e]; simp
    have hlo : lo ≤ a := by simp [List.mem_range'] at hm; omega
    have ka := (at_one (Nat.le_refl _)).mp ha
    generalize hl : (forIn (List.range' lo (x.length + 1 - lo)) ((#[] : Array Nat), lo) (occBody x ⟨#[c]⟩ x.length 1)).run.fst = arr at h0
    rw [← Array.getElem?_toList] at h0
    cases hal : arr.toList with
    | nil => rw [hal] at h0; exact nomatch h0
    | cons b r =>
      rw [hal] at h0
      have hb : b = a := Option.some.inj h0
      subst hb
      refine .inr ⟨b, r, rfl, hlo, ka.2, fun k h1 h2 ek => ?_⟩
      have hk := inr k c ek
      refine hn k ?_ ((at_one (Nat.le_refl _)).mpr ⟨hk, ek⟩)
      have hp : (List.range' lo (x.length + 1 - lo)).Pairwise (· < ·) := by simpa using List.pairwise_lt_range' (s := lo) (n := x.length + 1 - lo)
      rw [e] at hp
      have hmk : k ∈ pre ++ b :: post := by rw [← e]; simp [List.mem_range']; exact ⟨k - lo, by omega, by omega⟩
      rcases List.mem_append.mp hmk with g | g
      · exact g
      · rcases List.mem_cons.mp g with g | g
        · omega
        · have := (List.pairwise_cons.mp (List.pairwise_append.mp hp).2.1).1 k g
          omega
end Wp

namespace Wp
open PySem PySem.Spec PyProof.Rows L2 TyNe

/-! ### a property of an own class -/
structure Prp (P : Program) (w : World) (K : PySem.W.Frag) (mg : Str → Option Value) (base : Heap) (k : Nat) (C : Addr) (m : Str) (sp : Sp) : Prop where
  ex : ∃ (f p : Addr) (fd : FuncData) (ps : List Str), Cls K C ∧ PropOf K C m p f ∧ FnOk P w K mg base C8.CX0 k f fd ps sp ∧ Binds K fd ps []
theorem prp0 {P : Program} {w : World} {K : PySem.W.Frag} {mg : Str → Option Value} {base : Heap} {m x qual : Str} {C p : Addr} {st : Stmt} {f : Addr} {fd : FuncData} {N ps : List Str} {k : Nat} {sp : Sp} (c : Cls K C) (hp : PropOf K C m p f) (F : C8.Fun K x qual st f fd) (b : Binds K fd ps []) (S : FnScope N ps (C8.fnScope st)) (len : ∀ vs H Q E, sp vs H Q E → vs.length = ps.length)
    (hbody : ∀ (cdv : Value) (A : Around) (outer : List Env) (s : Shared) (H : Hp) (vs : List V) (Q : VK) (E : XK), Room k (A.deeper (envOfC qual (C8.fnScope st) s.heap.objs.size f cdv)) → sp vs H Q E →
      ∃ t, PSs (cxOf C8.CX0 P w K mg base N qual (C8.fnScope st) f cdv A outer s H E).nox (C8.fnBody st) t ∧ t { nx := fun _ H' => Q .non H', rt := Q } (start N vs) H) : Prp P w K mg base (k + 1) C m sp :=
  ⟨f, p, fd, ps, c, hp, C8.fn0 F S len hbody, b⟩
theorem pe_pp {X : Cx} {k j : Nat} {C : Addr} {m : Str} {sp : Sp} {e : Expr} {pos : Pos} {ta : TE} (c : Prp X.prog X.w X.K X.mg X.base k C m sp) (hr : Room j X.A) (hk : k + 1 ≤ j) (he : PE X e ta)
    (hab : attributeBase e m X.env (eval e X.env) = eval e X.env) : PE X (.Attribute e m pos) (tProp C sp [] C8.E0 ta) := by
  obtain ⟨f, p, fd, ps, hc, hp, F, b⟩ := c.ex
  exact pe_prop he hc hp F (hr.mono hk) b .nil C8.pass0 hab
theorem hu1 {j : Nat} {A : Around} (hr : Room j A) : A.units + 1 < cLine := by
  have := hr.units
  omega
abbrev qSortedD : List V → Hp → VK → Prop := fun xs H Q => ∃ (a : Addr) (kvs : List (Key × V)) (ks : List Str), xs = [.ref a] ∧ Rd H a (.dK kvs) ∧ kvs.map (·.1) = ks.map Sum.inr ∧ ks.length < 64 ∧
    ∀ ys p, ys.Perm ks → sortedS ys = true → H p = none → Q (.ref p) (upd H p (.lst (ys.map V.str)))

section
variable {K : PySem.W.Frag} {σ : L2.St} {H : Hp} {v : V} {Q : VK} {D : Ends} {te ta td ty tv tx : TE}
theorem w_yes {R : Bool → Hp → Prop} (q : R true H) : tYes σ H R := q
theorem iteT_ {A B : Prop} (q : A) : if (true : Bool) = true then A else B := q
theorem gc {t : TG} {u : TGs} {v : V} {r : List V} {Q : L2.St → Hp → Prop} (q : t v σ H fun σ' H' => u r σ' H' Q) : gCons t u (v :: r) σ H Q := ⟨v, r, rfl, q⟩
theorem gn {Q : L2.St → Hp → Prop} (q : Q σ H) : gNil [] σ H Q := ⟨rfl, q⟩
theorem w_fld {f : Str} (q : ta σ H fun x H1 => ∃ a C dx fs v, x = .ref a ∧ H1 a = some (.ins C dx fs) ∧ Cls K C ∧ NoAttr K C f ∧ fs.lookup f = some v ∧ Q v H1) : tFld K ta f σ H Q := q
theorem w_prop {C : Addr} {sp : Sp} {dvs : List V} {E : XK} (q : ta σ H fun x H1 => ∃ a dx fs, x = .ref a ∧ H1 a = some (.ins C dx fs) ∧ sp (.ref a :: dvs) H1 Q E) : tProp C sp dvs E ta σ H Q := q
theorem w_meth {C : Addr} {m : Str} {sp : Sp} {dvs : List V} {E : XK} {t : TA} (q : ta σ H fun x H1 => ∃ a dx fs, x = .ref a ∧ H1 a = some (.ins C dx fs) ∧ fs.lookup m = none ∧ t σ H1 fun vs H2 => sp (x :: (vs ++ dvs)) H2 Q E) : tMeth C m sp dvs E ta t σ H Q := q
theorem w_make {C : Addr} {sp : Sp} {dvs : List V} {E : XK} {t : TA} (q : t σ H fun vs H1 => ∀ x dx, H1 x = none → H1 dx = none → dx ≠ x → sp (.ref x :: (vs ++ dvs)) (upd (upd H1 dx (.own x)) x (.ins C dx [])) (fun v H2 => v = .non ∧ Q (.ref x) H2) E) : tMake C sp dvs E t σ H Q := q
theorem w_dget (q : td σ H fun x H1 => ty σ H1 fun y H2 => ∃ a v, x = .ref a ∧ DGet H2 a y (some v) ∧ Q v H2) : tDGet td ty σ H Q := q
theorem w_dget2 (q : td σ H fun x H1 => ∃ a, x = .ref a ∧ IsD H1 a ∧ ty σ H1 fun y H2 => tx σ H2 fun z H3 => ∃ o, DGet H3 a y o ∧ Q (o.getD z) H3) : tDGet2 td ty tx σ H Q := q
theorem w_dput (q : tv σ H fun v H1 => td σ H1 fun x H2 => ty σ H2 fun y H3 => ∃ a H4, x = .ref a ∧ DPut H3 a y v H4 ∧ D.nx σ H4) : sDPut td ty tv D σ H := q
theorem w_sfld {f : Str} (q : tv σ H fun y H1 => ta σ H1 fun x H2 => ∃ a C dx fs, x = .ref a ∧ H2 a = some (.ins C dx fs) ∧ Cls K C ∧ NoAttr K C f ∧ fs.length < 1000 ∧ D.nx σ (upd H2 a (.ins C dx (putF f y fs)))) : sFld K ta tv f D σ H := q
end
end Wp

namespace Wp
open PySem PySem.Spec PyProof.Rows L2 TyNe He

/-! ### a dict of the module with text keys, asked by get -/
structure MDict (K : PySem.W.Frag) (w : World) (d : Addr) (g : Str → Option V) : Prop where
  ex : ∃ es n, KDict K w d es n ∧ ∀ z, ∃ r, PySem.W.nsIn K d z = some r ∧ RelO (g z) r
/-- NAME.get(k, x) -/
def tKGet2 (g : Str → Option V) (ty tx : TE) : TE := fun σ H Q => ty σ H fun y H1 => tx σ H1 fun z H2 => ∃ w : Str, y = .str w ∧ Q ((g w).getD z) H2
theorem pe_kget2 {X : Cx} {d : Addr} {g : Str → Option V} {x : Str} {e f : Expr} {p apos cpos : Pos} {ty tx : TE} (M : MDict X.K X.w d g) (hg : Gl X x) (hm : X.mg x = some (.ref d)) (he : PE X e ty) (hf : PE X f tx)
    (m : M2 X (.Name x p) "get" apos e f cpos) (hd : (x == ("__debug__" : Str)) = false := by decide) : PE X (.Call (.Attribute (.Name x p) "get" apos) [e, f] [] cpos) (tKGet2 g ty tx) := by
  obtain ⟨es, n, D, hn⟩ := M.ex
  refine ⟨fun pins s σ H Q I h => ?_⟩
  refine wpAny_Call_method m.base m.few m.line PySem.F.plainAttrs_dict PySem.F.slot_dict_get PySem.F.type_dict_get (thn ((C8.pe_gc (pos := p) (v := .ref d) hg ⟨_, hm, rfl⟩ hd).run pins s σ H (fun v H1 => v = .ref d ∧ ty σ H1 fun y H1 => tx σ H1 fun z H2 => ∃ w : Str, y = .str w ∧ Q ((g w).getD z) H2) I ⟨rfl, h⟩) fun u s1 ⟨x, H1, I1, rx, ex, q1⟩ => ?_)
  subst ex
  obtain rfl : u = Value.ref d := rx
  have mo : ∀ {s' : Shared} {σ' : L2.St} {H' : Hp}, Inv X pins σ' H' s' → s'.heap.MapOf (strKind X.prog X.w) d (fun k => findBy Value.isStrOf es k) := fun I' => PySem.W.mapOf_K (prog := X.prog) I'.kIn D.at_ D.lit
  refine ⟨(mo I1).typeIs, (mo I1).noDict, ?_⟩
  rw [m.trees]
  refine Calls.callWith_builtin rfl (Calls.evalArgs_plain (Calls.spliced_cons (thn (he.run pins s1 σ H1 _ I1 q1) fun iv s2 ⟨y, H2, I2, ry, q2⟩ =>
    Calls.spliced_cons (thn (hf.run pins s2 σ H2 _ I2 q2) fun fv s3 ⟨z, H3, I3, rz, w, ey, q3⟩ => Calls.spliced_nil ?_))))
  subst ey
  obtain ⟨t, rfl⟩ := ry
  obtain ⟨r, hr, rel⟩ := hn w
  refine call_meetsIn PySem.F.slot_dict_get (mo I3).typeIs PySem.F.entry_dict_get (PySem.F.args_dict_get_3 _ _ _) (meets_dict_get_default (strKind X.prog X.w) d (PySem.strKind_is X.prog X.w w t) D.low fv) ⟨_, mo I3, ?_⟩
  rw [PySem.W.find_K D.at_ hr]
  exact ⟨_, H3, I3.tok _, rel.getD rz, q3⟩
/-- from the keys, and what stands at each -/
theorem mdict {K : PySem.W.Frag} {w : World} {d : Addr} {kvs : List (Str × V)} (hk : dicW K d = some (keysIn w.params (kvs.map (·.1)))) (hv : ∀ p ∈ kvs, ∃ u, PySem.W.nsIn K d p.1 = some (some u) ∧ RelV p.2 u) :
    MDict K w d (fun z => (kvs.find? fun p => decide (p.1 = z)).map (·.2)) := by
  obtain ⟨es, n, D⟩ := dicW_ok hk
  refine ⟨es, n, D, fun z => ?_⟩
  cases hf : kvs.find? fun p => decide (p.1 = z) with
  | some p =>
    have hp := List.mem_of_find?_eq_some hf
    have hz0 := List.find?_some hf
    have hz : p.1 = z := of_decide_eq_true hz0
    obtain ⟨u, h1, h2⟩ := hv p hp
    rw [hz] at h1
    exact ⟨some u, h1, h2⟩
  | none =>
    refine ⟨none, ?_, trivial⟩
    have he : es.toList.map He.keyOf = keysIn w.params (kvs.map (·.1)) := by
      unfold dicW at hk
      rw [D.at_] at hk
      have hl := D.low
      simp [hl] at hk
      exact hk
    have hkey : ∀ e ∈ es.toList, ∃ x t, e.key = .str x t ∧ x ≠ z := fun e hm => by
      have h1 : He.keyOf e ∈ keysIn w.params (kvs.map (·.1)) := by rw [← he]; exact List.mem_map.mpr ⟨e, hm, rfl⟩
      obtain ⟨k, hkm, h2⟩ := List.mem_map.mp h1
      obtain ⟨p, hpm, rfl⟩ := List.mem_map.mp hkm
      obtain ⟨x, t, e1, e2⟩ := D.lit.all e hm
      refine ⟨x, t, e1, fun ez => ?_⟩
      unfold He.keyOf at h2
      rw [e1] at h2
      have h3 := congrArg Prod.fst (Option.some.inj h2)
      exact (List.find?_eq_none.mp hf p hpm) (decide_eq_true (h3.trans ez))
    unfold PySem.W.nsIn
    rw [D.at_]
    dsimp only
    have f0 : es.toList.find? (·.key.isStr z) = none := List.find?_eq_none.mpr fun e hm h => by
      obtain ⟨x, t, e1, e2⟩ := hkey e hm
      rw [e1] at h
      exact e2 (beq_iff_eq.mp h)
    have a0 : es.toList.any (·.refKey) = false := List.any_eq_false.mpr fun e hm h => by
      obtain ⟨x, t, e1, e2⟩ := hkey e hm
      unfold DictEntry.refKey at h
      rw [e1] at h
      exact nomatch h
    rw [f0, a0]
    rfl
end Wp

/-! zip of a tuple and a list -/
namespace ZMix
open PySem PySem.Spec PyProof.Rows L2 RZ
section
variable {prog : Program} {w : World} {A : Around} {E : Value → Shared → Prop} {s : Shared}
/-- what a zip object looks like: the tuple's iterator first, then the list's -/
structure Zst (h : Heap) (z TI TO i j p l : Addr) (n : Nat) (f : Value) : Prop where
  Z : IsZip h z TI TO f
  I : IsPair h TI (.ref i) (.ref j)
  O : ∃ a b, IsPair h TO a b
  P : h.IsTupleIter i p n
  L : h.IsListIter j l n
theorem step {z TI TO i j p l : Addr} {n : Nat} {xs ys : Array Value} {x y : Value} {Q : Value → Shared → Prop} (D : ZipApart z TI TO i j p l) (S : Zst s.heap z TI TO i j p l n .none)
    (hp : s.heap.IsTuple p xs) (hl : s.heap.IsList l ys) (hx : xs[n]? = some x) (hy : ys[n]? = some y)
    (q : ∀ h', Zst h' z TI TO i j p l (n + 1) (rawInt s.heap.objs.size) → IsPair h' s.heap.objs.size x y → h'.objs.size = s.heap.objs.size + 1 →
      (∀ c o, c ≠ z ∧ c ≠ TO ∧ c ≠ i ∧ c ≠ j → s.heap.get? c = some o → h'.get? c = some o) → Q (.ref s.heap.objs.size) { s with heap := h' }) :
    wpAny (model prog w) A (Builtin.«zip.__next__» ⟨[.ref z], []⟩) (fun r s' => ∃ v, r = .done (.ret v) ∧ Q v s') E s := by
  obtain ⟨a, b, hO⟩ := S.O
  show wpAny _ _ (field (.ref z) 2 >>= _) _ _ _; refine wpAny_bind (wpAny_field S.Z rfl (x := .bool false) rfl ?_)
  show wpAny _ _ (field (.ref z) 3 >>= _) _ _ _; refine wpAny_bind (wpAny_field S.Z rfl (x := .ref TI) rfl (wpAny_bind (wpAny_seqItems S.I rfl ?_)))
  show wpAny _ _ (Builtin.SmallTypes.ownedTupleIsFree (.ref z) >>= _) _ _ _; refine wpAny_bind ?_; unfold Builtin.SmallTypes.ownedTupleIsFree
  refine wpAny_bind (wpAny_field S.Z rfl (x := .none) rfl (wpAny_pure ?_)); simp only [if_true]
  refine wpAny_bind (wpAny_rule (wpAny_bind (wpAny_field S.Z rfl (x := .ref TO) rfl (wpAny_bind (wpAny_setField_rec S.Z (by simp) fun k1 u1 e1 => wpAny_bind ?_)))))
  have Z1 : IsZip k1 z TI TO .ellipsis := u1
  simp only [List.zipIdx_cons, List.zipIdx_nil, List.forIn_cons, List.forIn_nil]; refine wpAny_bind (wpAny_bind (wpAny_onRaise ?_))
  show wpAny _ _ (Builtin.SmallTypes.nextOf (.ref i) >>= _) _ _ _; refine wpAny_bind (nextOf_tuple_item (S.P.extBut e1.extBut D.i1z) (hp.extBut e1.extBut D.l1z) hx fun k2 P2 e2 => wpAny_pure ?_)
  have O2 : IsPair k2 TO a b := e2.extBut _ _ D.TOi1 (e1.extBut _ _ D.TOz hO)
  refine wpAny_bind (wpAny_seqItems O2 rfl (wpAny_bind (wpAny_updateSeq_pair O2 fun k3 u3 e3 => wpAny_bind (wpAny_letGo (wpAny_pure (wpAny_bind (wpAny_bind (wpAny_onRaise ?_))))))))
  have O3 : IsPair k3 TO x b := u3
  have up13 : ∀ c o, c ≠ TO → c ≠ i → k1.get? c = some o → k3.get? c = some o := fun c o c1 c2 e => e3.extBut _ _ c1 (e2.extBut _ _ c2 e)
  have up3 : ∀ c o, c ≠ z → c ≠ TO → c ≠ i → s.heap.get? c = some o → k3.get? c = some o := fun c o c0 c1 c2 e => up13 c o c1 c2 (e1.extBut _ _ c0 e)
  show wpAny _ _ (Builtin.SmallTypes.nextOf (.ref j) >>= _) _ _ _
  refine wpAny_bind (wpAny_nextOf_list_item (S.L.at fun o e => up3 j o D.i2z D.TOi2.symm D.i12.symm e) (hl.at fun o e => up3 l o D.l2z D.l2TO D.l2i1 e) hy fun k4 L4 e4 => wpAny_pure ?_)
  have O4 : IsPair k4 TO x b := e4.extBut _ _ D.TOi2 O3
  refine wpAny_bind (wpAny_seqItems O4 rfl (wpAny_bind (wpAny_updateSeq_pair O4 fun k5 u5 e5 => wpAny_bind (wpAny_letGo (wpAny_pure (wpAny_pure ?_))))))
  have O5 : IsPair k5 TO x y := u5
  refine wpAny_bind (wpAny_seqItems O5 rfl (wpAny_bind (wpAny_newTuple ?_)))
  have sz : k5.objs.size = s.heap.objs.size := by rw [e5.1, e4.1, e3.1, e2.1, e1.1]
  have up5 : ∀ c o, c ≠ TO → c ≠ i → c ≠ j → k1.get? c = some o → k5.get? c = some o := fun c o c1 c2 c3 e => e5.extBut _ _ c1 (e4.extBut _ _ c3 (up13 c o c1 c2 e))
  have Z5 : IsZip k5 z TI TO .ellipsis := up5 _ _ D.TOz.symm D.i1z.symm D.i2z.symm Z1
  have P5 : k5.IsTupleIter i p (n + 1) := P2.at fun o e => e5.extBut _ _ D.TOi1.symm (e4.extBut _ _ D.i12 (e3.extBut _ _ D.TOi1.symm e))
  have L5 : k5.IsListIter j l (n + 1) := L4.extBut e5.extBut D.TOi2.symm
  have lz : z < k5.objs.size := Heap.lt_size Z5
  show wpAny _ _ (Builtin.SmallTypes.ownedTupleHandOut (.ref z) (.ref k5.objs.size) >>= _) _ _ _; refine wpAny_bind ?_; unfold Builtin.SmallTypes.ownedTupleHandOut
  have Z6 : IsZip (k5.push { cls := .type "tuple", data := .seq #[x, y] }) z TI TO .ellipsis := Heap.get?_push_of_some _ Z5
  refine wpAny_bind (wpAny_setField_rec Z6 (by simp) fun k7 u7 e7 => ?_)
  have Z7 : IsZip k7 z TI TO (rawInt k5.objs.size) := u7
  refine wpAny_setField_rec Z7 (by simp) fun k8 u8 e8 => ?_
  have Z8 : IsZip k8 z TI TO (rawInt k5.objs.size) := u8
  have up8 : ∀ c o, c ≠ z → k5.get? c = some o → k8.get? c = some o := fun c o c0 e => e8.extBut _ _ c0 (e7.extBut _ _ c0 (Heap.get?_push_of_some _ e))
  have T8 : IsPair k8 k5.objs.size x y := e8.extBut _ _ (Nat.ne_of_gt lz) (e7.extBut _ _ (Nat.ne_of_gt lz) (Heap.get?_push_size _ rfl))
  have s8 : k8.objs.size = k5.objs.size + 1 := by rw [e8.1, e7.1, Heap.size_push]
  rw [sz] at Z8 T8 s8
  have I8 : IsPair k8 TI (.ref i) (.ref j) := up8 _ _ D.TIz (up5 _ _ D.TITO D.TIi1 D.TIi2 (e1.extBut _ _ D.TIz S.I))
  refine wpAny_pure ⟨_, rfl, ?_⟩
  rw [show k5.objs.size = s.heap.objs.size from sz]
  exact q k8 ⟨Z8, I8, ⟨x, y, up8 _ _ D.TOz O5⟩, P5.at fun o e => up8 _ o D.i1z e, L5.at fun o e => up8 _ o D.i2z e⟩ T8 s8 fun c o c0 e => up8 c o c0.1 (up5 c o c0.2.1 c0.2.2.1 c0.2.2.2 (e1.extBut _ _ c0.1 e))
theorem stop {z TI TO i j p l : Addr} {n : Nat} {xs ys : Array Value} {Q : PySem.Fin → Shared → Prop} (hh : A.handled = none) (D : ZipApart z TI TO i j p l) (S : Zst s.heap z TI TO i j p l n .none)
    (hp : s.heap.IsTuple p xs) (hl : s.heap.IsList l ys) (he : xs[n]? = none ∨ ys[n]? = none)
    (q : ∀ h' e, (∀ c o, c ≠ z ∧ c ≠ TO ∧ c ≠ i ∧ c ≠ j → s.heap.get? c = some o → h'.get? c = some o) → (∃ o, h'.get? e = some o ∧ o.cls = .type "StopIteration") → E (.ref e) { s with heap := h' }) :
    wpAny (model prog w) A (Builtin.«zip.__next__» ⟨[.ref z], []⟩) Q E s := by
  obtain ⟨a, b, hO⟩ := S.O
  show wpAny _ _ (field (.ref z) 2 >>= _) _ _ _; refine wpAny_bind (wpAny_field S.Z rfl (x := .bool false) rfl ?_)
  show wpAny _ _ (field (.ref z) 3 >>= _) _ _ _; refine wpAny_bind (wpAny_field S.Z rfl (x := .ref TI) rfl (wpAny_bind (wpAny_seqItems S.I rfl ?_)))
  show wpAny _ _ (Builtin.SmallTypes.ownedTupleIsFree (.ref z) >>= _) _ _ _; refine wpAny_bind ?_; unfold Builtin.SmallTypes.ownedTupleIsFree
  refine wpAny_bind (wpAny_field S.Z rfl (x := .none) rfl (wpAny_pure ?_)); simp only [if_true]
  refine wpAny_bind (wpAny_rule (wpAny_bind (wpAny_field S.Z rfl (x := .ref TO) rfl (wpAny_bind (wpAny_setField_rec S.Z (by simp) fun k1 u1 e1 => wpAny_bind ?_)))))
  have Z1 : IsZip k1 z TI TO .ellipsis := u1
  simp only [List.zipIdx_cons, List.zipIdx_nil, List.forIn_cons, List.forIn_nil]; refine wpAny_bind (wpAny_bind (wpAny_onRaise ?_))
  show wpAny _ _ (Builtin.SmallTypes.nextOf (.ref i) >>= _) _ _ _
  have apart : ∀ {k : Heap} {e : Addr} {oe : Obj}, IsZip k z TI TO .ellipsis → k.get? e = some oe → oe.cls = .type "StopIteration" → e ≠ z := fun {k e oe} hz h1 h2 h3 => by
    rw [h3, show k.get? z = _ from hz] at h1
    cases h1
    exact absurd (show Value.type "zip" = .type "StopIteration" from h2) (by decide)
  cases hx : xs[n]? with
  | none =>
    refine wpAny_bind (nextOf_tuple_end hh (S.P.extBut e1.extBut D.i1z) (hp.extBut e1.extBut D.l1z) hx fun k2 e e2 ⟨oe, h1, h2⟩ => ?_)
    have Z2 : IsZip k2 z TI TO .ellipsis := e2 _ _ D.i1z.symm Z1
    exact wpAny_setField_rec Z2 (by simp) fun k3 _ e3 => q k3 e (fun c o c0 x => e3.extBut _ _ c0.1 (e2 _ _ c0.2.2.1 (e1.extBut _ _ c0.1 x))) ⟨oe, e3.extBut _ _ (apart Z2 h1 h2) h1, h2⟩
  | some x =>
    have hy : ys[n]? = none := he.resolve_left (by rw [hx]; exact nofun)
    refine wpAny_bind (nextOf_tuple_item (S.P.extBut e1.extBut D.i1z) (hp.extBut e1.extBut D.l1z) hx fun k2 P2 e2 => wpAny_pure ?_)
    have O2 : IsPair k2 TO a b := e2.extBut _ _ D.TOi1 (e1.extBut _ _ D.TOz hO)
    refine wpAny_bind (wpAny_seqItems O2 rfl (wpAny_bind (wpAny_updateSeq_pair O2 fun k3 u3 e3 => wpAny_bind (wpAny_letGo (wpAny_pure (wpAny_bind (wpAny_bind (wpAny_onRaise ?_))))))))
    have up3 : ∀ c o, c ≠ z → c ≠ TO → c ≠ i → s.heap.get? c = some o → k3.get? c = some o := fun c o c0 c1 c2 e => e3.extBut _ _ c1 (e2.extBut _ _ c2 (e1.extBut _ _ c0 e))
    show wpAny _ _ (Builtin.SmallTypes.nextOf (.ref j) >>= _) _ _ _
    refine wpAny_bind (wpAny_nextOf_list_end hh (S.L.at fun o e => up3 j o D.i2z D.TOi2.symm D.i12.symm e) (hl.at fun o e => up3 l o D.l2z D.l2TO D.l2i1 e) hy fun k4 e e4 ⟨oe, h1, h2⟩ => ?_)
    have Z4 : IsZip k4 z TI TO .ellipsis := e4 _ _ D.i2z.symm (e3.extBut _ _ D.TOz.symm (e2.extBut _ _ D.i1z.symm Z1))
    exact wpAny_setField_rec Z4 (by simp) fun k5 _ e5 => q k5 e (fun c o c0 x => e5.extBut _ _ c0.1 (e4 _ _ c0.2.2.2 (up3 c o c0.1 c0.2.1 c0.2.2.1 x))) ⟨oe, e5.extBut _ _ (apart Z4 h1 h2) h1, h2⟩
theorem nxt {z TI TO i j p l : Addr} {n : Nat} {xs ys : Array Value} {x y : Value} {Q : Option Value → Shared → Prop} (D : ZipApart z TI TO i j p l) (S : Zst s.heap z TI TO i j p l n .none)
    (hp : s.heap.IsTuple p xs) (hl : s.heap.IsList l ys) (hx : xs[n]? = some x) (hy : ys[n]? = some y)
    (q : ∀ h', Zst h' z TI TO i j p l (n + 1) (rawInt s.heap.objs.size) → IsPair h' s.heap.objs.size x y → h'.objs.size = s.heap.objs.size + 1 →
      (∀ c o, c ≠ z ∧ c ≠ TO ∧ c ≠ i ∧ c ≠ j → s.heap.get? c = some o → h'.get? c = some o) → Q (some (.ref s.heap.objs.size)) { s with heap := h' }) : wpAny (model prog w) A (pyNext (.ref z)) Q E s := by
  unfold pyNext
  refine wpAny_bind (wpAny_attempt (wpAny_callSpecial?_slot (name := Str.ofString "__next__") ⟨_, S.Z, rfl⟩ F.slot_zip_next (wpAny_call_entry F.slot_zip_next ⟨_, S.Z, rfl⟩ F.entry_zip_next ?_ (F.args_zip_next_1 _))))
  exact step D S hp hl hx hy fun h' a b c d => wpAny_pure (q h' a b c d)
theorem nxtE {z TI TO i j p l : Addr} {n : Nat} {xs ys : Array Value} {Q : Option Value → Shared → Prop} (hh : A.handled = none) (D : ZipApart z TI TO i j p l) (S : Zst s.heap z TI TO i j p l n .none)
    (hp : s.heap.IsTuple p xs) (hl : s.heap.IsList l ys) (he : xs[n]? = none ∨ ys[n]? = none)
    (q : ∀ h', (∀ c o, c ≠ z ∧ c ≠ TO ∧ c ≠ i ∧ c ≠ j → s.heap.get? c = some o → h'.get? c = some o) → Q none { s with heap := h' }) : wpAny (model prog w) A (pyNext (.ref z)) Q E s := by
  unfold pyNext
  refine wpAny_bind (wpAny_attempt (wpAny_callSpecial?_slot (name := Str.ofString "__next__") ⟨_, S.Z, rfl⟩ F.slot_zip_next (wpAny_call_entry F.slot_zip_next ⟨_, S.Z, rfl⟩ F.entry_zip_next ?_ (F.args_zip_next_1 _))))
  exact stop hh D S hp hl he fun h' e k ⟨o, h1, h2⟩ => wpAny_bind (wpAny_isInstance (T := "StopIteration") (b := true) ⟨o, h1, h2⟩ isSubtype_stop (wpAny_pure (q _ k)))
end
/-- the heap with the five new objects -/
def mk1 (h : Heap) (p : Addr) : Heap := h.push { cls := .type "tuple_iterator", data := .fields #[.ref p, .int 0 0] }
def mk2 (h : Heap) (p l : Addr) : Heap := (mk1 h p).push { cls := .type "list_iterator", data := .fields #[.ref l, .int 0 0] }
def mk3 (h : Heap) (p l : Addr) : Heap := (mk2 h p l).push { cls := .type "tuple", data := .seq #[.ref h.objs.size, .ref (mk1 h p).objs.size] }
def mk4 (h : Heap) (p l : Addr) : Heap := (mk3 h p l).push { cls := .type "tuple", data := .seq #[.none, .none] }
def mk5 (h : Heap) (p l : Addr) : Heap := (mk4 h p l).push { cls := .type "zip", data := .fields #[.none, .bool false, .bool false, .ref (mk2 h p l).objs.size, .ref (mk3 h p l).objs.size] }
theorem made (p l : Addr) (xs ys : Array Value) : Meets (Builtin.«zip.__new__» ⟨[.type "zip", .ref p, .ref l], []⟩) (fun _ R s => s.heap.IsTuple p xs ∧ s.heap.IsList l ys ∧ R (.ok (.ret (.ref (mk4 s.heap p l).objs.size))) { s with heap := mk5 s.heap p l }) :=
  .of_wp fun prog w A R s hyp => by
    obtain ⟨hp, g, d, tk, os⟩ := s
    obtain ⟨a1, a2, a3⟩ := hyp
    have hsub := sub_zip
    have b1 : Heap.IsTuple (Shared.heap ⟨hp, g, d, tk, os⟩) p xs := a1
    have b2 : Heap.IsList (Shared.heap ⟨hp.push { cls := .type "tuple_iterator", data := .fields #[.ref p, .int 0 0] }, g, d, tk, os⟩) l ys := Heap.IsList.push a2 _
    wp_walk using wpAny_pyIter_tuple b1, wpAny_pyIter_list b2
    exact ⟨_, rfl, a3⟩
theorem mk_all (h : Heap) (p l : Addr) : Zst (mk5 h p l) (h.objs.size + 4) (h.objs.size + 2) (h.objs.size + 3) h.objs.size (h.objs.size + 1) p l 0 .none ∧ (mk4 h p l).objs.size = h.objs.size + 4 ∧ ∀ c o, h.get? c = some o → (mk5 h p l).get? c = some o := by
  have s1 : (mk1 h p).objs.size = h.objs.size + 1 := Heap.size_push ..
  have s2 : (mk2 h p l).objs.size = h.objs.size + 2 := by unfold mk2; rw [Heap.size_push, s1]
  have s3 : (mk3 h p l).objs.size = h.objs.size + 3 := by unfold mk3; rw [Heap.size_push, s2]
  have s4 : (mk4 h p l).objs.size = h.objs.size + 4 := by unfold mk4; rw [Heap.size_push, s3]
  have u45 : ∀ c o, (mk4 h p l).get? c = some o → (mk5 h p l).get? c = some o := fun c o e => Heap.get?_push_of_some _ e
  have u35 : ∀ c o, (mk3 h p l).get? c = some o → (mk5 h p l).get? c = some o := fun c o e => u45 c o (Heap.get?_push_of_some _ e)
  have u25 : ∀ c o, (mk2 h p l).get? c = some o → (mk5 h p l).get? c = some o := fun c o e => u35 c o (Heap.get?_push_of_some _ e)
  have u15 : ∀ c o, (mk1 h p).get? c = some o → (mk5 h p l).get? c = some o := fun c o e => u25 c o (Heap.get?_push_of_some _ e)
  refine ⟨⟨?_, ?_, ⟨Value.none, Value.none, ?_⟩, ?_, ?_⟩, s4, fun c o e => u15 c o (Heap.get?_push_of_some _ e)⟩
  · show (mk5 h p l).get? (h.objs.size + 4) = _
    rw [← s4, ← s2, ← s3]
    exact Heap.get?_push_size _ rfl
  · show (mk5 h p l).get? (h.objs.size + 2) = _
    rw [← s2, ← s1]
    exact u35 _ _ (Heap.get?_push_size _ rfl)
  · show (mk5 h p l).get? (h.objs.size + 3) = _
    rw [← s3]
    exact u45 _ _ (Heap.get?_push_size _ rfl)
  · exact ⟨_, u15 _ _ (Heap.get?_push_size _ rfl), rfl, rfl⟩
  · exact ⟨_, by rw [← s1]; exact u25 _ _ (Heap.get?_push_size _ rfl), rfl, rfl⟩
section
variable {prog : Program} {w : World} {A : Around} {E : Value → Shared → Prop} {s : Shared}
theorem calls {p l : Addr} {xs ys : Array Value} {Q : Value → Shared → Prop} (hp : s.heap.IsTuple p xs) (hl : s.heap.IsList l ys) (q : Q (.ref (s.heap.objs.size + 4)) { s with heap := mk5 s.heap p l }) :
    wpAny (model prog w) A (call (.type "zip") [.ref p, .ref l]) Q E s := by
  refine callType_new F.called_zip (by decide) (F.typeCall_zip_2 _ _) (F.newCall_zip_2 _ _) (fun obj => F.args_object_init_3 obj _ _) F.entry_zip_new (made p l xs ys) ⟨hp, hl, ?_⟩
  have hk := mk_all s.heap p l
  show _ ∧ _
  rw [hk.2.1]
  exact ⟨⟨_, hk.1.Z, rfl⟩, q⟩
end
/-- the tuple at a and the list at b, the items in new pairs -/
def ItM (K : PySem.W.Frag) (a b : Addr) : It :=
  ⟨fun i H => ∃ (xs ys : List V) (x y : V), SqT K H a xs ∧ SqL K H b ys ∧ xs[i]? = some x ∧ ys[i]? = some y,
    fun i H v H' => ∃ T x y, v = .ref T ∧ H T = none ∧ H' = upd H T (.tup [x, y]) ∧ (∀ xs, SqT K H a xs → xs[i]? = some x) ∧ ∀ ys, SqL K H b ys → ys[i]? = some y,
    fun i H => ∃ xs ys : List V, SqT K H a xs ∧ SqL K H b ys ∧ (xs.length ≤ i ∨ ys.length ≤ i)⟩
theorem turnM {P : Program} {w : World} {K : PySem.W.Frag} {elts : List Expr} {kk : Nat} {tpos : Pos} {a b z TI TO i1 i2 : Addr} (D : ZipApart z TI TO i1 i2 a b) :
    Turn P w K (.Tuple elts kk tpos) (ItM K a b) [z, TI, TO, i1, i2] z (fun i h => Zst h z TI TO i1 i2 a b i .none) where
  mem := List.mem_cons_self ..
  obj := fun i h S c hc => by
    obtain ⟨x, y, hO⟩ := S.O
    obtain ⟨o1, e1, _, d1⟩ := S.P
    obtain ⟨o2, e2, _, d2⟩ := S.L
    simp only [List.mem_cons, List.not_mem_nil, or_false] at hc
    rcases hc with rfl | rfl | rfl | rfl | rfl
    · exact ⟨_, S.Z, fun v q => nomatch q⟩
    · exact ⟨_, S.I, fun v q => nomatch q⟩
    · exact ⟨_, hO, fun v q => nomatch q⟩
    · exact ⟨o1, e1, fun v q => by rw [d1] at q; cases q⟩
    · exact ⟨o2, e2, fun v q => by rw [d2] at q; cases q⟩
  keep := fun i h h' S k => by
    obtain ⟨x, y, hO⟩ := S.O
    exact ⟨k z (by simp) _ S.Z, k TI (by simp) _ S.I, ⟨x, y, k TO (by simp) _ hO⟩, S.P.at fun o q => k i1 (by simp) o q, S.L.at fun o q => k i2 (by simp) o q⟩
  item := by
    intro X e1 e2 e3 hc i pins s σ H E I hf S hg
    subst e1 e2 e3
    obtain ⟨xs, ys, x, y, hqx, hqy, hx, hy⟩ := hg
    obtain ⟨its, rv, p, _⟩ := I.tuple hqx
    obtain ⟨its2, rv2, p2, _⟩ := I.list hqy
    obtain ⟨u, hu, ru⟩ := rv.get hx
    obtain ⟨u2, hu2, ru2⟩ := rv2.get hy
    have lz : z < s.heap.objs.size := Heap.lt_size S.Z
    have lt : ∀ c, c ∈ [z, TI, TO, i1, i2] → c < s.heap.objs.size := fun c hc => by
      obtain ⟨x, y, hO⟩ := S.O
      simp only [List.mem_cons, List.not_mem_nil, or_false] at hc
      rcases hc with rfl | rfl | rfl | rfl | rfl
      · exact lz
      · exact Heap.lt_size S.I
      · exact Heap.lt_size hO
      · obtain ⟨_, e, _⟩ := S.P; exact Heap.lt_size e
      · obtain ⟨_, e, _⟩ := S.L; exact Heap.lt_size e
    refine nxt D S p p2.isList (x := u) (y := u2) (by simpa using hu) (by simpa using hu2) fun h1 S1 hT _ hk => ⟨_, rfl, wpAny_letOwnedTupleGo_zip (s := { s with heap := h1 }) S1.Z fun h2 Z2 sb => ?_⟩
    have T2 : h2.get? s.heap.objs.size = some { cls := .type "tuple", data := .seq #[u, u2] } := (sb.2 _ (Nat.ne_of_gt lz)).trans hT
    have ok : ObjOk X.prog X.w (upd H s.heap.objs.size (.tup [x, y])) h2 s.heap.objs.size (.tup [x, y]) := ⟨(show 2 ≤ sizeLine by decide), [u, u2], .cons ru (.cons ru2 .nil), ⟨_, T2, rfl, _, rfl⟩⟩
    have I1 : Inv X pins σ (upd H s.heap.objs.size (.tup [x, y])) { s with heap := h2 } := I.turnedNew (t' := s.toks) (ch := [z, TI, TO, i1, i2]) (fun c o hb q => (sb.2 c (fun e => hb (by simp [e]))).trans (hk c o ⟨fun e => hb (by simp [e]), fun e => hb (by simp [e]), fun e => hb (by simp [e]), fun e => hb (by simp [e])⟩ q)) hf (Nat.le_refl _) ok
    obtain ⟨a0, b0, O1⟩ := S1.O
    refine ⟨.ref s.heap.objs.size, _, I1, rfl, ⟨_, x, y, rfl, I.hok.fresh (Nat.le_refl _), rfl, fun l hl => by rw [I.tuple_inj hl hqx]; exact hx, fun l hl => by rw [I.list_inj hl hqy]; exact hy⟩, ⟨Z2, (sb.2 _ D.TIz).trans S1.I, ⟨a0, b0, (sb.2 _ D.TOz).trans O1⟩, S1.P.at fun o q => (sb.2 _ D.i1z).trans q, S1.L.at fun o q => (sb.2 _ D.i2z).trans q⟩, fun c hc => ?_⟩
    rw [upd_ne (Nat.ne_of_lt (lt c hc))]
    exact (hf c hc).1
  done := by
    intro X e1 e2 e3 hc i pins s σ H E I hf S hg
    subst e1 e2 e3
    obtain ⟨xs, ys, hqx, hqy, hend⟩ := hg
    obtain ⟨its, rv, p, _⟩ := I.tuple hqx
    obtain ⟨its2, rv2, p2, _⟩ := I.list hqy
    have l1 := rv.length
    have l2 := rv2.length
    have he : its.toArray[i]? = none ∨ its2.toArray[i]? = none := hend.elim (fun q => .inl (by simp; omega)) (fun q => .inr (by simp; omega))
    exact nxtE (I.ok.hd hc) D S p p2.isList he fun h' hk => ⟨rfl, I.turnedL (t' := s.toks) (ch := [z, TI, TO, i1, i2]) (fun c o hb q => hk c o ⟨fun e => hb (by simp [e]), fun e => hb (by simp [e]), fun e => hb (by simp [e]), fun e => hb (by simp [e])⟩ q) hf⟩
  self := fun A i s Q E S h => wpAny_pyIter_zip S.Z h
def iZipM (K : PySem.W.Frag) (ta : TA) : TI := fun σ H R => ta σ H fun vs H1 => ∃ a b xs ys, vs = [.ref a, .ref b] ∧ SqT K H1 a xs ∧ SqL K H1 b ys ∧ R (ItM K a b) H1
theorem pi_zipM {X : Cx} {e e2 : Expr} {ta : TA} {p pos tpos : Pos} {elts : List Expr} {kk : Nat} (hg : Gl X "zip") (hm : X.mg "zip" = none) (ha : PA X [e, e2] ta)
    (hs : starEach [e, e2] X.env = (false, eval e X.env) :: starEach [e2] X.env := by rfl) (hpl : (backTo pos (starEach [e2] X.env)).any (·.1) = false := by rfl) :
    PI X (.Tuple elts kk tpos) (.Call (.Name "zip" p) [e, e2] [] pos) (iZipM X.K ta) := by
  refine ⟨fun pins s σ H R I h => Call_ (ld_blt I hg hm PyProof.Rows.boot_zip (PyProof.Rows.callWith_type1 (thn (ha.run pos pins s σ H _ I h) fun us s1 ⟨vs, H1, I1, r1, a, b, xs, ys, ex, hqx, hqy, q⟩ => ?_) hs hpl))⟩
  subst ex
  obtain ⟨ua, ub, rfl, ra, rb⟩ : ∃ ua ub, us = [ua, ub] ∧ RelV (.ref a) ua ∧ RelV (.ref b) ub := by
    cases r1 with
    | cons r rr =>
      cases rr with
      | cons r' rr => cases rr; exact ⟨_, _, rfl, r, r'⟩
  obtain rfl : ua = .ref a := ra
  obtain rfl : ub = .ref b := rb
  obtain ⟨its, rv, p1, _⟩ := I1.tuple hqx
  obtain ⟨its2, rv2, p2, _⟩ := I1.list hqy
  obtain ⟨S, _, hk⟩ := mk_all s1.heap a b
  refine calls p1 p2.isList (wpAny_pyIter_zip S.Z ?_)
  have I2 : Inv X pins σ H1 { s1 with heap := mk5 s1.heap a b } := I1.kept (t' := s1.toks) hk
  obtain ⟨o1, ho1, _⟩ := id p1
  refine ⟨s1.heap.objs.size + 4, [s1.heap.objs.size + 4, s1.heap.objs.size + 2, s1.heap.objs.size + 3, s1.heap.objs.size, s1.heap.objs.size + 1], _, _, H1, rfl, I2, turnM (PySem.W.ktu_apart s1.heap.objs.size a b (Heap.lt_size ho1) p2.lt), S, fun c hc => ?_, q⟩
  have hle : s1.heap.objs.size ≤ c := by
    simp only [List.mem_cons, List.not_mem_nil, or_false] at hc
    rcases hc with e | e | e | e | e <;> rw [e] <;> first | exact Nat.le_add_right _ _ | exact Nat.le_refl _
  exact I1.fpOk hle (I1.hok.fresh hle)
theorem walkM {K : PySem.W.Frag} {a b : Addr} {xs ys : List V} {n : Nat} (hn : n = min xs.length ys.length) : Walk (ItM K a b) n (fun H => SqT K H a xs ∧ SqL K H b ys) (YPair (fun i => xs[i]?) (fun i => ys[i]?)) := by
  subst hn
  refine ⟨fun i _ hi q => ?_, fun _ q => ⟨xs, ys, q.1, q.2, by omega⟩, fun i H v H' _ q ⟨T, x, z, h1, h2, h3, h4, h5⟩ => ⟨T, x, z, h1, h2, h3, h4 xs q.1, h5 ys q.2⟩⟩
  exact ⟨xs, ys, xs[i]'(by omega), ys[i]'(by omega), q.1, q.2, List.getElem?_eq_getElem _, List.getElem?_eq_getElem _⟩
end ZMix

namespace Wp
open PySem PySem.Spec PyProof.Rows L2 TyNe He

/-! ### tuples and tables of the module -/
/-- a tuple of the module -/
structure TupK (K : PySem.W.Frag) (a : Addr) (xs : List V) : Prop where
  ex : ∃ (o : Obj) (its : Array Value) (n : Nat), K.lookup a = some o ∧ o.cls = .type "tuple" ∧ o.data = .seq its n ∧ its.size ≤ sizeLine ∧ Vals xs its.toList
theorem TupK.sq {K : PySem.W.Frag} {a : Addr} {xs : List V} {H : Hp} (h : TupK K a xs) : SqT K H a xs := .inr h.ex
theorem TupK.mk' {K : PySem.W.Frag} {a : Addr} {xs : List V} {od : Option Addr} {its : Array Value} {n : Nat} {sl : Array (Option Value)} (h : K.lookup a = some ⟨.type "tuple", od, .seq its n, sl⟩) (hz : its.size ≤ 1000) (hv : Vals xs its.toList) : TupK K a xs :=
  ⟨_, its, n, h, rfl, rfl, Nat.le_trans hz (by decide), hv⟩
def tabG (kv : List (Str × V)) : Str → Option V := fun z => (kv.find? fun p => decide (p.1 = z)).map (·.2)
def rTab (A : Addr) (g : Str → Option V) : R2 := fun x y H Q => ∃ z v, x = .ref A ∧ y = .str z ∧ g z = some v ∧ Q v H
theorem ix_tab {X : Cx} {A : Addr} {g : Str → Option V} (M : MDict X.K X.w A g) : IxR X (rTab A g) := by
  intro e1 e2 pins s σ H x y v u Q I rx ry ⟨z, r, ex, ey, hg, q⟩ hs
  obtain ⟨es, n, D, hn⟩ := M.ex
  obtain ⟨t, h1, h2⟩ := hn z
  rw [hg] at h2
  cases t with
  | none => exact h2.elim
  | some t => exact ix_kdict e1 e2 pins s σ H x y v u Q I rx ry ⟨A, z, r, ex, ey, ⟨es, n, t, D.at_, D.lit, h1, h2⟩, q⟩ hs
/-- the entries of a table -/
def EntLit (P : Params) : List DictEntry → List (Str × V) → Prop
  | [], [] => True
  | e :: r, p :: s => (∃ t, e.key = .str p.1 t ∧ e.hash = PyData.keyHash P p.1 ∧ RelV p.2 e.val) ∧ EntLit P r s
  | _, _ => False
theorem EntLit.keys {P : Params} : ∀ {l : List DictEntry} {kv : List (Str × V)}, EntLit P l kv → PySem.W.KeysLit P l
  | [], [], _ => trivial
  | e :: r, p :: s, h => ⟨by obtain ⟨⟨t, h1, h2, _⟩, _⟩ := h; exact ⟨_, t, h1, h2⟩, EntLit.keys h.2⟩
  | [], _ :: _, h => h.elim
  | _ :: _, [], h => h.elim
theorem EntLit.find {P : Params} (z : Str) : ∀ {l : List DictEntry} {kv : List (Str × V)}, EntLit P l kv → RelO ((kv.find? fun p => decide (p.1 = z)).map (·.2)) ((l.find? (·.key.isStr z)).map (·.val)) ∧ l.any (·.refKey) = false
  | [], [], _ => ⟨trivial, rfl⟩
  | e :: r, p :: s, h => by
    obtain ⟨⟨t, h1, h2, h3⟩, h4⟩ := h
    obtain ⟨i1, i2⟩ := EntLit.find z h4
    have hr : e.refKey = false := by unfold DictEntry.refKey; rw [h1]
    refine ⟨?_, by rw [List.any_cons, hr, i2]; rfl⟩
    rw [List.find?_cons, List.find?_cons]
    have hs : e.key.isStr z = decide (p.1 = z) := by
      rw [h1]
      show (p.1 == z) = _
      by_cases q : p.1 = z
      · rw [q, decide_eq_true rfl]; exact beq_self_eq_true z
      · rw [decide_eq_false q]; exact beq_eq_false_iff_ne.mpr q
    rw [hs]
    cases decide (p.1 = z)
    · exact i1
    · exact h3
  | [], _ :: _, h => h.elim
  | _ :: _, [], h => h.elim
theorem mdictL {K : PySem.W.Frag} {w : World} {d : Addr} {es : Array DictEntry} {n : Nat} {kv : List (Str × V)} (hl : K.lookup d = some ⟨.type "dict", none, .dict es n, #[]⟩) (he : EntLit w.params es.toList kv) (low : (d == sysModules) = false) : MDict K w d (tabG kv) := by
  refine ⟨es, n, ⟨hl, he.keys, low⟩, fun z => ?_⟩
  obtain ⟨h1, h2⟩ := he.find z
  refine ⟨_, ?_, h1⟩
  unfold PySem.W.nsIn
  rw [hl]
  dsimp only
  cases es.toList.find? (·.key.isStr z) with
  | some e => rfl
  | none => rw [h2]; rfl
/-! ### texts -/
abbrev tJS (ts : List TE) : TE := fun σ H Q => tJs ts Str.empty σ H fun out H1 => Q (.str out) H1
abbrev qJoin (K : PySem.W.Frag) : V → List V → Hp → VK → Prop := fun x xs H Q => ∃ a p, ∃ ys : List Str, x = .str a ∧ xs = [.ref p] ∧ (SqL K H p (ys.map V.str) ∨ SqT K H p (ys.map V.str)) ∧ (ys.map (·.length)).sum + ys.length * a.length ≤ 16777216 ∧ Q (.str (Txt.join a ys)) H
abbrev qCount : V → List V → Hp → VK → Prop := fun x xs H Q => ∃ a b, x = .str a ∧ xs = [.str b] ∧ Q (.int (Txt.count a b)) H
abbrev qSplit : V → List V → Hp → VK → Prop := fun x xs H Q => ∃ a b, x = .str a ∧ xs = [.str b] ∧ (b.length == 0) = false ∧ a.length + 2 ≤ sizeLine ∧ rNewStrs (Txt.split a b) H Q
abbrev qStarts : V → List V → Hp → VK → Prop := fun x xs H Q => ∃ a b, x = .str a ∧ xs = [.str b] ∧ Q (.bl (Txt.startswith a b)) H
section
variable {K : PySem.W.Frag} {σ : L2.St} {H : Hp} {Q : VK} {te : TE} {ts : List TE}
theorem w_js (q : tJs ts Str.empty σ H fun out H1 => Q (.str out) H1) : tJS ts σ H Q := q
theorem w_jcons {acc : Str} {R : Str → Hp → Prop} (q : te σ H fun x H1 => ∃ y : Str, x = .str y ∧ (acc ++ y).length ≤ sizeLine ∧ tJs ts (acc ++ y) σ H1 R) : tJs (te :: ts) acc σ H R := q
theorem w_jnil {acc : Str} {R : Str → Hp → Prop} (q : R acc H) : tJs [] acc σ H R := q
theorem w_jy {acc y : Str} {R : Str → Hp → Prop} (h : (acc ++ y).length ≤ 100000) (q : tJs ts (acc ++ y) σ H R) : ∃ z : Str, V.str y = .str z ∧ (acc ++ z).length ≤ sizeLine ∧ tJs ts (acc ++ z) σ H R := ⟨y, rfl, sz h, q⟩
theorem w_fmt (q : te σ H fun x H1 => (∃ y : Str, x = .str y ∧ y.length ≤ sizeLine ∧ Q (.str y) H1) ∨ ∃ i : Int, x = .int i ∧ i.natAbs.log2 < 1920 ∧ Q (.str (toString i)) H1) : tFmt te σ H Q := q
theorem w_fmtS {y : Str} {A : Prop} {R : Str → Prop} (h : y.length ≤ 100000) (q : R y) : (∃ z : Str, V.str y = .str z ∧ z.length ≤ sizeLine ∧ R z) ∨ A := .inl ⟨y, rfl, sz h, q⟩
theorem log_small {i : Int} (h0 : 0 ≤ i) (h1 : i ≤ 100000000000000000000) : i.natAbs.log2 < 1920 := by
  have h2 : i.natAbs ≤ 100000000000000000000 := by omega
  have h3 : i.natAbs.log2 < 67 := by
    by_cases h : i.natAbs = 0
    · rw [h]; decide
    · exact (Nat.log2_lt h).mpr (Nat.lt_of_le_of_lt h2 (by decide))
  omega
theorem w_fmtI {i : Int} {A : Prop} {R : Int → Prop} (h0 : 0 ≤ i) (h1 : i ≤ 100000000000000000000) (q : R i) : A ∨ ∃ j : Int, V.int i = .int j ∧ j.natAbs.log2 < 1920 ∧ R j := .inr ⟨i, rfl, log_small h0 h1, q⟩
theorem int_len {i : Int} (h0 : 0 ≤ i) (h1 : i ≤ 100000000000000000000) : (Str.ofString (toString i)).length ≤ 70 := by
  have h2 : i.natAbs.log2 < 67 := by
    by_cases h : i.natAbs = 0
    · rw [h]; decide
    · exact (Nat.log2_lt h).mpr (Nat.lt_of_le_of_lt (show i.natAbs ≤ 100000000000000000000 by omega) (by decide))
  have e := int_text_length_le (k := 67) (by decide) h2
  rw [PySem.ofString_length]
  omega
theorem w_joinL {a : Str} {p : Addr} {ys : List Str} (h : SqL K H p (ys.map V.str)) (z : (ys.map (·.length)).sum + ys.length * a.length ≤ 100000) (q : Q (.str (Txt.join a ys)) H) : qJoin K (.str a) [.ref p] H Q := ⟨a, p, ys, rfl, rfl, .inl h, Nat.le_trans z (by decide), q⟩
theorem w_joinT {a : Str} {p : Addr} {ys : List Str} (h : SqT K H p (ys.map V.str)) (z : (ys.map (·.length)).sum + ys.length * a.length ≤ 100000) (q : Q (.str (Txt.join a ys)) H) : qJoin K (.str a) [.ref p] H Q := ⟨a, p, ys, rfl, rfl, .inr h, Nat.le_trans z (by decide), q⟩
theorem w_count {a b : Str} (q : Q (.int (Txt.count a b)) H) : qCount (.str a) [.str b] H Q := ⟨a, b, rfl, rfl, q⟩
theorem strKind_pos (a : Str) : 1 ≤ Builtin.Str.strKind a := by
  unfold Builtin.Str.strKind
  split
  · exact Nat.le_refl _
  · split <;> decide
theorem w_split {a b : Str} (h : (b.length == 0) = false) (z : a.length ≤ 100000) (q : ∀ p, H p = none → Q (.ref p) (upd H p (.lst ((Txt.split a b).map V.str)))) : qSplit (.str a) [.str b] H Q :=
  ⟨a, b, rfl, rfl, h, Nat.le_trans (Nat.add_le_add_right z 2) (by decide), q⟩
theorem w_tab {A : Addr} {g : Str → Option V} {z : Str} {v : V} (h : g z = some v) (q : Q v H) : rTab A g (.ref A) (.str z) H Q := ⟨z, v, rfl, rfl, h, q⟩
theorem w_catA {a b : Addr} {xs ys : List V} (h : SqT K H a xs) (h' : SqT K H b ys) (z : xs.length + ys.length ≤ 1000) (q : ∀ p H', Same H H' → SqT K H' p (xs ++ ys) → Q (.ref p) H') : rCatA K (.ref a) (.ref b) H Q := by
  refine ⟨a, b, xs, ys, rfl, rfl, h, h', Nat.le_trans z (by decide), fun e => ?_, fun _ e => ?_, fun _ _ p hp => ?_⟩
  · subst e
    exact q b H (Same.refl H) h'
  · subst e
    rw [List.append_nil] at q
    exact q a H (Same.refl H) h
  · exact q p _ (Same.upd (Same.refl H) hp) (SqT.of upd_same)
end
/-! ### new objects as heaps of their own; tests that are known -/
theorem Same.get {H H' : Hp} {a : Addr} {o : HO} (h : Same H H') (e : H a = some o) : H' a = some o := h _ _ e
section
variable {K : PySem.W.Frag} {σ : L2.St} {H : Hp} {Q : VK} {v : V} {tr : TA}
/-- a new object -/
def New (H : Hp) (o : HO) (R : Addr → Hp → Prop) : Prop := ∀ p, H p = none → R p (upd H p o)
theorem w_new {o : HO} {R : Addr → Hp → Prop} (q : ∀ p H2, H p = none → Same H H2 → H2 p = some o → R p H2) : New H o R := fun p hp => q p _ hp (Same.upd (Same.refl H) hp) upd_same
theorem newT {t : Addr} {o : HO} (ht : H t = none) : ∃ G, G = upd H t o ∧ Same H G ∧ G t = some o := ⟨_, rfl, Same.upd (Same.refl H) ht, upd_same⟩
theorem Same.sqT {H H' : Hp} {a : Addr} {xs : List V} (e : Same H H') (h : SqT K H a xs) : SqT K H' a xs := h.elim (fun r => .inl (r.elim (fun r => .inl (e _ _ r)) fun ⟨o, r⟩ => .inr ⟨o, e _ _ r⟩)) .inr
theorem w_zipM {ta : TA} {R : It → Hp → Prop} (q : ta σ H fun vs H1 => ∃ a b xs ys, vs = [.ref a, .ref b] ∧ SqT K H1 a xs ∧ SqL K H1 b ys ∧ R (ZMix.ItM K a b) H1) : ZMix.iZipM K ta σ H R := q
theorem w_tupV (q : tr σ H fun xs H1 => xs.length ≤ sizeLine ∧ New H1 (.tup xs) fun p H2 => Q (.ref p) H2) : tTup tr σ H Q := q
theorem w_lstV (q : tr σ H fun xs H1 => xs.length ≤ sizeLine ∧ New H1 (.lst xs) fun p H2 => Q (.ref p) H2) : tLst tr σ H Q := q
theorem w_appV {p : Addr} {xs : List V} (h : H p = some (.lst xs)) (z : xs.length ≤ 100000) (q : ∀ H2, Kp p H H2 → H2 p = some (.lst (xs ++ [v])) → Q .non H2) : rAppend (.ref p) [v] H Q :=
  ⟨p, xs, v, rfl, rfl, h, Nat.lt_of_le_of_lt z (by decide), q _ Kp.refl.updp upd_same⟩
theorem w_catV {l b : Addr} {xs zs : List V} (h : H l = some (.lst xs)) (h' : H b = some (.lst zs)) (z : xs.length + zs.length ≤ 1000000) (q : ∀ p H2, H p = none → Same H H2 → H2 p = some (.lst (xs ++ zs)) → Q (.ref p) H2) : rCat (.ref l) (.ref b) H Q :=
  ⟨l, b, xs, zs, rfl, rfl, h, h', Nat.le_trans z (by decide), fun p hp => q p _ hp (Same.upd (Same.refl H) hp) upd_same⟩
theorem w_listOfV {p : Addr} {ys : List V} (h : SqL K H p ys ∨ SqT K H p ys) (q : ∀ l H2, H l = none → Same H H2 → H2 l = some (.lst ys) → Q (.ref l) H2) : qListOf K [.ref p] H Q :=
  ⟨p, ys, rfl, h, fun l hl => q l _ hl (Same.upd (Same.refl H) hl) upd_same⟩
theorem w_slTV {a : Addr} {xs : List V} {lo hi : Option Int} (h : SqT K H a xs) (n : ¬ (HT.sIx xs.length 0 lo = 0 ∧ HT.sIx xs.length xs.length hi = xs.length)) (q : ∀ p H2, H p = none → Same H H2 → H2 p = some (.tup (cutV xs lo hi)) → Q (.ref p) H2) : rSlT K (.ref a) lo hi H Q :=
  ⟨a, xs, rfl, h, n, fun p hp => q p _ hp (Same.upd (Same.refl H) hp) upd_same⟩
theorem w_slLV {a : Addr} {xs : List V} {lo hi : Option Int} (h : SqL K H a xs) (q : ∀ p H2, H p = none → Same H H2 → H2 p = some (.lst (cutV xs lo hi)) → Q (.ref p) H2) : rSlL K (.ref a) lo hi H Q :=
  ⟨a, xs, rfl, h, fun p hp => q p _ hp (Same.upd (Same.refl H) hp) upd_same⟩
theorem w_splitV {a b : Str} (h : (b.length == 0) = false) (z : a.length ≤ 100000) (q : ∀ p H2, H p = none → Same H H2 → H2 p = some (.lst ((Txt.split a b).map V.str)) → Q (.ref p) H2) : qSplit (.str a) [.str b] H Q :=
  ⟨a, b, rfl, rfl, h, Nat.le_trans (Nat.add_le_add_right z 2) (by decide), fun p hp => q p _ hp (Same.upd (Same.refl H) hp) upd_same⟩
theorem w_inTb {p : Addr} {xs : List V} {b : Bool} (h : SqT K H p xs) (f : flatV v = true) (fs : xs.all flatV = true) (e : inV v xs = b) (q : Q (.bl b) H) : rIn K false v (.ref p) H Q := w_inT h f fs (by rw [e]; exact q)
theorem w_inLb {p : Addr} {xs : List V} {b : Bool} (h : SqL K H p xs) (f : flatV v = true) (fs : xs.all flatV = true) (e : inV v xs = b) (q : Q (.bl b) H) : rIn K false v (.ref p) H Q := w_inL h f fs (by rw [e]; exact q)
theorem w_dec1 {c A B : Prop} [Decidable c] (h : c) (q : A) : if decide c = true then A else B := by rw [if_pos (decide_eq_true h)]; exact q
theorem w_dec0 {c A B : Prop} [Decidable c] (h : ¬ c) (q : B) : if decide c = true then A else B := by rw [if_neg (by rw [decide_eq_true_iff]; exact h)]; exact q
end
/-! ### join -/
theorem join_nil (a : Str) : Txt.join a [] = Str.empty := by rfl
theorem join_eq (a : Str) (ys : List Str) : Txt.join a ys = Str.join a ys := StrLaws.glued_eq_join a ys
theorem join_len (a : Str) (ys : List Str) : (Txt.join a ys).length ≤ (ys.map (·.length)).sum + ys.length * a.length := by
  rw [join_eq]
  exact StrLaws.join_length_le a ys
theorem sum_le {α : Type} (f : α → Nat) (m : Nat) : ∀ {l : List α}, (∀ x ∈ l, f x ≤ m) → (l.map f).sum ≤ l.length * m
  | [], _ => Nat.zero_le _
  | x :: l, h => by
    rw [List.map_cons, List.sum_cons, List.length_cons, Nat.succ_mul]
    have := sum_le f m (l := l) fun y hy => h y (List.mem_cons_of_mem _ hy)
    have := h x (List.mem_cons_self ..)
    omega
/-! ### lines of a text -/
theorem split_len {a b : Str} (hb : b.length = 1) (hk : ¬ (Builtin.Str.strKind a < Builtin.Str.strKind b)) : ((Txt.split a b).length : Int) = Txt.count a b + 1 := by
  unfold Txt.split Txt.count
  by_cases h : a.length < b.length
  · have h0 : a.length = 0 := by omega
    rw [if_pos (by rw [decide_eq_true h]; rfl)]
    have e : a = ⟨#[]⟩ := by
      obtain ⟨c⟩ := a
      have : c.size = 0 := h0
      rw [Array.size_eq_zero_iff] at this
      rw [this]
    subst e
    have : Builtin.Str.occurrences ⟨#[]⟩ b 0 (⟨#[]⟩ : Str).length ((⟨#[]⟩ : Str).length + 1) = [] := by
      unfold Builtin.Str.occurrences
      show (Id.run do _) = _
      simp [Str.length, hb]
      have h1 : b.cps.size = 1 := hb
      have h2 : b.cps ≠ #[] := fun e => by rw [e] at h1; exact nomatch h1
      simp [h2]
    rw [this]
    rfl
  · rw [if_neg (by rw [decide_eq_false h, decide_eq_false hk]; decide)]
    by_cases h2 : (Builtin.Str.occurrences a b 0 a.length (a.length + 1)).isEmpty = true
    · rw [if_pos h2, List.isEmpty_iff.mp h2]
      rfl
    · rw [if_neg h2]
      unfold Builtin.Str.partsBetween
      simp only [List.length_map, List.length_zip, List.length_cons, List.length_append, List.length_map, List.length_nil]
      omega
theorem split_lines (a : Str) : ((Txt.split a (Str.ofString "\n")).length : Int) = Txt.count a (Str.ofString "\n") + 1 := split_len rfl fun h => by
  have h1 := strKind_pos a
  have h2 : Builtin.Str.strKind (Str.ofString "\n") = 1 := by decide +kernel
  omega
theorem count_le (a : Str) : 0 ≤ Txt.count a (Str.ofString "\n") ∧ Txt.count a (Str.ofString "\n") ≤ a.length + 1 := by
  have h1 := split_lines a
  have h2 := PyProof.Rows.split_le a (Str.ofString "\n")
  refine ⟨by unfold Txt.count; exact Int.natCast_nonneg _, by omega⟩
end Wp

namespace Wp
open PySem PySem.Spec PyProof.Rows L2 TyNe HT
section
variable {prog : Program} {w : World} {A : Around} {E : Value → Shared → Prop} {s : Shared}
/-- t[lo:hi] that is all of t is t -/
theorem slice_whole {t k : Addr} {its : Array Value} {vl vu : Value} {lo hi : Option Int} {Q : Value → Shared → Prop} (ht : IsTup s.heap t its) (hs : s.heap.IsSliceOf k vl vu .none) (pl : IsPart vl lo) (pu : IsPart vu hi)
    (hw : HT.sIx its.size 0 lo = 0 ∧ HT.sIx its.size its.size hi = its.size) (q : Q (.ref t) s) : wpAny (model prog w) A (getItem (.ref t) (.ref k)) Q E s := by
  obtain ⟨os, hos, hcs, hds⟩ := id hs
  obtain ⟨ot, hot, hct, n, hdt⟩ := id ht
  have tk : s.TypeIs (.ref k) "slice" := ⟨os, hos, hcs⟩
  unfold getItem
  try with_reducible refine wpAny_holding ?_
  first | refine wpAny_bind (wpAny_pure ?_) | skip
  refine wpAny_bind (wpAny_sequenceKey ht.typeIs (by decide) (wpAny_bind (wpAny_callSpecial?_slot (name := Str.ofString "__getitem__") ht.typeIs slot_tuple_getitem (wpAny_call_entry slot_tuple_getitem ht.typeIs PyProof.Rows.entry_tuple_getitem ?_ (PyProof.Rows.args_tuple_getitem _ _)))))
  show wpAny _ _ (Builtin.Tuple.tupleItemsOf (.ref t) >>= _) _ _ s
  refine wpAny_bind (tupleItemsOf_ ht (wpAny_bind (wpAny_typeOf tk ?_)))
  rw [if_pos (by decide)]
  refine wpAny_bind (sliceApplied_gen hs pl pu ?_)
  have yes : (((HT.sIx its.size 0 lo : Nat) : Int) == 0 && (1 : Int) == 1 && (HT.sIx its.size its.size hi - HT.sIx its.size 0 lo) == its.size) = true := by
    rw [hw.1, hw.2, Nat.sub_zero]
    simp
  show wpAny _ _ (if (((HT.sIx its.size 0 lo : Nat) : Int) == 0 && (1 : Int) == 1 && (HT.sIx its.size its.size hi - HT.sIx its.size 0 lo) == its.size) = true then _ else _) _ _ s
  rw [if_pos yes]
  refine wpAny_bind (m := Builtin.Tuple.tupleIsExact _) ?_
  unfold Builtin.Tuple.tupleIsExact
  refine wpAny_bind (wpAny_typeOf ht.typeIs (wpAny_pure ?_))
  rw [if_pos (by decide)]
  first
    | exact wpAny_bind (wpAny_rule (wpAny_bind (wpAny_pure (wpAny_pure ⟨_, rfl, wpAny_pure q⟩))))
    | exact wpAny_bind (wpAny_rule (wpAny_pure ⟨_, rfl, wpAny_pure q⟩))
    | exact wpAny_bind (wpAny_rule (wpAny_bind (wpAny_pure (wpAny_bind (wpAny_pure ⟨_, rfl, wpAny_pure q⟩)))))
    | exact wpAny_bind (wpAny_rule (wpAny_bind (wpAny_pure ⟨_, rfl, wpAny_pure q⟩)))
    | trace_state
end
/-! ### a slice of a list or of a tuple, all of it or not -/
def rSlA (K : PySem.W.Frag) : V → Option Int → Option Int → Hp → VK → Prop := fun x lo hi H Q => ∃ a xs, x = .ref a ∧ ((SqL K H a xs ∧ ∀ p, H p = none → Q (.ref p) (upd H p (.lst (cutV xs lo hi)))) ∨
  (SqT K H a xs ∧ ((HT.sIx xs.length 0 lo = 0 ∧ HT.sIx xs.length xs.length hi = xs.length) → Q (.ref a) H) ∧ (¬ (HT.sIx xs.length 0 lo = 0 ∧ HT.sIx xs.length xs.length hi = xs.length) → ∀ p, H p = none → Q (.ref p) (upd H p (.tup (cutV xs lo hi))))))
theorem sl_any {X : Cx} : SlR X (rSlA X.K) := by
  intro pins s σ H x v vl vu lo hi sl Q I rx hs pl pu ⟨a, xs, ex, h⟩
  rcases h with ⟨hl, q⟩ | ⟨ht, q1, q2⟩
  · exact sl_list pins s σ H x v vl vu lo hi sl Q I rx hs pl pu ⟨a, xs, ex, hl, q⟩
  · by_cases w : HT.sIx xs.length 0 lo = 0 ∧ HT.sIx xs.length xs.length hi = xs.length
    · subst ex
      obtain rfl : v = Value.ref a := rx
      obtain ⟨its, r, p, hz⟩ := I.tuple ht
      have hlen : its.toArray.size = xs.length := by rw [List.size_toArray]; exact r.length.symm
      exact ⟨"tuple", _, PyProof.Rows.slot_tuple_getitem.lookup, p.typeIs, slice_whole p hs pl pu (by rw [hlen]; exact w) ⟨.ref a, H, I, rfl, q1 w⟩⟩
    · exact sl_tup pins s σ H x v vl vu lo hi sl Q I rx hs pl pu ⟨a, xs, ex, ht, w, q2 w⟩
end Wp

namespace Wp
open PySem PySem.Spec PyProof.Rows L2 TyNe HT
/-- room for a test with items that are data -/
theorem hu65 {j : Nat} {A : Around} (hr : Room j A) : A.units + 65 < cLine := by
  have := hr.un
  omega
/-- x in t, x not in t, where t is a tuple of data -/
def rInTD (K : PySem.W.Frag) (neg : Bool) : R2 := fun x y H Q => ∃ d ds, Dp K H x d ∧ Dp K H y (.tuple ds) ∧ SeqAt.shaped d = true ∧ SeqAt.shaped (.tuple ds) = true ∧ Q (.bl (if neg = true then !(ds.any fun z => PyData.eqv z d) else ds.any fun z => PyData.eqv z d)) H
section
variable {X : Cx}
theorem op_inTD (hu : X.A.units + 65 < cLine) : OpR X (compareOp .In) (rInTD X.K false) := by
  intro pins s σ H x y v u Q I rx ry ⟨d, ds, hd, he, sd, se, q⟩
  obtain ⟨_, r1⟩ := Dp.reads I d x v hd rx
  obtain ⟨_, r2⟩ := Dp.reads I (.tuple ds) y u he ry
  exact SeqAt.in_tuple_reads r2 r1 (SeqAt.canLay_of_shaped se) (SeqAt.canLay_of_shaped sd) (room_in_shaped sd hu) ⟨.bl _, H, I, rfl, q⟩
theorem op_notInTD (hu : X.A.units + 65 < cLine) : OpR X (compareOp .NotIn) (rInTD X.K true) := by
  intro pins s σ H x y v u Q I rx ry ⟨d, ds, hd, he, sd, se, q⟩
  obtain ⟨_, r1⟩ := Dp.reads I d x v hd rx
  obtain ⟨_, r2⟩ := Dp.reads I (.tuple ds) y u he ry
  exact SeqAt.notIn_tuple_reads r2 r1 (SeqAt.canLay_of_shaped se) (SeqAt.canLay_of_shaped sd) (room_in_shaped sd hu) ⟨.bl _, H, I, rfl, q⟩
end
end Wp

namespace Wp
open PySem PySem.Spec PyProof.Rows L2 TyNe HT
/-- x <= y, x >= y of data that are alike -/
def rLeD (K : PySem.W.Frag) : R2 := fun x y H Q => ∃ d e, Dp K H x d ∧ Dp K H y e ∧ PySem.W.alike d e = true ∧ d ≠ .none ∧ d.depth ≤ 64 ∧ Q (.bl (!PySem.W.dataLt e d)) H
def rGeD (K : PySem.W.Frag) : R2 := fun x y H Q => ∃ d e, Dp K H x d ∧ Dp K H y e ∧ PySem.W.alike d e = true ∧ d ≠ .none ∧ d.depth ≤ 64 ∧ Q (.bl (!PySem.W.dataLt d e)) H
/-- x in l, x not in l, where l is a list of data -/
def rInLD (K : PySem.W.Frag) (neg : Bool) : R2 := fun x y H Q => ∃ d ds, Dp K H x d ∧ Dp K H y (.list ds) ∧ SeqAt.shaped d = true ∧ SeqAt.shaped (.list ds) = true ∧ Q (.bl (if neg = true then !(ds.any fun z => PyData.eqv z d) else ds.any fun z => PyData.eqv z d)) H
section
variable {X : Cx}
theorem op_leD (hu : X.A.units + 65 < cLine) : OpR X (compareOp .LtE) (rLeD X.K) := by
  intro pins s σ H x y v u Q I rx ry ⟨d, e, hd, he, al, nn, dp, q⟩
  obtain ⟨_, r1⟩ := Dp.reads I d x v hd rx
  obtain ⟨_, r2⟩ := Dp.reads I e y u he ry
  exact PySem.W.le_data r1 r2 al nn (by have := Nat.min_le_left d.depth e.depth; omega) ⟨.bl _, H, I, rfl, q⟩
theorem op_geD (hu : X.A.units + 65 < cLine) : OpR X (compareOp .GtE) (rGeD X.K) := by
  intro pins s σ H x y v u Q I rx ry ⟨d, e, hd, he, al, nn, dp, q⟩
  obtain ⟨_, r1⟩ := Dp.reads I d x v hd rx
  obtain ⟨_, r2⟩ := Dp.reads I e y u he ry
  exact PySem.W.ge_data r1 r2 al nn (by have := Nat.min_le_left d.depth e.depth; omega) ⟨.bl _, H, I, rfl, q⟩
theorem op_inLD (hu : X.A.units + 65 < cLine) : OpR X (compareOp .In) (rInLD X.K false) := by
  intro pins s σ H x y v u Q I rx ry ⟨d, ds, hd, he, sd, se, q⟩
  obtain ⟨_, r1⟩ := Dp.reads I d x v hd rx
  obtain ⟨_, r2⟩ := Dp.reads I (.list ds) y u he ry
  exact SeqAt.in_list_reads r2 r1 (SeqAt.canLay_of_shaped se) (SeqAt.canLay_of_shaped sd) (room_in_shaped sd hu) ⟨.bl _, H, I, rfl, q⟩
theorem op_notInLD (hu : X.A.units + 65 < cLine) : OpR X (compareOp .NotIn) (rInLD X.K true) := by
  intro pins s σ H x y v u Q I rx ry ⟨d, ds, hd, he, sd, se, q⟩
  obtain ⟨_, r1⟩ := Dp.reads I d x v hd rx
  obtain ⟨_, r2⟩ := Dp.reads I (.list ds) y u he ry
  exact SeqAt.notIn_list_reads r2 r1 (SeqAt.canLay_of_shaped se) (SeqAt.canLay_of_shaped sd) (room_in_shaped sd hu) ⟨.bl _, H, I, rfl, q⟩
end
/-- l.insert(i, y) -/
abbrev qInsert : V → List V → Hp → VK → Prop := fun x vs H Q => ∃ (l : Addr) (xs : List V) (i : Int) (y : V), x = .ref l ∧ vs = [.int i, y] ∧ H l = some (.lst xs) ∧ xs.length < sizeLine ∧ 0 ≤ i ∧ i < 2 ^ 63 ∧ Q .non (upd H l (.lst (xs.take i.toNat ++ [y] ++ xs.drop i.toNat)))
/-! ### an own class made without arguments -/
theorem pe_mk0 {X : Cx} {k j : Nat} {C : Addr} {x : Str} {sp : Sp} {dvs : List V} {p pos : Pos} (c : C8.Mak X.prog X.w X.K X.mg X.base k x C sp dvs) (hr : Room j X.A) (hk : k + 1 ≤ j) (hg : Gl X x)
    (hdb : (x == ("__debug__" : Str)) = false := by decide) : PE X (.Call (.Name x p) [] [] pos) (tMake C sp dvs C8.E0 tNil) := by
  obtain ⟨f, fd, ps, ds, M, F, hm, b, d⟩ := c.ex
  exact pe_make0 M F (hr.mono hk) hg hm b d C8.pass0 hdb
/-! ### (number, text) < (number, text) -/
theorem alike_key (s t : Int) (a b : Str) : PySem.W.alike (.tuple [.int s, .str a]) (.tuple [.int t, .str b]) = true := by rfl
theorem lt_key {s t : Int} (a b : Str) (h : s < t) : PySem.W.dataLt (.tuple [.int s, .str a]) (.tuple [.int t, .str b]) = true := by
  rw [PySem.W.dataLt_tuple, PySem.W.dataLt_all_no (by rfl) (by show (s == t) = false; rw [beq_eq_false_iff_ne]; omega), PySem.W.dataLt_int]
  exact decide_eq_true h
end Wp

namespace Wp
open PySem PySem.Spec PyProof.Rows L2 TyNe

/-! ### defs that may raise -/
section
variable {P : Program} {w : World} {K : PySem.W.Frag} {mg : Str → Option Value} {base : Heap}
theorem fnX {x qual : Str} {st : Stmt} {f : Addr} {fd : FuncData} {N ps : List Str} {k : Nat} {sp : Sp} (F : C8.Fun K x qual st f fd) (S : FnScope N ps (C8.fnScope st)) (len : ∀ vs H Q E, sp vs H Q E → vs.length = ps.length)
    (hbody : ∀ (cdv : Value) (A : Around) (outer : List Env) (s : Shared) (H : Hp) (vs : List V) (Q : VK) (E : XK), Room k (A.deeper (envOfC qual (C8.fnScope st) s.heap.objs.size f cdv)) → sp vs H Q E →
      ∃ t, PSs (cxOf (L2.CX P w) P w K mg base N qual (C8.fnScope st) f cdv A outer s H E) (C8.fnBody st) t ∧ t { nx := fun _ H' => Q .non H', rt := Q } (start N vs) H) : FnOk P w K mg base (L2.CX P w) (k + 1) f fd ps sp := by
  obtain ⟨oc, od, dV, kV, doc, pm, an, cdv, ct, osl, rfl, lk, hcd⟩ := F.ex
  refine fn_of lk hcd S len fun A outer s H vs Q E hr hsp => ?_
  obtain ⟨t, h, q⟩ := hbody cdv A outer s H vs Q E hr hsp
  exact ⟨t, h, q⟩
/-- a def that may raise, under its name -/
structure XCal (P : Program) (w : World) (K : PySem.W.Frag) (mg : Str → Option Value) (base : Heap) (k : Nat) (x : Str) (sp : Sp) : Prop where
  ex : ∃ (f : Addr) (fd : FuncData) (ps : List Str), FnOk P w K mg base (L2.CX P w) k f fd ps sp ∧ mg x = some (.ref f) ∧ PySem.W.keepIn K (.ref f) = true ∧ Binds K fd ps []
theorem calX {x : Str} {st : Stmt} {f : Addr} {fd : FuncData} {N ps : List Str} {k : Nat} {sp : Sp} (F : C8.Def K mg x st f fd) (b : Binds K fd ps []) (S : FnScope N ps (C8.fnScope st)) (len : ∀ vs H Q E, sp vs H Q E → vs.length = ps.length)
    (hbody : ∀ (cdv : Value) (A : Around) (outer : List Env) (s : Shared) (H : Hp) (vs : List V) (Q : VK) (E : XK), Room k (A.deeper (envOfC x (C8.fnScope st) s.heap.objs.size f cdv)) → sp vs H Q E →
      ∃ t, PSs (cxOf (L2.CX P w) P w K mg base N x (C8.fnScope st) f cdv A outer s H E) (C8.fnBody st) t ∧ t { nx := fun _ H' => Q .non H', rt := Q } (start N vs) H) : XCal P w K mg base (k + 1) x sp :=
  ⟨f, fd, ps, fnX F.fn S len hbody, F.mgf, F.kp, b⟩
end
section
variable {X : Cx} {k j : Nat} {x : Str} {sp : Sp} {p pos : Pos} {e : Expr} {es : List Expr} {t : TA}
theorem passX0 : Passes (L2.CX X.prog X.w) X C8.E0 := fun _ _ _ _ _ _ _ ⟨_, _, _, _, _, _, _, _, _, _, _, _, h⟩ => h.elim
/-- called where it does not raise -/
theorem pe_cx (c : XCal X.prog X.w X.K X.mg X.base k x sp) (hr : Room j X.A) (hk : k ≤ j) (hg : Gl X x) (ha : PA X (e :: es) t)
    (hdb : (x == ("__debug__" : Str)) = false := by decide) (he : starEach (e :: es) X.env = (false, eval e X.env) :: starEach es X.env := by rfl) (hpl : (backTo pos (starEach es X.env)).any (·.1) = false := by rfl) :
    PE X (.Call (.Name x p) (e :: es) [] pos) (tCall sp [] C8.E0 t) := by
  obtain ⟨f, fd, ps, F, hm, kp, b⟩ := c.ex
  exact pe_call F (hr.mono hk) hg hm kp b .nil passX0 ha hdb he hpl
/-- called where it may raise -/
theorem pe_cs {W : WX} (c : XCal X.prog X.w X.K X.mg X.base k x sp) (hr : Room j X.A) (hk : k ≤ j) (hg : Gl X x) (tk : Takes X W) (ha : PA X (e :: es) t)
    (hdb : (x == ("__debug__" : Str)) = false := by decide) (he : starEach (e :: es) X.env = (false, eval e X.env) :: starEach es X.env := by rfl) (hpl : (backTo pos (starEach es X.env)).any (·.1) = false := by rfl) :
    PE X (.Call (.Name x p) (e :: es) [] pos) (tCallS sp (WE W) t) := by
  obtain ⟨f, fd, ps, F, hm, kp, b⟩ := c.ex
  exact pe_callS F (hr.mono hk) hg hm kp b (fun σ => passAt tk σ) ha hdb he hpl
theorem takes0 : Takes X (fun _ _ _ _ => False) := fun _ _ ⟨_, _, _, _, _, _, _, _, _, _, _, _, _, _, _, _, w⟩ => w.elim
/-- what is known only where the reading says so -/
theorem pss_given {A : Prop} {st : List Stmt} {t : TS} (h : A → PSs X st t) : PSs X st (fun D σ H => A ∧ t D σ H) := ⟨fun pins s σ H D I q => (h q.1).run pins s σ H D I q.2⟩
end
/-- if xs: -/
abbrev tTru (K : PySem.W.Frag) (ta : TE) : TT := fun σ H Q => ta σ H fun x H' => ∃ k, TruV K x H' k ∧ Q k H'
/-- raise C('..') -/
def tRaise (C : Addr) (E : XK) : TS := fun _ _ H => E (.ref C) none H
/-- an own exception class without __init__, as the module has it -/
structure ExB (K : PySem.W.Frag) (C : Addr) : Prop where
  ex : PySem.W.excIn K C [.type "ValueError", .type "Exception", .type "BaseException", .type "object"] "ValueError.__new__" = true
  kp : PySem.W.keepIn K (.ref C) = true
  sb : PySem.W.subIn K (.ref C) (.type "BaseException") = some true
  ty : PySem.W.typeIn K (.ref C) = some (.type "type")
theorem ps_rz {X : Cx} {C : Addr} {W : WX} {x m : Str} {jj : Nat} {p p2 pos pos2 : Pos} (hc : X.calm = true) (B : ExB X.K C) (gC : X.mg x = some (.ref C)) (tk : Takes X W) (hg : Gl X x) (hdb : (x == ("__debug__" : Str)) = false := by decide) :
    PS X (.Raise (some (.Call (.Name x p) [.Constant (.str m) jj p2] [] pos)) none pos2) (fun _ σ H => W (.ref C) none σ H) := ps_raise hc tk (pmk_own PySem.F.excBase_ValueError B.ex gC B.kp (raises_own B.sb B.ty) hg hdb)
/-- try: .. except C as n: .. -/
def tTryAs (K : PySem.W.Frag) (C : Addr) (i : Nat) (ts : Addr → Value → Option Addr → TS) (tb : WX → TS) : TS := fun D σ H => tb (wAs K (.ref C) i ts (fun _ _ _ _ => False) D) D σ H
end Wp

/-! Wp12: None among the keys of a dict whose keys are tuples. -/
namespace Wp
open PySem PySem.Spec PyProof.Rows L2

section
variable {prog : Program} {w : World} {A : Around} {E : Value → Shared → Prop} {s : Shared}

theorem tellNone {K : Type} [DecidableEq K] {knd : HeapKind prog w K} {stored : List Value} {Q : Bool → Shared → Prop}
    (hst : ∀ v ∈ stored, ∃ k' b, v = .ref b ∧ knd.is s.heap k' b) (h : Q false s) : wpAny (model prog w) A (tableMayTell .none stored) Q E s := by
  unfold tableMayTell
  split
  · exact wpAny_pure h
  · refine wpAny_bind ?_
    show wpAny _ _ (pure true) _ _ _
    refine wpAny_pure ?_
    simp only [Bool.not_true, Bool.false_eq_true, if_false]
    refine wpAny_bind ?_
    refine wpAny_forIn_list _ (fun rest r s' => s' = s ∧ r = (none, ()) ∧ ∀ v ∈ rest, ∃ k' b, v = .ref b ∧ knd.is s.heap k' b) _ ?_ ?_ _ _ ⟨rfl, rfl, hst⟩
    · rintro x rest r s' ⟨rfl, rfl, hr⟩
      obtain ⟨k', b, rfl, hb⟩ := hr x List.mem_cons_self
      refine wpAny_bind (knd.quiet hb ?_)
      simp only [Bool.not_true, Bool.false_eq_true, if_false]
      exact wpAny_pure ⟨rfl, rfl, fun v hv => hr v (List.mem_cons_of_mem _ hv)⟩
    · rintro r s' ⟨rfl, rfl, _⟩
      exact wpAny_pure h

theorem findNone {K : Type} [DecidableEq K] {knd : HeapKind prog w K} {d : Addr} {o : Obj} {es ep} {hsh : Int} {xs : List (K × Addr × Value)} {Q : Option Nat → Shared → Prop}
    (hne : ∀ (E' : Value → Shared → Prop) (k : K) (b : Addr) (Q' : Bool → Shared → Prop), knd.is s.heap k b → Q' false s → wpAny (model prog w) A (eqBool (.ref b) .none) Q' E' s)
    (ho : s.heap.get? d = some o) (hd : o.data = .dict es ep) (he : es.toList = xs.map (entryOfKey knd)) (his : ∀ x ∈ xs, knd.is s.heap x.1 x.2.1)
    (hQ : Q none s) : wpAny (model prog w) A (dictFind d .none hsh) Q E s := by
  have hsz : es.size = xs.length := size_of_entries he
  have hmem : ∀ e ∈ es, ∃ x ∈ xs, e = entryOfKey knd x := by
    intro e hin
    have : e ∈ xs.map (entryOfKey knd) := he ▸ Array.mem_toList_iff.mpr hin
    obtain ⟨x, hx, rfl⟩ := List.mem_map.mp this
    exact ⟨x, hx, rfl⟩
  have hst : ∀ v ∈ (placesWithHash es.size (fun i => es[i]?.map (·.hash)) hsh).filterMap (fun i => es[i]?.map (·.key)), ∃ k' b, v = .ref b ∧ knd.is s.heap k' b := by
    intro v hv
    obtain ⟨i, _, hi⟩ := List.mem_filterMap.mp hv
    cases hei : es[i]? with
    | none => rw [hei] at hi; cases hi
    | some e =>
      rw [hei] at hi
      obtain rfl : e.key = v := by simpa using hi
      obtain ⟨x, hx, rfl⟩ := hmem e (Array.mem_of_getElem? hei)
      exact ⟨x.1, x.2.1, rfl, his x hx⟩
  have hpl : ∀ i ∈ placesWithHash es.size (fun i => es[i]?.map (·.hash)) hsh, ∃ e, es[i]? = some e ∧ e.hash = hsh ∧ ∃ x ∈ xs, e = entryOfKey knd x := by
    intro i hi
    have q : (es[i]?.map (·.hash) == some hsh) = true := (List.mem_filter.mp hi).2
    cases hei : es[i]? with
    | none => rw [hei] at q; exact absurd q (by simp)
    | some e =>
      rw [hei] at q
      exact ⟨e, rfl, by simpa using q, hmem e (Array.mem_of_getElem? hei)⟩
  unfold dictFind
  try with_reducible refine wpAny_holding ?_
  refine wpAny_bind (wpAny_dictEntries ho hd ?_)
  dsimp only
  by_cases hall : ((Value.none :: (placesWithHash es.size (fun i => es[i]?.map (·.hash)) hsh).filterMap (fun i => es[i]?.map (·.key))).all carriedByValue) = true
  · rw [if_pos hall]
    have hnil : placesWithHash es.size (fun i => es[i]?.map (·.hash)) hsh = [] := by
      cases hp : placesWithHash es.size (fun i => es[i]?.map (·.hash)) hsh with
      | nil => rfl
      | cons i t =>
        obtain ⟨e, h1, _, x, _, h2⟩ := hpl i (by rw [hp]; exact List.mem_cons_self)
        rw [hp] at hall
        subst h2
        simp only [List.filterMap_cons, h1, Option.map_some, List.all_cons, entryOfKey, carriedByValue, Bool.false_and, Bool.and_false] at hall
        exact absurd hall (by decide)
    rw [hnil]
    unfold dictWalkPlain
    refine wpAny_bind ?_
    refine wpAny_forIn_list _ (fun rest r s' => s' = s ∧ r = (none, ()) ∧ rest = []) _ ?_ ?_ _ _ ⟨rfl, rfl, rfl⟩
    · rintro x rest r s' ⟨_, _, h⟩
      exact nomatch h
    · rintro r s' ⟨rfl, rfl, _⟩
      exact wpAny_pure hQ
  · rw [if_neg hall]
    have hone : (((placesWithHash es.size (fun i => es[i]?.map (·.hash)) hsh).filterMap (fun i => es[i]?.map (·.key))) == [Value.none]) = false := by
      cases hp : (placesWithHash es.size (fun i => es[i]?.map (·.hash)) hsh).filterMap (fun i => es[i]?.map (·.key)) with
      | nil => rfl
      | cons v t =>
        obtain ⟨_, b, rfl, _⟩ := hst v (by rw [hp]; exact List.mem_cons_self)
        cases hb : (Value.ref b :: t == [Value.none]) with
        | false => rfl
        | true => exact absurd (eq_of_beq hb) (by simp)
    rw [hone]
    refine wpAny_bind (tellNone hst ?_)
    rw [if_neg (by simp)]
    refine wpAny_bind ?_
    refine wpAny_forIn_list _ (fun rest b s' => s' = s ∧ b = (none, none) ∧ ∀ i ∈ rest, i ∈ placesWithHash es.size (fun i => es[i]?.map (·.hash)) hsh) _ ?_ ?_ _ _ ⟨rfl, rfl, fun _ h => h⟩
    · rintro x rest b s' ⟨rfl, rfl, hr⟩
      obtain ⟨e, h1, h2, ⟨k', b', v'⟩, hx, rfl⟩ := hpl x (hr x List.mem_cons_self)
      rw [h1]
      dsimp only
      rw [if_pos (by rw [h2]; simp)]
      refine wpAny_bind (wpAny_dictEpoch ho hd (wpAny_bind (hne _ k' b' _ (his _ hx) (wpAny_bind (wpAny_dictEpoch ho hd ?_)))))
      show wpAny _ _ (if (ep != ep) = true then _ else _) _ E _
      rw [if_neg (by simp)]
      simp only [Bool.false_eq_true, if_false]
      refine wpAny_bind (wpAny_rule ?_)
      first | rw [if_neg (by simp)] | skip
      first
        | exact wpAny_pure ⟨rfl, rfl, fun i h => hr i (List.mem_cons_of_mem _ h)⟩
        | exact wpAny_bind (wpAny_pure (wpAny_pure ⟨rfl, rfl, fun i h => hr i (List.mem_cons_of_mem _ h)⟩))
    · rintro r s' ⟨rfl, rfl, _⟩
      exact wpAny_pure hQ

theorem getNone {K : Type} [DecidableEq K] {knd : HeapKind prog w K} {d : Addr} {xs : List (K × Addr × Value)} {Q : Option Value → Shared → Prop}
    (hne : ∀ (s' : Shared) (E' : Value → Shared → Prop) (k : K) (b : Addr) (Q' : Bool → Shared → Prop), knd.is s'.heap k b → Q' false s' → wpAny (model prog w) A (eqBool (.ref b) .none) Q' E' s')
    (hm : s.heap.DictOfH knd d xs) (h : Q none { s with toks := s.toks + 1 }) : wpAny (model prog w) A (dictGet d .none) Q E s := by
  obtain ⟨o, es, ep, ho, _, hd, he, his, hn⟩ := hm
  unfold dictGet
  try with_reducible refine wpAny_holding ?_
  refine wpAny_bind (PySem.W.pyHash_slot (T := "NoneType") rfl PySem.F.slot_NoneType_hash PySem.F.entry_NoneType_hash (PySem.F.args_NoneType_hash_1 _) (beq_builtin_none _) (.inl rfl) (wpAny_bind (wpAny_pure (wpAny_bind (wpAny_mkInt (wpAny_pure ⟨_, _, rfl, ?_⟩))))))
  exact wpAny_bind (findNone (hne _) ho hd he his (wpAny_pure h))

theorem inNone {K : Type} [DecidableEq K] {knd : HeapKind prog w K} {d : Addr} {xs : List (K × Addr × Value)} {Q : Value → Shared → Prop}
    (hne : ∀ (s' : Shared) (E' : Value → Shared → Prop) (k : K) (b : Addr) (Q' : Bool → Shared → Prop), knd.is s'.heap k b → Q' false s' → wpAny (model prog w) A.in1 (eqBool (.ref b) .none) Q' E' s')
    (hd : (d == sysModules) = false) (hm : s.heap.DictOfH knd d xs) (h : Q (.bool false) { s with toks := s.toks + 1 }) : wpAny (model prog w) A (compareOp .In .none (.ref d)) Q E s := by
  show wpAny _ _ (do return .bool (← contains (.ref d) .none)) Q E s
  refine wpAny_bind ?_
  unfold contains
  try with_reducible refine wpAny_holding ?_
  refine wpAny_bind (wpAny_specialOf hm.typeIs PySem.F.slot_dict_contains.lookup ?_)
  show wpAny _ _ (if (some (Value.builtin "dict.__contains__") == some Value.none) = true then _ else _) _ E s
  rw [if_neg (by rw [beq_builtin_none]; exact Bool.false_ne_true)]
  refine wpAny_bind (wpAny_callSpecialUnlessNone?_slot (name := Str.ofString "__contains__") hm.typeIs PySem.F.slot_dict_contains
    (wpAny_call_entry PySem.F.slot_dict_contains hm.typeIs PySem.F.entry_dict_contains ?_ (PySem.F.args_dict_contains_2 _ _)))
  show wpAny _ _ (dictGet d .none >>= _) _ _ s
  refine wpAny_bind (getNone hne hm ?_)
  show wpAny _ _ (Builtin.Dict.pendingKey? d .none >>= _) _ _ _
  exact wpAny_bind (wpAny_pendingKey_other hd (wpAny_pure ⟨_, rfl, wpAny_truthy_bool (wpAny_pure h)⟩))

theorem notInNone {K : Type} [DecidableEq K] {knd : HeapKind prog w K} {d : Addr} {xs : List (K × Addr × Value)} {Q : Value → Shared → Prop}
    (hne : ∀ (s' : Shared) (E' : Value → Shared → Prop) (k : K) (b : Addr) (Q' : Bool → Shared → Prop), knd.is s'.heap k b → Q' false s' → wpAny (model prog w) A.in1 (eqBool (.ref b) .none) Q' E' s')
    (hd : (d == sysModules) = false) (hm : s.heap.DictOfH knd d xs) (h : Q (.bool true) { s with toks := s.toks + 1 }) : wpAny (model prog w) A (compareOp .NotIn .none (.ref d)) Q E s := by
  show wpAny _ _ (do return .bool (!(← contains (.ref d) .none))) Q E s
  refine wpAny_bind ?_
  unfold contains
  try with_reducible refine wpAny_holding ?_
  refine wpAny_bind (wpAny_specialOf hm.typeIs PySem.F.slot_dict_contains.lookup ?_)
  show wpAny _ _ (if (some (Value.builtin "dict.__contains__") == some Value.none) = true then _ else _) _ E s
  rw [if_neg (by rw [beq_builtin_none]; exact Bool.false_ne_true)]
  refine wpAny_bind (wpAny_callSpecialUnlessNone?_slot (name := Str.ofString "__contains__") hm.typeIs PySem.F.slot_dict_contains
    (wpAny_call_entry PySem.F.slot_dict_contains hm.typeIs PySem.F.entry_dict_contains ?_ (PySem.F.args_dict_contains_2 _ _)))
  show wpAny _ _ (dictGet d .none >>= _) _ _ s
  refine wpAny_bind (getNone hne hm ?_)
  show wpAny _ _ (Builtin.Dict.pendingKey? d .none >>= _) _ _ _
  exact wpAny_bind (wpAny_pendingKey_other hd (wpAny_pure ⟨_, rfl, wpAny_truthy_bool (wpAny_pure h)⟩))
end

section
variable {X : Cx} {pins : List (Addr × Obj)} {σ : L2.St} {H : Hp} {s : Shared} {a : Addr} {kvs : List (List Key × V)} {A : Around} {E : Value → Shared → Prop}
theorem neKey {prog : Program} {w : World} (hu : A.units + 1 < cLine) (s' : Shared) (E' : Value → Shared → Prop) (k : List Key) (b : Addr) (Q' : Bool → Shared → Prop)
    (hk : (tupleKind (mixKind prog w)).is s'.heap k b) (hq : Q' false s') : wpAny (model prog w) A.in1 (eqBool (.ref b) .none) Q' E' s' := by
  obtain ⟨o, its, n, h1, h2, h3, _⟩ := hk
  exact PySem.SeqAt.EqAt.tuple_none (A := A.in1) (items := its) ⟨o, h1, h2, n, h3⟩ (show A.in1.units < cLine from hu) prog w E' Q' hq
theorem d_inNoneT {Q : Value → Shared → Prop} (hu : A.units + 1 < cLine) (I : Inv X pins σ H s) (e : Rd H a (.dT kvs)) (h : ∀ s', Inv X pins σ H s' → Q (.bool false) s') : wpAny (model X.prog X.w) A (compareOp .In .none (.ref a)) Q E s := by
  obtain ⟨_, hd, xs, _, dd⟩ := dt_rd I.hok e
  exact inNone (neKey hu) hd dd (h _ (I.tok _))
theorem d_notInNoneT {Q : Value → Shared → Prop} (hu : A.units + 1 < cLine) (I : Inv X pins σ H s) (e : Rd H a (.dT kvs)) (h : ∀ s', Inv X pins σ H s' → Q (.bool true) s') : wpAny (model X.prog X.w) A (compareOp .NotIn .none (.ref a)) Q E s := by
  obtain ⟨_, hd, xs, _, dd⟩ := dt_rd I.hok e
  exact notInNone (neKey hu) hd dd (h _ (I.tok _))
end
/-- y in d, y not in d; y may be None (d's keys tuples then) -/
def tDInZ (ty td : TE) : TE := fun σ H Q => ty σ H fun y H1 => td σ H1 fun x H2 => (∃ a o, x = .ref a ∧ DGet H2 a y o ∧ Q (.bl o.isSome) H2) ∨ ∃ a kvs, x = .ref a ∧ y = .non ∧ Rd H2 a (.dT kvs) ∧ Q (.bl false) H2
def tDNotInZ (ty td : TE) : TE := fun σ H Q => ty σ H fun y H1 => td σ H1 fun x H2 => (∃ a o, x = .ref a ∧ DGet H2 a y o ∧ Q (.bl (!o.isSome)) H2) ∨ ∃ a kvs, x = .ref a ∧ y = .non ∧ Rd H2 a (.dT kvs) ∧ Q (.bl true) H2
section
variable {X : Cx} {o i : Expr} {td ty : TE}
theorem pc_dinZ (hu : X.A.units + 1 < cLine) (hi : PE X i ty) (ho : PE X o td) : PC X .In i o (tDInZ ty td) := by
  refine ⟨fun pins s σ H Q I h => ?_⟩
  refine thn (hi.run pins s σ H _ I h) fun iv s1 ⟨y, H1, I1, ry, q1⟩ => thn (ho.run pins s1 σ H1 _ I1 q1) fun u s2 ⟨x, H2, I2, rx, q2⟩ => ?_
  rcases q2 with ⟨a, ov, ex, g, q2⟩ | ⟨a, kvs, ex, ey, g, q2⟩
  · subst ex
    obtain rfl : u = Value.ref a := rx
    exact d_in hu I2 g ry fun s3 I3 => ⟨.bl ov.isSome, H2, I3, rfl, q2⟩
  · subst ex ey
    obtain rfl : u = Value.ref a := rx
    obtain rfl : iv = Value.none := ry
    exact d_inNoneT hu I2 g fun s3 I3 => ⟨.bl false, H2, I3, rfl, q2⟩
theorem pc_dnotinZ (hu : X.A.units + 1 < cLine) (hi : PE X i ty) (ho : PE X o td) : PC X .NotIn i o (tDNotInZ ty td) := by
  refine ⟨fun pins s σ H Q I h => ?_⟩
  refine thn (hi.run pins s σ H _ I h) fun iv s1 ⟨y, H1, I1, ry, q1⟩ => thn (ho.run pins s1 σ H1 _ I1 q1) fun u s2 ⟨x, H2, I2, rx, q2⟩ => ?_
  rcases q2 with ⟨a, ov, ex, g, q2⟩ | ⟨a, kvs, ex, ey, g, q2⟩
  · subst ex
    obtain rfl : u = Value.ref a := rx
    exact d_notIn hu I2 g ry fun s3 I3 => ⟨.bl (!ov.isSome), H2, I3, rfl, q2⟩
  · subst ex ey
    obtain rfl : u = Value.ref a := rx
    obtain rfl : iv = Value.none := ry
    exact d_notInNoneT hu I2 g fun s3 I3 => ⟨.bl true, H2, I3, rfl, q2⟩
end
/-- a statement that is never reached -/
def tNo : TS := fun _ _ _ => False
theorem ps_no {X : Cx} {st : Stmt} : PS X st tNo := ⟨fun _ _ _ _ _ _ h => False.elim h⟩
end Wp

namespace Wp
open PySem PySem.Spec PyProof.Rows L2 TyNe

/-! ### dict(d), a star in a display -/
abbrev qLenD : List V → Hp → VK → Prop := fun xs H Q => ∃ (a : Addr) (kvs : List (Key × V)), xs = [V.ref a] ∧ H a = some (.dK kvs) ∧ Q (.int kvs.length) H
abbrev qDictD : List V → Hp → VK → Prop := fun xs H Q => ∃ (a : Addr) (kvs : List (Key × V)), xs = [.ref a] ∧ Rd H a (.dK kvs) ∧ ∀ p, H p = none → Q (.ref p) (upd H p (.dK kvs))
section
variable {K : PySem.W.Frag} {σ : L2.St} {H : Hp} {Q : VK} {te : TE} {t : TA}
theorem w_dictD {a : Addr} {kvs : List (Key × V)} (h : H a = some (.dK kvs)) (q : ∀ p H2, H p = none → Same H H2 → H2 p = some (.dK kvs) → Q (.ref p) H2) : qDictD [.ref a] H Q :=
  ⟨a, kvs, rfl, .inl h, fun p hp => q p _ hp (Same.upd (Same.refl H) hp) upd_same⟩
theorem w_star {R : List V → Hp → Prop} (q : te σ H fun x H1 => ∃ p xs, x = V.ref p ∧ (SqT K H1 p xs ∨ SqL K H1 p xs) ∧ t σ H1 fun ys H2 => R (xs ++ ys) H2) : StX.tStar K te t σ H R := q
theorem w_iEnum {ta : TA} {R : It → Hp → Prop} (q : ta σ H fun vs H1 => ∃ a xs, vs = [.ref a] ∧ SqL K H1 a xs ∧ R (Ite K a) H1) : iEnum K ta σ H R := q
theorem w_dinW {td ty : TE} (q : ty σ H fun y H1 => td σ H1 fun x H2 => ∃ a o, x = .ref a ∧ DGet H2 a y o ∧ Q (.bl o.isSome) H2) : tDIn ty td σ H Q := q
theorem w_dnotinW {td ty : TE} (q : ty σ H fun y H1 => td σ H1 fun x H2 => ∃ a o, x = .ref a ∧ DGet H2 a y o ∧ Q (.bl (!o.isSome)) H2) : tDNotIn ty td σ H Q := q
theorem w_dget1W {td ty : TE} (q : td σ H fun x H1 => ∃ a, x = .ref a ∧ IsD H1 a ∧ ty σ H1 fun y H2 => ∃ o, DGet H2 a y o ∧ Q (o.getD .non) H2) : tDGet1 td ty σ H Q := q
theorem w_dsetd {td ty tx : TE} (q : td σ H fun x H1 => ∃ a, x = .ref a ∧ IsD H1 a ∧ ty σ H1 fun y H2 => tx σ H2 fun z H3 => ∃ (kvs : List (Key × V)) (k : Key), H3 a = some (.dK kvs) ∧ y = kV k ∧ kvs.length < sizeLine ∧
  (∀ v, valV kvs k = some v → Q v H3) ∧ (valV kvs k = none → Q z (upd H3 a (.dK (putK kvs k z))))) : tDSetd td ty tx σ H Q := q
theorem w_whileW {D : Ends} {c : TT} {tb : TS} (q : ∃ W : Nat → L2.St → Hp → Prop, (∃ m, W m σ H) ∧ ∀ m σ H, W m σ H →
  c σ H fun b H1 => if b = true then ∃ N : L2.St → Hp → Prop, (∀ σ' H', N σ' H' → ∃ m', m' < m ∧ W m' σ' H') ∧ tb { D with nx := N, ct := N, bk := D.nx } σ H1 else D.nx σ H1) : tWhile c tb D σ H := q
theorem w_par {i j : Nat} {ta : TA} {D : Ends} (q : ta σ H fun vs H1 => ∃ v w, vs = [v, w] ∧ D.nx ((σ.set i (some v)).set j (some w)) H1) : tPar i j ta D σ H := q
theorem w_cont {D : Ends} (q : D.ct σ H) : tCont D σ H := q
theorem w_aug {i : Nat} {ti : TIp} {D : Ends} {x : V} (h : σ[i]? = some (some x)) (q : te σ H fun y H1 => ti x y H1 fun z H2 => D.nx (σ.set i (some z)) H2) : tAug i te ti D σ H := ⟨x, h, q⟩
theorem w_ipI {f : Int → Int → Int} {i j : Int} (q : Q (.int (f i j)) H) : ipI f (.int i) (.int j) H Q := ⟨i, j, rfl, rfl, q⟩
end
/-! ### dicts with text keys, as lists of pairs -/
section
variable {α : Type}
def asV (f : α → V) (l : List (Str × α)) : List (L2.Key × V) := l.map fun y => (Sum.inr y.1, f y.2)
def getA (l : List (Str × α)) (nm : Str) : Option α := (l.find? fun y => decide (y.1 = nm)).map (·.2)
theorem asV_len (f : α → V) (l : List (Str × α)) : (asV f l).length = l.length := List.length_map _
theorem getA_nil (nm : Str) : getA ([] : List (Str × α)) nm = none := rfl
theorem getA_pos {y : Str × α} {l : List (Str × α)} {nm : Str} (e : y.1 = nm) : getA (y :: l) nm = some y.2 := by
  unfold getA
  rw [List.find?_cons, decide_eq_true e]
  rfl
theorem getA_neg {y : Str × α} {l : List (Str × α)} {nm : Str} (e : y.1 ≠ nm) : getA (y :: l) nm = getA l nm := by
  unfold getA
  rw [List.find?_cons, decide_eq_false e]
theorem valA (f : α → V) (nm : Str) : ∀ l : List (Str × α), valV (asV f l) (Sum.inr nm) = (getA l nm).map f
  | [] => rfl
  | y :: l => by
    unfold asV
    rw [List.map_cons]
    by_cases e : y.1 = nm
    · rw [valV_pos (congrArg Sum.inr e), getA_pos e]
      rfl
    · rw [valV_neg (fun z => e (Sum.inr.inj z)), getA_neg e]
      exact valA f nm l
theorem valA_some (f : α → V) {nm : Str} {l : List (Str × α)} {a : α} (h : getA l nm = some a) : valV (asV f l) (Sum.inr nm) = some (f a) := by rw [valA, h]; rfl
theorem valA_none (f : α → V) {nm : Str} {l : List (Str × α)} (h : getA l nm = none) : valV (asV f l) (Sum.inr nm) = none := by rw [valA, h]; rfl
theorem getA_none : ∀ {l : List (Str × α)} {nm : Str}, getA l nm = none ↔ nm ∉ l.map (·.1)
  | [], nm => ⟨fun _ h => (nomatch h), fun _ => rfl⟩
  | y :: l, nm => by
    by_cases e : y.1 = nm
    · rw [getA_pos e]
      exact ⟨fun z => (nomatch z), fun z => absurd (by rw [List.map_cons, e]; exact List.mem_cons_self ..) z⟩
    · rw [getA_neg e, getA_none, List.map_cons, List.mem_cons, not_or]
      exact ⟨fun z => ⟨fun w => e w.symm, z⟩, fun z => z.2⟩
theorem getA_some {l : List (Str × α)} {nm : Str} : (getA l nm).isSome = decide (nm ∈ l.map (·.1)) := by
  cases e : getA l nm with
  | none => rw [decide_eq_false (getA_none.mp e)]; rfl
  | some a =>
    rw [decide_eq_true]
    · rfl
    · exact Classical.byContradiction fun z => by rw [getA_none.mpr z] at e; cases e
theorem getA_mem {l : List (Str × α)} {nm : Str} {a : α} (h : getA l nm = some a) : (nm, a) ∈ l := by
  unfold getA at h
  obtain ⟨y, hy, rfl⟩ := Option.map_eq_some_iff.mp h
  have h1 := List.mem_of_find?_eq_some hy
  have h2 := List.find?_some hy
  have h2 := of_decide_eq_true h2
  rw [← h2]
  exact h1
theorem getA_app {l m : List (Str × α)} {nm : Str} : getA (l ++ m) nm = (getA l nm).or (getA m nm) := by
  unfold getA
  rw [List.find?_append]
  cases l.find? fun y => decide (y.1 = nm) <;> rfl
theorem asV_app (f : α → V) (l m : List (Str × α)) : asV f (l ++ m) = asV f l ++ asV f m := List.map_append
theorem putA_new {f : α → V} {l : List (Str × α)} {nm : Str} {a : α} {v : V} (h : getA l nm = none) (e : f a = v) : putK (asV f l) (Sum.inr nm) v = asV f (l ++ [(nm, a)]) := by
  rw [putK_new _ (valA_none f h), ← e, asV_app]
  rfl
end
/-! ### name = {.. for ..} on one line, the name a local -/
theorem sw_trueD {kx vx : Expr} {gs : List Comprehension} {scope : Scope} {pos py : Pos} {y : Str} {l : Nat} {env : Env} (hk : env.scope.kind = .function) (hy : env.scope.names.lookup y = some .local) (hl : (py.line == pos.line) = true)
    (ha : (scope.names.any fun (n, k) => n == y && (k == .local || k == .cell)) = false) : swapsWith (.DictComp kx vx gs scope pos) (some (.Name y py)) l env = pure true := by
  have ky : env.kindOf y = some .local := hy
  have hb : env.blockKind = .function := by unfold Env.blockKind; rw [hk]; rfl
  unfold swapsWith
  simp only [hb, ky, ha, Expr.pos, hl]
  rfl
theorem ps_setDc {X : Cx} {i : Nat} {y : Str} {py : Pos} {kx vx tg iter : Expr} {ifs : List Expr} {scope : Scope} {own : List (Str × Nat)} {pos spos : Pos} {wi : TI} {g : TG} {tt : TT} {tk tv : TE} (hc : X.calm = true) (hN : X.N.Nodup) (hy : X.N[i]? = some y) (hyl : X.env.scope.names.lookup y = some .local)
    (hsw : swapsWith (.DictComp kx vx [⟨tg, iter, ifs, 0⟩] scope pos) (some (.Name y py)) spos.line X.env = pure true) (hi : PI X tg iter wi) (ok : BlkOk X.N X.env.scope scope own)
    (hg : ∀ (s : Shared) (H : Hp) (C : Addr) (cl : List (Str × Addr)) (fp : List Addr), PG (X.blk s H scope (compEnvC scope cl C X.env) fp) tg g) (ht : ∀ (s : Shared) (H : Hp) (C : Addr) (cl : List (Str × Addr)) (fp : List Addr), PTs (X.blk s H scope (compEnvC scope cl C X.env) fp) ifs tt)
    (hk : ∀ (s : Shared) (H : Hp) (C : Addr) (cl : List (Str × Addr)) (fp : List Addr), PE (X.blk s H scope (compEnvC scope cl C X.env) fp) kx tk)
    (he : ∀ (s : Shared) (H : Hp) (C : Addr) (cl : List (Str × Addr)) (fp : List Addr), PE (X.blk s H scope (compEnvC scope cl C X.env) fp) vx tv) (hs : ∀ x, foldedSetIterable iter X.env x = pure x := by intro _; rfl) :
    PS X (.Assign [.Name y py] (.DictComp kx vx [⟨tg, iter, ifs, 0⟩] scope pos) spos) (tAsg (tDc wi g tt tk tv (own.map (·.2))) (gName i)) := by
  refine ⟨fun pins s σ H D I h => ?_⟩
  rw [exec_Assign_Name_used _ _ _ _ hsw]
  refine wpAny_bind (wpAny_standAt (wpAny_bind ?_))
  show wpAny _ X.A (do let _ ← comprehension (.DictComp kx vx [⟨tg, iter, ifs, 0⟩] scope pos) scope X.env (firstIterPos [⟨tg, iter, ifs, 0⟩] pos) newDict false (eval iter X.env) (some (assign (.Name y py) X.env))) _ _ s
  have h : tDc wi g tt tk tv (own.map (·.2)) σ H (fun x H1 => gName i x σ H1 D.nx) := h
  refine wpAny_bind (thn (dc_core (Qf := fun _ s' => SP X pins D .next s') hc hN I hi ok hg ht hk he hs h fun L C s' m H' I' q hn f => ?_) fun _ s' hq => wpAny_pure (wpAny_pure hq))
  show wpAny _ _ (assign (.Name y py) X.env (.ref L)) _ _ _
  refine wpAny_assign_Name (store_ok2 (v := V.ref L) I' hN hy (.inl hyl) rfl (fun s2 I2 ⟨a, sb, ha⟩ => ?_) (.inr hyl))
  obtain ⟨f0, f1, f2, f3, f4, f5⟩ := f
  have haC : C ≠ a := by
    rcases ha with z | z
    · rw [z]; exact f1
    · exact fun e => f4 y a z e.symm
  refine ⟨m, hn.sameBut sb haC, fun h3 sb3 => ?_⟩
  exact ⟨_, H', I2.turned (t' := s2.toks) (fun b o hb e => (sb3.2 b hb).trans e) f0 f1 f3 f4 f5, q⟩
end Wp

namespace Wp
open PySem PySem.Spec PyProof.Rows L2 TyNe

/-! ### own methods that may raise -/
structure XMet (P : Program) (w : World) (K : PySem.W.Frag) (mg : Str → Option Value) (base : Heap) (k : Nat) (C : Addr) (m : Str) (sp : Sp) : Prop where
  ex : ∃ (f : Addr) (fd : FuncData) (ps : List Str), Cls K C ∧ Meth K C m f ∧ FnOk P w K mg base (L2.CX P w) k f fd ps sp ∧ Binds K fd ps []
theorem metX {P : Program} {w : World} {K : PySem.W.Frag} {mg : Str → Option Value} {base : Heap} {m qual : Str} {C : Addr} {st : Stmt} {f : Addr} {fd : FuncData} {N ps : List Str} {k : Nat} {sp : Sp} (c : Cls K C) (me : Meth K C m f) (F : C8.Fun K m qual st f fd) (b : Binds K fd ps []) (S : FnScope N ps (C8.fnScope st)) (len : ∀ vs H Q E, sp vs H Q E → vs.length = ps.length)
    (hbody : ∀ (cdv : Value) (A : Around) (outer : List Env) (s : Shared) (H : Hp) (vs : List V) (Q : VK) (E : XK), Room k (A.deeper (envOfC qual (C8.fnScope st) s.heap.objs.size f cdv)) → sp vs H Q E →
      ∃ t, PSs (cxOf (L2.CX P w) P w K mg base N qual (C8.fnScope st) f cdv A outer s H E) (C8.fnBody st) t ∧ t { nx := fun _ H' => Q .non H', rt := Q } (start N vs) H) : XMet P w K mg base (k + 1) C m sp :=
  ⟨f, fd, ps, c, me, fnX F S len hbody, b⟩
/-- o.m(e, ..) where it may raise -/
def tMethX (C : Addr) (m : Str) (sp : Sp) (E : L2.St → XK) (ta : TE) (t : TA) : TE := fun σ H Q => ta σ H fun x H1 => ∃ a dx fs, x = .ref a ∧ H1 a = some (.ins C dx fs) ∧ fs.lookup m = none ∧ t σ H1 fun vs H2 => sp (x :: vs) H2 Q (E σ)
section
variable {X : Cx} {k j : Nat} {C : Addr} {m : Str} {sp : Sp} {pos apos : Pos} {e o : Expr} {es : List Expr} {ta : TE} {t : TA}
theorem pe_mx {pl : Sem Bool} (c : XMet X.prog X.w X.K X.mg X.base k C m sp) (hr : Room j X.A) (hk : k ≤ j) (he : PE X o ta) (ha : PA X (e :: es) t)
    (hst : starEach (e :: es) X.env = (false, eval e X.env) :: starEach es X.env := by rfl) (hpl : (backTo pos (starEach es X.env)).any (·.1) = false := by rfl)
    (ht : eval (.Call (.Attribute o m apos) (e :: es) [] pos) X.env = (do
      let ov ← eval o X.env
      standAt apos.atName
      let (f, first) ← holding [ov] (getMethod ov m pl)
      callWith pos f first (backTo pos (starEach (e :: es) X.env)) (backToKw pos (keywordEach [] X.env))) := by rfl) :
    PE X (.Call (.Attribute o m apos) (e :: es) [] pos) (tMeth C m sp [] C8.E0 ta t) := by
  obtain ⟨f, fd, ps, hc, hm, F, b⟩ := c.ex
  exact pe_meth (pl := pl) he hc hm F (hr.mono hk) b .nil passX0 ha hst hpl ht
theorem pe_mx0 {pl : Sem Bool} (c : XMet X.prog X.w X.K X.mg X.base k C m sp) (hr : Room j X.A) (hk : k ≤ j) (he : PE X o ta)
    (ht : eval (.Call (.Attribute o m apos) [] [] pos) X.env = (do
      let ov ← eval o X.env
      standAt apos.atName
      let (f, first) ← holding [ov] (getMethod ov m pl)
      callWith pos f first (backTo pos (starEach [] X.env)) (backToKw pos (keywordEach [] X.env))) := by rfl) :
    PE X (.Call (.Attribute o m apos) [] [] pos) (tMeth C m sp [] C8.E0 ta tNil) := by
  obtain ⟨f, fd, ps, hc, hm, F, b⟩ := c.ex
  exact pe_meth0 (pl := pl) he hc hm F (hr.mono hk) b .nil passX0 ht
theorem pe_ms {W : WX} {pl : Sem Bool} (c : XMet X.prog X.w X.K X.mg X.base k C m sp) (hr : Room j X.A) (hk : k ≤ j) (tk : Takes X W) (he : PE X o ta) (ha : PA X (e :: es) t)
    (hst : starEach (e :: es) X.env = (false, eval e X.env) :: starEach es X.env := by rfl) (hpl : (backTo pos (starEach es X.env)).any (·.1) = false := by rfl)
    (ht : eval (.Call (.Attribute o m apos) (e :: es) [] pos) X.env = (do
      let ov ← eval o X.env
      standAt apos.atName
      let (f, first) ← holding [ov] (getMethod ov m pl)
      callWith pos f first (backTo pos (starEach (e :: es) X.env)) (backToKw pos (keywordEach [] X.env))) := by rfl) :
    PE X (.Call (.Attribute o m apos) (e :: es) [] pos) (tMethX C m sp (WE W) ta t) := by
  obtain ⟨f, fd, ps, hc, hm, F, b⟩ := c.ex
  refine ⟨fun pins s σ H Q I h => ?_⟩
  refine PySem.W.methodCall_KW (pl := pl) (thn (he.run pins s σ H _ I h) fun u s1 ⟨x, H1, I1, rx, a, dx, fs, ex, ea, l, q⟩ => ?_) ht
  subst ex
  obtain rfl : u = Value.ref a := rx
  refine getmeth_ok I1 ea hc hm l ?_
  refine PySem.W.callWith_K (first := [.ref a]) (h₀ := X.base) I.ok.mod.kin hm.kp (thn (ha.run pos pins s1 σ H1 _ I1 q) fun us s2 ⟨vs, H2, I2, r, q2⟩ => ⟨I2.kIn, ?_⟩) hst hpl
  exact run_fnS (us := .ref a :: us) (vs := .ref a :: vs) F (hr.mono hk) b (passAt tk σ) I2 (.cons rfl r) q2
end
section
variable {K : PySem.W.Frag} {σ : L2.St} {H : Hp} {Q : VK} {D : Ends} {C : Addr} {m : Str} {sp : Sp} {E : L2.St → XK} {ta : TE} {t : TA}
theorem w_methX {i : Nat} {x dx : Addr} {fs : List (Str × V)} (hi : σ[i]? = some (some (.ref x))) (h : H x = some (.ins C dx fs)) (l : fs.lookup m = none) (q : t σ H fun vs H2 => sp (.ref x :: vs) H2 Q (E σ)) : tMethX C m sp E (tVar i) t σ H Q :=
  ⟨_, hi, x, dx, fs, rfl, h, l, q⟩
theorem w_raise {C : Addr} {E : XK} (q : E (.ref C) none H) : tRaise C E D σ H := q
end
end Wp

namespace Wp
open PySem PySem.Spec PyProof.Rows L2 TyNe

/-! ### dict(a tuple of pairs); tuples whose object is known to have no attributes -/
/-- the tuple at a, and its object has no dict of attributes -/
def TupZ (H : Hp) (a : Addr) (xs : List V) : Prop := ∃ o : Obj, o.dict = none ∧ H a = some (.frz o (.tup xs))
theorem TupZ.sq {K : PySem.W.Frag} {H : Hp} {a : Addr} {xs : List V} (h : TupZ H a xs) : SqT K H a xs := by
  obtain ⟨o, _, e⟩ := h
  exact .inl (.inr ⟨o, e⟩)
theorem TupZ.same {H H' : Hp} {a : Addr} {xs : List V} (h : TupZ H a xs) (s : Same H H') : TupZ H' a xs := by
  obtain ⟨o, d, e⟩ := h
  exact ⟨o, d, s _ _ e⟩
abbrev qTupleOfZ (K : PySem.W.Frag) : List V → Hp → VK → Prop := fun xs H Q => ∃ p ys, xs = [.ref p] ∧ SqL K H p ys ∧ ∀ l o, H l = none → o.dict = none → Q (.ref l) (upd H l (.frz o (.tup ys)))
theorem call_tupleOfZ {X : Cx} : CallR X (.type "tuple") (qTupleOfZ X.K) := by
  intro pins s σ H xs us Q I r h
  obtain ⟨p, ys, rfl, hq, q⟩ := h
  obtain ⟨u, rfl, rx⟩ := vals1 r
  cases rx
  obtain ⟨its, r', pl, hz⟩ := I.list hq
  have hlen := r'.length
  refine call_tuple_list pl.isList (fun h' kp => ?_) (by simp only [List.size_toArray] <;> omega)
  have I1 : Inv X pins σ H { s with heap := h' } := I.kept (t' := s.toks) kp
  have I2 : Inv X pins σ (upd H h'.objs.size (.frz { cls := .type "tuple", data := .seq its.toArray } (.tup ys))) { s with heap := h'.push { cls := .type "tuple", data := .seq its.toArray } } :=
    I1.laid (t' := s.toks) (fun b o e => Heap.get?_push_of_some _ e) (Nat.le_refl _) (show ObjOk X.prog X.w _ _ _ (.frz _ (.tup ys)) from ⟨Heap.get?_push_size _ rfl, hz, its, r', IsTup.new _ _⟩)
  exact ⟨.ref h'.objs.size, _, I2, rfl, q _ _ (I1.hok.fresh (Nat.le_refl _)) rfl⟩
abbrev qDictP (K : PySem.W.Frag) : List V → Hp → VK → Prop := fun xs H Q => ∃ (t : Addr) (Ts : List V) (ps : List (Key × V)), xs = [.ref t] ∧ TupZ H t Ts ∧ Ts.length = ps.length ∧ ps.length ≤ 1000 ∧
  (∀ (i : Nat) (p : Key × V), ps[i]? = some p → ∃ b : Addr, Ts[i]? = some (V.ref b) ∧ SqT K H b [kV p.1, p.2]) ∧ ∀ p, H p = none → Q (.ref p) (upd H p (.dK (mergeK [] ps)))
theorem kv_zip : ∀ (ps : List (Key × V)) (vs : List (Value × Value)), ps.length = vs.length → (∀ (i : Nat) p v, ps[i]? = some p → vs[i]? = some v → RelV p.2 v.2) → KV ps ((ps.zip vs).map fun z => (z.1.1, z.2.2))
  | [], [], _, _ => .nil
  | p :: ps, v :: vs, hl, h => .cons ⟨rfl, h 0 p v rfl rfl⟩ (kv_zip ps vs (by simpa using hl) fun i q u e1 e2 => h (i + 1) q u e1 e2)
  | [], _ :: _, hl, _ => by simp at hl
  | _ :: _, [], hl, _ => by simp at hl
theorem call_dictP {X : Cx} (hcalm : X.calm = true) : CallR X (.type "dict") (qDictP X.K) := by
  intro pins s σ H xs us Q I r h
  obtain ⟨t, Ts, ps, rfl, ⟨o, hd, ht⟩, hlen, h1000, hps, q⟩ := h
  obtain ⟨u, rfl, rx⟩ := vals1 r
  cases rx
  obtain ⟨ho, hz, its, rv, o', ho', hc, n, hdat⟩ := (show ObjOk X.prog X.w H s.heap t (.frz o (.tup Ts)) from I.hok t _ ht)
  have e : o' = o := Option.some.inj (ho'.symm.trans ho)
  subst e
  have hex : ∀ i : Nat, ∃ z : Addr × Value × Value, ∀ p, ps[i]? = some p → its[i]? = some (.ref z.1) ∧ IsTup s.heap z.1 #[z.2.1, z.2.2] ∧ RelV (kV p.1) z.2.1 ∧ RelV p.2 z.2.2 := by
    intro i
    cases hi : ps[i]? with
    | none => exact ⟨(0, .none, .none), fun p hp => nomatch hp⟩
    | some p =>
      obtain ⟨b, hb, hs⟩ := hps i p hi
      obtain ⟨us', rv', tp, _⟩ := I.tuple hs
      obtain ⟨u1, w1, rfl, r1, r2⟩ := vals2 rv'
      obtain ⟨ub, hub, rb⟩ := rv.get hb
      cases rb
      exact ⟨(b, u1, w1), fun p' hp' => by
        cases hp'
        exact ⟨hub, tp, r1, r2⟩⟩
  obtain ⟨F, hF⟩ := Classical.axiomOfChoice hex
  have hF : ∀ i p, ps[i]? = some p → its[i]? = some (.ref (F i).1) ∧ IsTup s.heap (F i).1 #[(F i).2.1, (F i).2.2] ∧ RelV (kV p.1) (F i).2.1 ∧ RelV p.2 (F i).2.2 := hF
  obtain ⟨vps, hvps⟩ : ∃ vps : List (Value × Value), vps = (List.range ps.length).map fun i => (F i).2 := ⟨_, rfl⟩
  have hvl : vps.length = ps.length := by rw [hvps, List.length_map, List.length_range]
  have hvg : ∀ i v, vps[i]? = some v → i < ps.length ∧ v = (F i).2 := fun i v hv => by
    rw [hvps, List.getElem?_map] at hv
    obtain ⟨j, hj, rfl⟩ := Option.map_eq_some_iff.mp hv
    obtain ⟨hjl, hj2⟩ := List.getElem?_eq_some_iff.mp hj
    rw [List.getElem_range] at hj2
    rw [List.length_range] at hjl
    exact ⟨hjl, by rw [hj2]⟩
  have hkv : KV ps ((ps.zip vps).map fun z => (z.1.1, z.2.2)) := kv_zip ps vps hvl.symm fun i p v hp hv => by
    rw [(hvg i v hv).2]
    exact (hF i p hp).2.2.2
  have hit : PairItems s.heap its.toArray (fun i => (F i).1) vps := ⟨by rw [List.size_toArray, hvl, ← hlen]; exact rv.length.symm, fun j k v hj => by
    obtain ⟨h1, h2⟩ := hvg j _ hj
    obtain ⟨g1, g2, _, _⟩ := hF j ps[j] (List.getElem?_eq_getElem h1)
    rw [← h2] at g2
    exact ⟨by simpa using g1, .inl g2⟩⟩
  have hz3 : ps.length ≤ sizeLine := Nat.le_trans h1000 (by decide)
  refine call_dict_pairs (knd := mixKind X.prog X.w) (kvs := (ps.zip vps).map fun z => (z.1.1, z.2.2)) (PairArg.tuple t its.toArray (fun i => (F i).1) vps) (I.ok.hd hcalm) ⟨⟨o', n, ho, hc, hd, hdat⟩, hit⟩ ⟨by rw [List.length_map, List.length_zip, hvl, Nat.min_self], fun i key v hv => ?_⟩ (by rw [hvl]; exact hz3) fun h' tk hd' hk => ?_
  · obtain ⟨h1, h2⟩ := hvg i _ hv
    have hp := List.getElem?_eq_getElem h1
    obtain ⟨_, _, g3, _⟩ := hF i _ hp
    refine ⟨ps[i].1, ?_, ?_⟩
    · have hzz : (ps.zip vps)[i]? = some (ps[i], (key, v)) := List.getElem?_zip_eq_some.mpr ⟨hp, hv⟩
      rw [List.getElem?_map, hzz]
      rfl
    · rw [← h2] at g3
      exact kV_is g3
  · have hm : (s.heap.objs.size == sysModules) = false := beq_eq_false_iff_ne.mpr (Nat.ne_of_gt I.big)
    have hz4 : (mergeK [] ps).length ≤ sizeLine := Nat.le_trans (length_mergeK ps []) (by simpa using hz3)
    exact ⟨.ref s.heap.objs.size, upd H s.heap.objs.size (.dK (mergeK [] ps)), I.laid (fun b u e => hk b u (by simp) e) (Nat.le_refl _) (show ObjOk X.prog X.w _ _ _ (.dK (mergeK [] ps)) from ⟨hz4, hm, _, KV.merge hkv .nil, hd'⟩), rfl, q _ (I.hok.fresh (Nat.le_refl _))⟩
/-- a display of a tuple whose object is known -/
def tTupZ (t : TA) : TE := fun σ H Q => t σ H fun xs H1 => xs.length ≤ sizeLine ∧ ∀ p o, H1 p = none → o.dict = none → Q (.ref p) (upd H1 p (.frz o (.tup xs)))
theorem pe_tupZ {X : Cx} {es : List Expr} {t : TA} {pos : Pos} {x1} (h : PA X es t) : PE X (.Tuple es x1 pos) (tTupZ t) := by
  refine ⟨fun pins s σ H Q I hq => ?_⟩
  refine wpAny_Tuple_spliced (thn (h.run pos pins s σ H _ I hq) fun us s1 ⟨xs, H1, I1, r, z, q⟩ => ⟨by rw [← r.length]; exact z, ?_⟩)
  have hf : H1 s1.heap.objs.size = none := I1.hok.fresh (Nat.le_refl _)
  refine ⟨.ref s1.heap.objs.size, upd H1 s1.heap.objs.size (.frz { cls := .type "tuple", data := .seq us.toArray } (.tup xs)), I1.laid (t' := s1.toks) (fun b u e => Heap.get?_push_of_some _ e) (Nat.le_refl _) ?_, rfl, q _ _ hf rfl⟩
  exact ⟨Heap.get?_push_size _ rfl, z, us, r, ⟨_, Heap.get?_push_size _ rfl, rfl, _, rfl⟩⟩
section
variable {K : PySem.W.Frag} {σ : L2.St} {H : Hp} {Q : VK}
def NewZ (H : Hp) (xs : List V) (q : Addr → Hp → Prop) : Prop := ∀ p o, H p = none → o.dict = none → q p (upd H p (.frz o (.tup xs)))
theorem w_newZ {xs : List V} {q : Addr → Hp → Prop} (h : ∀ p H2, H p = none → Same H H2 → TupZ H2 p xs → q p H2) : NewZ H xs q := fun p o hp ho => h p _ hp (Same.upd (Same.refl H) hp) ⟨o, ho, upd_same⟩
theorem w_tupZ {tr : TA} (q : tr σ H fun xs H1 => xs.length ≤ sizeLine ∧ NewZ H1 xs fun p H2 => Q (.ref p) H2) : tTupZ tr σ H Q := q
theorem w_tupleOfZ {a : Addr} {ys : List V} (h : H a = some (.lst ys)) (q : ∀ p H2, H p = none → Same H H2 → TupZ H2 p ys → Q (.ref p) H2) : qTupleOfZ K [.ref a] H Q :=
  ⟨a, ys, rfl, SqL.of h, fun l o hl ho => q l _ hl (Same.upd (Same.refl H) hl) ⟨o, ho, upd_same⟩⟩
theorem w_dictP {t : Addr} {Ts : List V} {ps : List (Key × V)} (h : TupZ H t Ts) (hl : Ts.length = ps.length) (hz : ps.length ≤ 1000) (hp : ∀ (i : Nat) (p : Key × V), ps[i]? = some p → ∃ b : Addr, Ts[i]? = some (V.ref b) ∧ SqT K H b [kV p.1, p.2]) (q : ∀ p H2, H p = none → Same H H2 → H2 p = some (.dK (mergeK [] ps)) → Q (.ref p) H2) : qDictP K [.ref t] H Q :=
  ⟨t, Ts, ps, rfl, h, hl, hz, hp, fun p hp => q p _ hp (Same.upd (Same.refl H) hp) upd_same⟩
end
end Wp

namespace Wp
open PySem PySem.Spec PyProof.Rows L2 TyNe HT

/-! ### sorted(a list of data), of any length -/
/-- data with the objects that they stand for, in their order -/
def srtW (bs : List (V × PyData)) : List (V × PyData) := bs.mergeSort (PySem.W.dataLe false (·.2))
abbrev rSortedW (K : PySem.W.Frag) : List V → Hp → VK → Prop := fun xs H Q => ∃ (a : Addr) (bs : List (V × PyData)), xs = [.ref a] ∧ SqL K H a (bs.map (·.1)) ∧ (∀ b ∈ bs, Dp K H b.1 b.2) ∧ PySem.W.AllAlike (bs.map (·.2)) ∧ PySem.W.Sortable (bs.map (·.2)) ∧ bs.length ≤ 100000 ∧ (∀ b ∈ bs, b.2.depth ≤ 60) ∧
  ∀ p, H p = none → Q (.ref p) (upd H p (.lst ((srtW bs).map (·.1))))
theorem each_vals {β : Type} (f : β → V) : ∀ {bs : List β} {us : List Value}, Vals (bs.map f) us → PySem.W.EachIs (fun u b => RelV (f b) u) us bs
  | [], _, r => by
    cases r
    exact .nil
  | b :: bs, _, r => by
    cases r with
    | cons h1 h2 => exact .cons h1 (each_vals f h2)
theorem vals_each {β : Type} (f : β → V) : ∀ {bs : List β} {us : List Value}, PySem.W.EachIs (fun u b => RelV (f b) u) us bs → Vals (bs.map f) us
  | _, _, .nil => .nil
  | _, _, .cons h1 h2 => .cons h1 (vals_each f h2)
theorem cr_sortedW {X : Cx} (hu : X.A.units + 64 < cLine) : CallR X (.builtin "sorted") (rSortedW X.K) := by
  intro pins s σ H vs us Q I r h
  obtain ⟨a, bs, rfl, hs, hd, hal, hk, hL, hdep, q⟩ := h
  obtain ⟨its, rv, hl, hz⟩ := I.list hs
  rw [Vals.ref1 r]
  have e := each_vals (fun b : V × PyData => b.1) rv
  have er : PySem.W.EachIs (fun v (b : V × PyData) => ∃ as, Reads s.heap v b.2 as) its bs := (PySem.W.each_mem e).mono fun v b ⟨h1, hb⟩ => Dp.reads I b.2 b.1 v (hd b hb) h1
  refine PySem.W.sorted_data (enc := fun b : V × PyData => b.2) hl.isList e er hal hk (Nat.le_trans hL (by decide)) (fun b hb => by have := hdep b hb; omega) fun out ho eo => ?_
  obtain ⟨ep, he'⟩ := PyProof.Rows.sortedAll_at s.heap its out.toArray
  have hv : Vals ((srtW bs).map (·.1)) out := vals_each _ eo
  have hlen : ((srtW bs).map (·.1)).length ≤ sizeLine := by
    rw [List.length_map]
    unfold srtW
    rw [List.length_mergeSort]
    exact Nat.le_trans hL (by decide)
  exact ⟨.ref _, upd H (s.heap.objs.size + 1) (.lst ((srtW bs).map (·.1))), I.laid (t' := s.toks) (fun _ _ => PyProof.Rows.sortedAll_old) (Nat.le_succ _) ⟨hlen, out, ep, hv, he'⟩, rfl, q _ (I.hok.fresh (Nat.le_succ _))⟩
section
variable {K : PySem.W.Frag} {H : Hp} {Q : VK}
theorem w_sortedW {a : Addr} {bs : List (V × PyData)} (h : H a = some (.lst (bs.map (·.1)))) (hd : ∀ b ∈ bs, Dp K H b.1 b.2) (hal : PySem.W.AllAlike (bs.map (·.2))) (hk : PySem.W.Sortable (bs.map (·.2))) (hL : bs.length ≤ 100000) (hdep : ∀ b ∈ bs, b.2.depth ≤ 60)
    (q : ∀ p H2, H p = none → Same H H2 → H2 p = some (.lst ((srtW bs).map (·.1))) → Q (.ref p) H2) : rSortedW K [.ref a] H Q :=
  ⟨a, bs, rfl, SqL.of h, hd, hal, hk, hL, hdep, fun p hp => q p _ hp (Same.upd (Same.refl H) hp) upd_same⟩
end
end Wp

namespace T
open PySem PySem.Spec PyProof.Rows L2 TyNe Wp
local macro_rules | `(tactic| walk_at "ne") => `(tactic| first
  | assumption
  | (refine Ne.symm ?_; assumption)
  | exact ne_of_none (by assumption) (by assumption)
  | exact (ne_of_none (by assumption) (by assumption)).symm
  | exact Stm.ne (by assumption) (by assumption)
  | exact (Stm.ne (by assumption) (by assumption)).symm)
local macro_rules | `(tactic| walk_at "hp") => `(tactic| first
  | assumption
  | exact upd_same
  | (rw [upd_ne (by walk_at "ne")]; walk_at "hp")
  | (refine Same.get (by assumption) ?_; walk_at "hp")
  | (refine Kp.get (by assumption) ?_ ?_ <;> first | (walk_at "hp"; done) | (walk_at "ne"; done)))
local macro_rules | `(tactic| walk_at "sq") => `(tactic| first
  | assumption
  | exact TupK.sq (by assumption)
  | exact SqL.of (by walk_at "hp")
  | exact SqT.of (by walk_at "hp"))
local macro_rules | `(tactic| walk_at "ar") => `(tactic| first
  | assumption | rfl | omega | decide)
/-- one step of a reading -/
local macro_rules | `(tactic| walk_at "w1") => `(tactic| first
  | with_reducible refine w_seq ?_
  | with_reducible refine w_asg ?_
  | ((with_reducible show tVar _ _ _ _); refine w_var rfl ?_)
  | with_reducible refine w_c ?_
  | with_reducible refine w_name ?_
  | with_reducible refine w_op ?_
  | with_reducible refine w_un ?_
  | with_reducible refine w_cons ?_
  | with_reducible refine w_nil ?_
  | with_reducible refine w_call ?_
  | with_reducible refine w_cb ?_
  | with_reducible refine w_ret ?_
  | with_reducible refine w_retN ?_
  | with_reducible refine w_ifS ?_
  | with_reducible refine w_test ?_
  | with_reducible refine w_B ?_
  | with_reducible refine w_exb ?_
  | with_reducible refine w_exi ?_
  | with_reducible refine w_next ?_
  | with_reducible refine w_drop ?_
  | with_reducible refine w_and ?_
  | with_reducible refine w_or ?_
  | with_reducible refine w_not ?_
  | with_reducible refine w_andV ?_
  | with_reducible refine w_orV ?_
  | with_reducible refine w_notV ?_
  | with_reducible refine w_if ?_
  | with_reducible refine w_chain ?_
  | with_reducible refine w_sub ?_
  | with_reducible refine w_tup ?_
  | with_reducible refine w_lst ?_
  | with_reducible refine w_sl ?_
  | with_reducible refine w_noPart ?_
  | with_reducible refine w_part ?_
  | with_reducible refine w_I0 ?_
  | ((with_reducible refine w_I ?c ?_); (case c => first | exact .inr (by decide) | exact .inl (by decide) | exact (show (0 : Int) < _ by omega) | exact cmul_l (by omega) (by omega) | exact cmul_r (by omega) (by omega) | exact And.intro (by omega) (by omega) | exact And.intro (by decide) (And.intro (by decide) (by decide))))
  | with_reducible refine w_U ?_
  | with_reducible refine w_eqI ?_
  | with_reducible refine w_neI ?_
  | with_reducible refine w_eqS ?_
  | with_reducible refine w_neS ?_
  | with_reducible refine w_eqB ?_
  | with_reducible refine w_inSign ?_
  | with_reducible refine w_ninSign ?_
  | with_reducible refine w_isBl ?_
  | with_reducible refine w_int1 ?_
  | with_reducible refine w_int1b ?_
  | with_reducible refine w_max2 ?_
  | with_reducible refine w_bm ?_
  | with_reducible refine w_lc ?_
  | with_reducible refine w_iList ?_
  | with_reducible refine w_iTup ?_
  | with_reducible refine w_iStr ?_
  | with_reducible refine w_exs ?_
  | with_reducible refine w_isN ?_
  | with_reducible refine w_notN ?_
  | ((with_reducible show tyV _ "str" (.str _) _ ∧ _); refine And.intro rfl ?_)
  | ((with_reducible show tyV _ "list" (.ref _) _ ∧ _); refine w_tyL (by walk_at "hp") ?_)
  | with_reducible refine w_min2 ?_
  | ((with_reducible show rIxL _ (.ref _) (.int _) _ _); refine w_ixL (by walk_at "sq") (by first | exact rfl | exact atI_nat (j := 0) rfl | exact atI_nat (j := 1) rfl | exact atI_nat (j := 2) rfl) ?_)
  | ((with_reducible show rIxT _ (.ref _) (.int _) _ _); refine w_ixT (by walk_at "sq") (by first | exact rfl | exact atI_nat (j := 0) rfl | exact atI_nat (j := 1) rfl | exact atI_nat (j := 2) rfl) ?_)
  | ((with_reducible show rSetL (.ref _) (.int _) _ _ _); refine w_setL (by walk_at "hp") (by exact rfl) ?_)
  | ((with_reducible show qLenSeq _ [.ref _] _ _); first | refine w_lenL (by walk_at "sq") ?_ | refine w_lenT (by walk_at "sq") ?_)
  | with_reducible refine w_nf ?_
  | with_reducible refine w_nt ?_
  | with_reducible refine iteT ?_
  | with_reducible refine iteF ?_
  | ((with_reducible refine w_len0 ?h ?_); (case h => exact sz (by simp))))
local macro_rules | `(tactic| walk_at "w") => `(tactic| repeat (walk_at "w1"))
local macro_rules | `(tactic| walk_at "if") => `(tactic| first
  | (with_reducible refine w_ite ?_ ?_) | (with_reducible refine w_iteN ?_ ?_) | (with_reducible refine w_iteb ?_ ?_))
/-- the same, new objects as heaps of their own -/
local macro_rules | `(tactic| walk_at "v1") => `(tactic| first
  | with_reducible refine w_tupV ?_
  | with_reducible refine w_lstV ?_
  | with_reducible refine w_jcons ?_
  | with_reducible refine w_jnil ?_
  | with_reducible refine w_fmt ?_
  | with_reducible refine w_js ?_
  | with_reducible refine w_zipM ?_
  | ((with_reducible refine w_dec1 (by decide) ?_))
  | ((with_reducible refine w_dec0 (by decide) ?_))
  | ((with_reducible show qJoin _ (.str _) [.ref _] _ _); first | refine w_joinL (by walk_at "sq") ?_ ?_ | refine w_joinT (by walk_at "sq") ?_ ?_)
  | with_reducible refine w_count ?_
  | ((with_reducible show rIn _ _ (.str _) (.ref _) _ _); first | refine w_inTb (b := true) (by walk_at "sq") rfl rfl (by decide +kernel) ?_ | refine w_inTb (b := false) (by walk_at "sq") rfl rfl (by decide +kernel) ?_ | refine w_inLb (b := true) (by walk_at "sq") rfl rfl (by decide +kernel) ?_ | refine w_inLb (b := false) (by walk_at "sq") rfl rfl (by decide +kernel) ?_)
  | walk_at "w1")
local macro_rules | `(tactic| walk_at "v") => `(tactic| repeat (walk_at "v1"))
local macro_rules | `(tactic| walk_at "dn") => `(tactic| first
  | assumption
  | (refine Dn.same ?_ (by assumption); walk_at "dn")
  | (refine Dn.kp ?_ (by assumption); walk_at "dn")
  | (refine Dn.any ?_; walk_at "dn"))
local macro_rules | `(tactic| walk_at "ln") => `(tactic| first
  | decide
  | omega
  | (simp only [List.length_append, List.length_map, List.length_cons, List.length_nil]; omega))
/-- the same, new objects without names, sums of texts, numbers as texts, append -/
local macro_rules | `(tactic| walk_at "z1") => `(tactic| first
  | ((with_reducible refine w_new ?_); intro _ _ _ _ _)
  | ((with_reducible show rAppend (.ref _) [_] _ _); refine w_appV (by walk_at "hp") (by walk_at "ln") ?_; intro _ _ _)
  | ((with_reducible show qAddS (.str _) (.str _) _ _); refine w_addS (sz (by simp only [Str.length_append]; omega)) ?_)
  | ((with_reducible show qStrInt [.int _] _ _); refine w_strInt (by omega) (by omega) ?_)
  | walk_at "v1")
local macro_rules | `(tactic| walk_at "z") => `(tactic| repeat (walk_at "z1"))
/-- statements alone, up to the first expression -/
local macro_rules | `(tactic| walk_at "s") => `(tactic| repeat (first
  | with_reducible refine w_seq ?_
  | with_reducible refine w_asg ?_
  | with_reducible refine w_name ?_
  | with_reducible refine w_next ?_
  | with_reducible refine w_c ?_
  | with_reducible refine w_ret ?_
  | with_reducible refine w_drop ?_
  | with_reducible refine w_ifS ?_
  | with_reducible refine w_test ?_))
/-- the same, and not into a test -/
local macro_rules | `(tactic| walk_at "b") => `(tactic| repeat (first
  | with_reducible refine w_seq ?_
  | with_reducible refine w_asg ?_
  | with_reducible refine w_name ?_
  | with_reducible refine w_next ?_
  | with_reducible refine w_c ?_
  | with_reducible refine w_ret ?_
  | with_reducible refine w_drop ?_))

/-- what is known of the class Roll at C -/
structure IsC_Roll (K : PySem.W.Frag) (C : Addr) : Prop where
  cl : Cls K C
  n_founder : NoAttr K C "founder"
  n_keeper : NoAttr K C "keeper"
  n_came : NoAttr K C "_came"
  n_limits : NoAttr K C "_limits"
/-- what is known of the class Letter at C -/
structure IsC_Letter (K : PySem.W.Frag) (C : Addr) : Prop where
  cl : Cls K C
  n_author : NoAttr K C "author"
  n_number : NoAttr K C "number"
  n_stamp : NoAttr K C "stamp"
  n_seen : NoAttr K C "seen"
  n_body : NoAttr K C "body"
  n_counts : NoAttr K C "_counts"
/-! ### the defs of the stream of draws -/
def spCell (K : PySem.W.Frag) : Sp := fun vs H Q _ => ∃ (a : Addr) (ns : List Int) (k : Int), vs = [.ref a, .int k] ∧ SqL K H a (ns.map V.int) ∧ 0 ≤ k ∧ ∀ z, Q (.int z) H
def spStream (K : PySem.W.Frag) : Sp := fun vs H Q _ => ∃ (c k : Int), vs = [.int c, .int k] ∧ ∀ p H', H p = none → Same H H' → Stm H' p → Q (.ref p) H'
def spNext (K : PySem.W.Frag) : Sp := fun vs H Q _ => ∃ (p : Addr) (n : Int), vs = [.ref p, .int n] ∧ Stm H p ∧ 0 < n ∧ n < 1073741824 ∧ ∀ v H', Kp p H H' → Stm H' p → 0 ≤ v → v < n → Q (.int v) H'
def spFlag (K : PySem.W.Frag) : Sp := fun vs H Q _ => ∃ (a b : Bool), vs = [.bl a, .bl b] ∧ Q (.bl (decide (a = b))) H
section
variable {K : PySem.W.Frag} {vs : List V} {H : Hp} {Q : VK} {E : XK}
/-- _law_stream: slots 0:cell 1:k 2:digits -/
def t__law_stream (K : PySem.W.Frag) : TS := (tSeq (tAsg (tC (.int 0)) (gName 2))
  (tSeq (tIfS (tTest (tOp qGe (tVar 0) (tOp qPow (tC (.int 10)) (tC (.int 18))))) (tAsg (tVar 0) (gName 2)) tNext)
  (tRet (tLst (tCons (tVar 2) (tCons (tOp qMod (tCB qInt1 (tCons (tOp qAdd (tOp qAdd (tOp qMul (tVar 0) (tC (.int 48271))) (tOp qMul (tVar 1) (tC (.int 69621)))) (tC (.int 77))) tNil)) (tC (.int 2147483647))) tNil))))))
theorem l__law_stream (h : spStream K vs H Q E) : vs.length = 2 := by obtain ⟨c, k, rfl, _⟩ := h; rfl
theorem r__law_stream (h : spStream K vs H Q E) : t__law_stream K { nx := fun _ H' => Q .non H', rt := Q } (start ["cell", "k", "digits"] vs) H := by
  obtain ⟨c, k, rfl, q⟩ := h
  unfold t__law_stream
  walk_at "w"
  refine w_ite (fun hc => ?_) (fun hc => ?_)
  · walk_at "w"
    intro p hp
    refine q p _ hp (Same.upd (Same.refl H) hp) ⟨_, _, upd_same, ?_, Int.emod_nonneg _ (by decide)⟩
    have e : (10 : Int) ^ (18 : Int).toNat = 1000000000000000000 := by decide
    omega
  · walk_at "w"
    intro p hp
    exact q p _ hp (Same.upd (Same.refl H) hp) ⟨_, _, upd_same, by decide, Int.emod_nonneg _ (by decide)⟩
/-- _law_next: slots 0:stream 1:size 2:drawn -/
def t__law_next (K : PySem.W.Frag) : TS := (tSeq (tIfS (tTest (tOp qGt (tOp (rIxL K) (tVar 0) (tC (.int 0))) (tC (.int 0)))) (tSeq (tAsg (tOp qMod (tCB qInt1 (tCons (tOp (rIxL K) (tVar 0) (tC (.int 0))) tNil)) (tVar 1)) (gName 2))
  (tSeq (tAsg (tOp qFdiv (tOp (rIxL K) (tVar 0) (tC (.int 0))) (tVar 1)) (gSub (tVar 0) (tC (.int 0)) rSetL))
  (tRet (tVar 2)))) tNext)
  (tSeq (tAsg (tOp qMod (tCB qInt1 (tCons (tOp qAdd (tOp qMul (tOp (rIxL K) (tVar 0) (tC (.int 1))) (tC (.int 48271))) (tC (.int 12820163))) tNil)) (tC (.int 2147483647))) (gSub (tVar 0) (tC (.int 1)) rSetL))
  (tRet (tOp qMod (tCB qInt1 (tCons (tOp qFdiv (tOp qMod (tCB qInt1 (tCons (tOp qAdd (tOp qMul (tOp (rIxL K) (tVar 0) (tC (.int 1))) (tC (.int 16807))) (tC (.int 5))) tNil)) (tC (.int 2147483399))) (tC (.int 3))) tNil)) (tVar 1)))))
theorem l__law_next (h : spNext K vs H Q E) : vs.length = 2 := by obtain ⟨c, k, rfl, _⟩ := h; rfl
theorem r__law_next (h : spNext K vs H Q E) : t__law_next K { nx := fun _ H' => Q .non H', rt := Q } (start ["stream", "size", "drawn"] vs) H := by
  obtain ⟨p, n, rfl, ⟨a, b, hp, h0, h1⟩, hn, hm, q⟩ := h
  unfold t__law_next
  walk_at "w"
  refine w_ite (fun hc => ?_) (fun hc => ?_)
  · walk_at "w"
    exact q _ _ (Kp.updp Kp.refl) ⟨_, _, upd_same, Int.ediv_nonneg h0 (by omega), h1⟩ (Int.emod_nonneg _ (Int.ne_of_gt hn)) (Int.emod_lt_of_pos _ hn)
  · walk_at "w"
    exact q _ _ (Kp.updp Kp.refl) ⟨_, _, upd_same, h0, Int.emod_nonneg _ (by decide)⟩ (Int.emod_nonneg _ (Int.ne_of_gt hn)) (Int.emod_lt_of_pos _ hn)
end

/-! ### draws inside expressions -/
section
variable {K : PySem.W.Frag} {σ : L2.St} {H : Hp} {p : Addr} {P : PyData → Prop} {R : List PyData → Prop} {ta : TA}
theorem evs_next {i : Nat} {n : Int} (hi : σ[i]? = some (some (.ref p))) (h0 : 0 < n) (h1 : n < 1073741824) : EvS p (tCall (spNext K) [] C8.E0 (tCons (tVar i) (tCons (tC (.int n)) tNil))) σ H (fun d => ∃ v : Int, d = .int v ∧ 0 ≤ v ∧ v < n) := fun H1 k s Q q =>
  ⟨.ref p, hi, p, n, rfl, s, h0, h1, fun v H2 k2 s2 a b => q (.int v) (.int v) H2 k2 s2 ⟨v, rfl, a, b⟩ (.int v)⟩
/-- (a, b, ..)[draw] -/
theorem evs_pickT {i : Nat} {n : Int} (ha : EvSs p ta σ H R) (hi : σ[i]? = some (some (.ref p))) (h0 : 0 < n) (h1 : n ≤ 1000) (hR : ∀ ds, R ds → (ds.length : Int) = n ∧ ∀ d ∈ ds, P d) :
    EvS p (tOp (rIxT K) (tTup ta) (tCall (spNext K) [] C8.E0 (tCons (tVar i) (tCons (tC (.int n)) tNil)))) σ H P := fun H1 k s Q q =>
  evs_tup (P := fun d => ∃ ds, d = .tuple ds ∧ R ds) ha (fun ds r => ⟨by have := (hR ds r).1; omega, ds, rfl, r⟩) H1 k s _ fun v d H2 k2 s2 hd dn => by
    obtain ⟨ds, rfl, r⟩ := hd
    cases dn with
    | @tup a xs _ hap h hs =>
      refine evs_next hi h0 (by omega) H2 (k.trans k2) s2 _ fun v d H3 k3 s3 hv dv => ?_
      obtain ⟨j, rfl, j0, j1⟩ := hv
      cases dv
      have hl := hs.len
      have hn := (hR ds r).1
      have hj : j.toNat < xs.length := by omega
      obtain ⟨d, hd, dn⟩ := hs.get (List.getElem?_eq_getElem hj)
      refine w_ixT (SqT.of (k3 _ _ hap h)) (atI_of j0 (List.getElem?_eq_getElem hj)) (q _ d H3 (k2.trans k3) s3 ((hR ds r).2 d (List.mem_of_getElem? hd)) (dn.kp k3))
/-- [a, b, ..][draw] -/
theorem evs_pickL {i : Nat} {n : Int} (ha : EvSs p ta σ H R) (hi : σ[i]? = some (some (.ref p))) (h0 : 0 < n) (h1 : n ≤ 1000) (hR : ∀ ds, R ds → (ds.length : Int) = n ∧ ∀ d ∈ ds, P d) :
    EvS p (tOp (rIxL K) (tLst ta) (tCall (spNext K) [] C8.E0 (tCons (tVar i) (tCons (tC (.int n)) tNil)))) σ H P := fun H1 k s Q q =>
  evs_lst (P := fun d => ∃ ds, d = .list ds ∧ R ds) ha (fun ds r => ⟨by have := (hR ds r).1; omega, ds, rfl, r⟩) H1 k s _ fun v d H2 k2 s2 hd dn => by
    obtain ⟨ds, rfl, r⟩ := hd
    cases dn with
    | @lst a xs _ hap h hs =>
      refine evs_next hi h0 (by omega) H2 (k.trans k2) s2 _ fun v d H3 k3 s3 hv dv => ?_
      obtain ⟨j, rfl, j0, j1⟩ := hv
      cases dv
      have hl := hs.len
      have hn := (hR ds r).1
      have hj : j.toNat < xs.length := by omega
      obtain ⟨d, hd, dn⟩ := hs.get (List.getElem?_eq_getElem hj)
      refine w_ixL (SqL.of (k3 _ _ hap h)) (atI_of j0 (List.getElem?_eq_getElem hj)) (q _ d H3 (k2.trans k3) s3 ((hR ds r).2 d (List.mem_of_getElem? hd)) (dn.kp k3))
/-- all of the parts, and how many -/
def Are (P : PyData → Prop) (n : Nat) (ds : List PyData) : Prop := ds.length = n ∧ ∀ d ∈ ds, P d
theorem are_nil : EvSs p tNil σ H (Are P 0) := evss_nil ⟨rfl, fun _ h => nomatch h⟩
theorem are_cons {te : TE} {n : Nat} (h : EvS p te σ H P) (hs : EvSs p ta σ H (Are P n)) : EvSs p (tCons te ta) σ H (Are P (n + 1)) :=
  evss_cons h hs fun d r hd hr => ⟨congrArg (· + 1) hr.1, fun x hx => (List.mem_cons.mp hx).elim (fun e => e ▸ hd) (hr.2 x)⟩
theorem are_pick {n : Nat} {m : Int} (e : (n : Int) = m) : ∀ ds, Are P n ds → (ds.length : Int) = m ∧ ∀ d ∈ ds, P d := fun ds h => ⟨by rw [h.1]; exact e, h.2⟩
/-- a number drawn -/
abbrev isInt (lo hi : Int) : PyData → Prop := fun d => ∃ v : Int, d = .int v ∧ lo ≤ v ∧ v ≤ hi
theorem evs_intIn {i lo hi : Int} (h1 : lo ≤ i) (h2 : i ≤ hi) : EvS p (tC (.int i)) σ H (isInt lo hi) := evs_int ⟨i, rfl, h1, h2⟩
theorem evs_nextIn {i : Nat} {n lo hi : Int} (hi' : σ[i]? = some (some (.ref p))) (h0 : 0 < n) (h1 : n < 1073741824) (hl : lo ≤ 0) (hh : n - 1 ≤ hi) : EvS p (tCall (spNext K) [] C8.E0 (tCons (tVar i) (tCons (tC (.int n)) tNil))) σ H (isInt lo hi) :=
  (evs_next hi' h0 h1).weak fun d ⟨v, e, a, b⟩ => ⟨v, e, by omega, by omega⟩
/-- 'abc'[draw] -/
theorem w_pickS {i : Nat} {n : Int} {z : Str} {Q : VK} (hs : Stm H p) (hi : σ[i]? = some (some (.ref p))) (h0 : 0 < n) (hz : (z.length : Int) = n) (h1 : n ≤ 1000) (q : ∀ c H2, c ∈ z.cps.toList → Kp p H H2 → Stm H2 p → Q (.str ⟨#[c]⟩) H2) :
    (tOp rIxS (tC (.str z)) (tCall (spNext K) [] C8.E0 (tCons (tVar i) (tCons (tC (.int n)) tNil)))) σ H Q := by
  refine (evs_next (K := K) (H := H) hi h0 (by omega)).use hs fun v d H2 k2 s2 hv dv => ?_
  obtain ⟨j, rfl, j0, j1⟩ := hv
  cases dv
  have hl : z.length = z.cps.toList.length := by simp [Str.length]
  have hj : j.toNat < z.cps.toList.length := by omega
  exact w_ixS (Nat.le_trans (show z.length ≤ 1000 by omega) (by decide)) (atI_of j0 (List.getElem?_eq_getElem hj)) (q _ H2 (List.getElem_mem hj) k2 s2)
theorem evss_eq {te : TE} {d : PyData} {r : List PyData} (h : EvS p te σ H (· = d)) (hs : EvSs p ta σ H (· = r)) : EvSs p (tCons te ta) σ H (· = d :: r) := evss_cons h hs fun _ _ a b => by rw [a, b]
theorem evss_eq0 : EvSs p tNil σ H (· = []) := evss_nil rfl
theorem evs_tupE {ds : List PyData} (h : EvSs p ta σ H (· = ds)) (hp : P (.tuple ds)) (hl : ds.length ≤ 100000 := by simp) : EvS p (tTup ta) σ H P := evs_tup h fun _ e => e ▸ ⟨hl, hp⟩
theorem evs_lstE {ds : List PyData} (h : EvSs p ta σ H (· = ds)) (hp : P (.list ds)) (hl : ds.length ≤ 100000 := by simp) : EvS p (tLst ta) σ H P := evs_lst h fun _ e => e ▸ ⟨hl, hp⟩
end

/-! ### further steps -/
local macro_rules | `(tactic| walk_at "case") => `(tactic| dsimp only [Bd.kind, Bd.text, Bd.rest, Bd.toD])
local macro_rules | `(tactic| walk_at "z1") => `(tactic| ((with_reducible show qAddS (.str _) (.str _) _ _); refine w_addS (sz (by first | omega | (simp only [Str.length_append]; omega))) ?_))
local macro_rules | `(tactic| walk_at "z1") => `(tactic| ((with_reducible show qJoin _ (.str _) [.ref _] _ _); first | refine w_joinT (by walk_at "sq") (by assumption) ?_ | refine w_joinL (by walk_at "sq") (by assumption) ?_))
/-- what stands off an address still stands -/
local macro_rules | `(tactic| walk_at "kp") => `(tactic| first
  | assumption
  | exact Kp.refl
  | (refine Kp.trans ?_ (by assumption); walk_at "kp")
  | (refine Kp.trans ?_ (Same.kp (by assumption)); walk_at "kp"))
local macro_rules | `(tactic| walk_at "fin") => `(tactic| first
  | (walk_at "hp"; done)
  | (refine Eq.trans (by walk_at "hp") ?_; first | rfl | (simp only [List.map_cons, List.map_nil, List.append_nil, List.append_assoc, List.cons_append, List.nil_append]; rfl)))
local macro_rules | `(tactic| walk_at "ln") => `(tactic| exact Nat.le_of_ble_eq_true rfl)

/-! ### == of data -/
mutual
def noDict : PyData → Bool
  | .dict _ => false
  | .list ds => noDicts ds
  | .tuple ds => noDicts ds
  | _ => true
def noDicts : List PyData → Bool
  | [] => true
  | d :: ds => noDict d && noDicts ds
end
section
variable {K : PySem.W.Frag} {ok : Addr → Prop} {H : Hp} {Q : VK}
mutual
theorem dn_dp {v : V} {d : PyData} (n : noDict d = true) : Dn ok H v d → Dp K H v d
  | .non => .non
  | .bl b => .bl b
  | .int i => .int i
  | .str x => .str x
  | .lst _ h hs => .lst (SqL.of h) (dnall_dp n hs)
  | .tup _ h hs => .tup (SqT.of h) (dnall_dp n hs)
  | .dic _ h => absurd n (by simp [noDict])
theorem dnall_dp {vs : List V} {ds : List PyData} (n : noDicts ds = true) : DnAll ok H vs ds → DpAll K H vs ds
  | .nil => .nil
  | .cons h hs => .cons (dn_dp (Bool.and_eq_true_iff.mp n).1 h) (dnall_dp (Bool.and_eq_true_iff.mp n).2 hs)
end
mutual
theorem noDict_of_lay : ∀ {d : PyData}, d.canLay0 = true → noDict d = true
  | .none, _ => rfl
  | .bool _, _ => rfl
  | .int _, _ => rfl
  | .str _, _ => rfl
  | .list ds, h => noDicts_of_lay (ds := ds) (by rw [PyData.canLay0] at h; exact h)
  | .tuple ds, h => noDicts_of_lay (ds := ds) (by rw [PyData.canLay0] at h; exact h)
  | .dict _, h => by rw [PyData.canLay0] at h; exact nomatch h
theorem noDicts_of_lay : ∀ {ds : List PyData}, PyData.canLayAll0 ds = true → noDicts ds = true
  | [], _ => rfl
  | d :: ds, h => by
    rw [PyData.canLayAll0, Bool.and_eq_true] at h
    show (noDict d && noDicts ds) = true
    rw [noDict_of_lay h.1, noDicts_of_lay h.2]
    rfl
end
theorem w_eqD {x y : V} {d e : PyData} {ok2 : Addr → Prop} (h : Dn ok H x d) (h2 : Dn ok2 H y e) (s : SeqAt.shaped d = true) (s2 : SeqAt.shaped e = true) (q : Q (.bl (PyData.eqv d e)) H) : rEqD K x y H Q :=
  ⟨d, e, dn_dp (noDict_of_lay (SeqAt.canLay_of_shaped s)) h, dn_dp (noDict_of_lay (SeqAt.canLay_of_shaped s2)) h2, s, s2, q⟩
theorem w_neD {x y : V} {d e : PyData} {ok2 : Addr → Prop} (h : Dn ok H x d) (h2 : Dn ok2 H y e) (s : SeqAt.shaped d = true) (s2 : SeqAt.shaped e = true) (q : Q (.bl (!PyData.eqv d e)) H) : rNeD K x y H Q :=
  ⟨d, e, dn_dp (noDict_of_lay (SeqAt.canLay_of_shaped s)) h, dn_dp (noDict_of_lay (SeqAt.canLay_of_shaped s2)) h2, s, s2, q⟩
theorem w_eqDs {x y : V} {d : PyData} {ok2 : Addr → Prop} (h : Dn ok H x d) (h2 : Dn ok2 H y d) (s : SeqAt.shaped d = true) (q : Q (.bl true) H) : rEqD K x y H Q :=
  w_eqD h h2 s s (by rw [SeqAt.eqv_refl d (SeqAt.canLay_of_shaped s)]; exact q)
theorem w_neDs {x y : V} {d : PyData} {ok2 : Addr → Prop} (h : Dn ok H x d) (h2 : Dn ok2 H y d) (s : SeqAt.shaped d = true) (q : Q (.bl false) H) : rNeD K x y H Q :=
  w_neD h h2 s s (by rw [SeqAt.eqv_refl d (SeqAt.canLay_of_shaped s)]; exact q)
/-- signs that are ASCII -/
def ascii (z : Str) : Bool := z.cps.toList.all fun c => decide (c < 1114112)
theorem strOk_of {z : Str} (h : ascii z = true) : PyData.strOk z = true := by
  unfold PyData.strOk
  rw [← Array.all_toList]
  exact h
theorem shaped_str {z : Str} (h : ascii z = true) : SeqAt.shaped (.str z) = true := by
  unfold SeqAt.shaped
  rw [PyData.canLay0, strOk_of h]
  rfl
end
/-! ### data that may be compared -/
/-- its texts are texts, no dicts, no deeper than k -/
def Lay (k : Nat) (d : PyData) : Prop := d.canLay0 = true ∧ d.depth ≤ k
theorem Lay.shaped {k : Nat} {d : PyData} (h : Lay k d) (hk : k ≤ 64 := by decide) : SeqAt.shaped d = true := by
  unfold SeqAt.shaped
  rw [h.1, decide_eq_true (Nat.le_trans h.2 hk)]
  rfl
theorem Lay.up {j k : Nat} {d : PyData} (h : Lay j d) (hk : j ≤ k := by decide) : Lay k d := ⟨h.1, Nat.le_trans h.2 hk⟩
theorem lay_int {k : Nat} {i : Int} : Lay k (.int i) := ⟨by rw [PyData.canLay0], by rw [PyData.depth]; exact Nat.zero_le _⟩
theorem lay_str {k : Nat} {z : Str} (h : ascii z = true) : Lay k (.str z) := ⟨by rw [PyData.canLay0, strOk_of h], by rw [PyData.depth]; exact Nat.zero_le _⟩
theorem lay_all : ∀ {k : Nat} {ds : List PyData}, (∀ d ∈ ds, Lay k d) → PyData.canLayAll0 ds = true ∧ PyData.depthAll ds ≤ k
  | k, [], _ => ⟨by rw [PyData.canLayAll0], by rw [PyData.depthAll]; exact Nat.zero_le _⟩
  | k, d :: ds, h => by
    have h1 := h d (List.mem_cons_self ..)
    have h2 := lay_all fun e he => h e (List.mem_cons_of_mem _ he)
    refine ⟨by rw [PyData.canLayAll0, h1.1, h2.1]; rfl, ?_⟩
    rw [PyData.depthAll]
    exact Nat.max_le.mpr ⟨h1.2, h2.2⟩
theorem lay_tup {k : Nat} {ds : List PyData} (h : ∀ d ∈ ds, Lay k d) : Lay (k + 1) (.tuple ds) :=
  ⟨by rw [PyData.canLay0]; exact (lay_all h).1, by rw [PyData.depth]; exact Nat.succ_le_succ (lay_all h).2⟩
theorem lay1 {k : Nat} {a : PyData} (h : Lay k a) : Lay (k + 1) (.tuple [a]) := lay_tup fun d hd => by
  rw [List.mem_singleton.mp hd]
  exact h
theorem lay2 {k : Nat} {a b : PyData} (h : Lay k a) (h2 : Lay k b) : Lay (k + 1) (.tuple [a, b]) := lay_tup fun d hd => by
  rcases List.mem_cons.mp hd with rfl | hd
  · exact h
  · rw [List.mem_singleton.mp hd]
    exact h2
theorem lay3 {k : Nat} {a b c : PyData} (h : Lay k a) (h2 : Lay k b) (h3 : Lay k c) : Lay (k + 1) (.tuple [a, b, c]) := lay_tup fun d hd => by
  rcases List.mem_cons.mp hd with rfl | hd
  · exact h
  rcases List.mem_cons.mp hd with rfl | hd
  · exact h2
  · rw [List.mem_singleton.mp hd]
    exact h3
theorem lay5 {k : Nat} {a b c e f : PyData} (h : Lay k a) (h2 : Lay k b) (h3 : Lay k c) (h4 : Lay k e) (h5 : Lay k f) : Lay (k + 1) (.tuple [a, b, c, e, f]) := lay_tup fun d hd => by
  rcases List.mem_cons.mp hd with rfl | hd
  · exact h
  rcases List.mem_cons.mp hd with rfl | hd
  · exact h2
  rcases List.mem_cons.mp hd with rfl | hd
  · exact h3
  rcases List.mem_cons.mp hd with rfl | hd
  · exact h4
  · rw [List.mem_singleton.mp hd]
    exact h5

/-! ### data of texts, numbers and tuples alone -/
mutual
def plainB : PyData → Bool
  | .int _ => true
  | .str _ => true
  | .tuple ds => plainAll ds
  | _ => false
def plainAll : List PyData → Bool
  | [] => true
  | d :: ds => plainB d && plainAll ds
end
theorem plainAll_of : ∀ {ds : List PyData}, (∀ d ∈ ds, plainB d = true) → plainAll ds = true
  | [], _ => rfl
  | d :: ds, h => by
    rw [plainAll, h d (List.mem_cons_self ..), plainAll_of fun x hx => h x (List.mem_cons_of_mem _ hx)]
    rfl
theorem plain_tup {ds : List PyData} (h : ∀ d ∈ ds, plainB d = true) : plainB (.tuple ds) = true := by
  rw [plainB]
  exact plainAll_of h
mutual
theorem eqv_plain : ∀ {x y : PyData}, plainB x = true → plainB y = true → PyData.eqv x y = true → x = y
  | .int i, .int j, _, _, e => by
    rw [PyData.eqv, beq_iff_eq] at e
    rw [e]
  | .str i, .str j, _, _, e => by
    rw [PyData.eqv, beq_iff_eq] at e
    rw [e]
  | .tuple xs, .tuple ys, hx, hy, e => by
    rw [PyData.eqv] at e
    rw [eqvAll_plain (by rw [plainB] at hx; exact hx) (by rw [plainB] at hy; exact hy) e]
  | .int _, .str _, _, _, e => by rw [PyData.eqv] at e; exact nomatch e
  | .int _, .tuple _, _, _, e => by rw [PyData.eqv] at e; exact nomatch e
  | .str _, .int _, _, _, e => by rw [PyData.eqv] at e; exact nomatch e
  | .str _, .tuple _, _, _, e => by rw [PyData.eqv] at e; exact nomatch e
  | .tuple _, .int _, _, _, e => by rw [PyData.eqv] at e; exact nomatch e
  | .tuple _, .str _, _, _, e => by rw [PyData.eqv] at e; exact nomatch e
theorem eqvAll_plain : ∀ {xs ys : List PyData}, plainAll xs = true → plainAll ys = true → PyData.eqvAll xs ys = true → xs = ys
  | [], [], _, _, _ => rfl
  | x :: xs, y :: ys, hx, hy, e => by
    rw [plainAll, Bool.and_eq_true] at hx hy
    rw [PyData.eqvAll, Bool.and_eq_true] at e
    rw [eqv_plain hx.1 hy.1 e.1, eqvAll_plain hx.2 hy.2 e.2]
  | [], _ :: _, _, _, e => by rw [PyData.eqvAll] at e; exact nomatch e
  | _ :: _, [], _, _, e => by rw [PyData.eqvAll] at e; exact nomatch e
end
/-- tuples stay (those whose objects are known too) -/
structure Tk (H H' : Hp) : Prop where
  t : ∀ b xs, H b = some (.tup xs) → H' b = some (.tup xs)
  z : ∀ b o xs, H b = some (.frz o (.tup xs)) → H' b = some (.frz o (.tup xs))
instance {H H' : Hp} : CoeFun (Tk H H') (fun _ => ∀ b xs, H b = some (.tup xs) → H' b = some (.tup xs)) := ⟨Tk.t⟩
theorem Tk.refl {H : Hp} : Tk H H := ⟨fun _ _ e => e, fun _ _ _ e => e⟩
theorem Tk.trans {H H1 H2 : Hp} (a : Tk H H1) (b : Tk H1 H2) : Tk H H2 := ⟨fun c xs e => b.t c xs (a.t c xs e), fun c o xs e => b.z c o xs (a.z c o xs e)⟩
theorem Tk.same {H H' : Hp} (s : Same H H') : Tk H H' := ⟨fun b xs e => s b _ e, fun b o xs e => s b _ e⟩
theorem Tk.kpL {p : Addr} {ys : List V} {H H' : Hp} (k : Kp p H H') (hp : H p = some (.lst ys)) : Tk H H' := ⟨fun b xs e => k b _ (fun z => by rw [z, hp] at e; cases e) e, fun b o xs e => k b _ (fun z => by rw [z, hp] at e; cases e) e⟩
theorem Tk.kpK {p : Addr} {kvs : List (L2.Key × V)} {H H' : Hp} (k : Kp p H H') (hp : H p = some (.dK kvs)) : Tk H H' := ⟨fun b xs e => k b _ (fun z => by rw [z, hp] at e; cases e) e, fun b o xs e => k b _ (fun z => by rw [z, hp] at e; cases e) e⟩
mutual
theorem dn_tk {ok : Addr → Prop} {H H' : Hp} (t : Tk H H') {v : V} : ∀ {d : PyData}, plainB d = true → Dn ok H v d → Dn ok H' v d
  | .int _, _, .int i => .int i
  | .str _, _, .str x => .str x
  | .tuple ds, hp, .tup ha h hs => .tup ha (t.t _ _ h) (dnall_tk t (by rw [plainB] at hp; exact hp) hs)
theorem dnall_tk {ok : Addr → Prop} {H H' : Hp} (t : Tk H H') {vs : List V} : ∀ {ds : List PyData}, plainAll ds = true → DnAll ok H vs ds → DnAll ok H' vs ds
  | [], _, .nil => .nil
  | d :: ds, hp, .cons h hs => .cons (dn_tk t (by rw [plainAll, Bool.and_eq_true] at hp; exact hp.1) h) (dnall_tk t (by rw [plainAll, Bool.and_eq_true] at hp; exact hp.2) hs)
end
/-! ### letters -/
def lfs (a : Str) (n s : Int) (sv bv : V) (d : Addr) : List (Str × V) := [("author", .str a), ("number", .int n), ("stamp", .int s), ("seen", sv), ("body", bv), ("_counts", .ref d)]
abbrev csV (ps : List (Str × Int)) : List (L2.Key × V) := ps.map fun p => (Sum.inr p.1, V.int p.2)
def pairD (p : Str × Int) : PyData := .tuple [.str p.1, .int p.2]
def seenD (ps : List (Str × Int)) : PyData := .tuple (ps.map pairD)
def cnt (ps : List (Str × Int)) (m : Str) : Int := match ps.find? (fun p => decide (p.1 = m)) with | some p => p.2 | none => 0
section
variable {K : PySem.W.Frag} {C : Addr} {H H' : Hp} {x : Addr} {a : Str} {n s : Int} {ps : List (Str × Int)} {sv bv : V} {d : Addr}
theorem lfs_author : (lfs a n s sv bv d).lookup ("author" : Str) = some (.str a) := by rfl
theorem lfs_number : (lfs a n s sv bv d).lookup ("number" : Str) = some (.int n) := by rfl
theorem lfs_stamp : (lfs a n s sv bv d).lookup ("stamp" : Str) = some (.int s) := by rfl
theorem lfs_seen : (lfs a n s sv bv d).lookup ("seen" : Str) = some sv := by rfl
theorem lfs_body : (lfs a n s sv bv d).lookup ("body" : Str) = some bv := by rfl
theorem lfs_counts : (lfs a n s sv bv d).lookup ("_counts" : Str) = some (.ref d) := by rfl
theorem lfs_count : (lfs a n s sv bv d).lookup ("count" : Str) = none := by rfl
theorem lfs_hasSeen : (lfs a n s sv bv d).lookup ("has_seen" : Str) = none := by rfl
theorem lfs_value : (lfs a n s sv bv d).lookup ("value" : Str) = none := by rfl
theorem lfs_put : putF "_counts" (.ref d) (putF "body" bv (putF "seen" sv (putF "stamp" (.int s) (putF "number" (.int n) (putF "author" (.str a) []))))) = lfs a n s sv bv d := by rfl
theorem csV_app (a b : List (Str × Int)) : csV (a ++ b) = csV a ++ csV b := List.map_append
theorem valV_cs (m : Str) : ∀ ps : List (Str × Int), valV (csV ps) (Sum.inr m) = (ps.find? fun p => decide (p.1 = m)).map fun p => V.int p.2
  | [] => rfl
  | p :: ps => by
    by_cases e : p.1 = m
    · rw [List.find?_cons, decide_eq_true e]
      exact valV_pos (congrArg Sum.inr e)
    · rw [List.find?_cons, decide_eq_false e]
      exact (valV_neg (fun z => e (Sum.inr.inj z))).trans (valV_cs m ps)
theorem getD_cnt (m : Str) : (valV (csV ps) (Sum.inr m)).getD (.int 0) = .int (cnt ps m) := by
  rw [valV_cs]
  unfold cnt
  cases ps.find? (fun p => decide (p.1 = m)) <;> rfl
theorem pairs_at {ok : Addr → Prop} : ∀ {ps : List (Str × Int)} {vs : List V}, DnAll ok H vs (ps.map pairD) → ∀ (i : Nat) (v : V), vs[i]? = some v → ∃ (p : Str × Int) (t : Addr), ps[i]? = some p ∧ v = .ref t ∧ H t = some (.tup [.str p.1, .int p.2])
  | [], _, h, i, v, e => by
    cases h
    exact nomatch e
  | p :: ps, _, h, i, v, e => by
    cases h with
    | cons h hs =>
      cases i with
      | zero =>
        cases Option.some.inj e
        cases h with
        | tup _ ht hx =>
          cases hx with
          | cons h1 hx =>
            cases h1
            cases hx with
            | cons h2 hx =>
              cases h2
              cases hx
              exact ⟨p, _, rfl, rfl, ht⟩
      | succ i =>
        obtain ⟨p, t, e1, e2, e3⟩ := pairs_at hs i v e
        exact ⟨p, t, e1, e2, e3⟩
end
/-! ### letters as records -/
structure Lt where
  a : Str
  n : Int
  s : Int
  ps : List (Str × Int)
  b : PyData
def valD (L : Lt) : PyData := .tuple [.str L.a, .int L.n, .int L.s, seenD L.ps, L.b]
def keyD (L : Lt) : PyData := .tuple [.int L.s, .str L.a]
structure Wf (L : Lt) : Prop where
  n1 : 1 ≤ L.n
  nd : (L.ps.map (·.1)).Nodup
  len : L.ps.length ≤ 100
  aa : ascii L.a = true
  pa : ∀ p ∈ L.ps, ascii p.1 = true
  lb : Lay 3 L.b
  pb : plainB L.b = true
theorem plain_seen (ps : List (Str × Int)) : plainB (seenD ps) = true := plain_tup fun d hd => by
  obtain ⟨p, _, rfl⟩ := List.mem_map.mp hd
  rfl
theorem Wf.plain {L : Lt} (w : Wf L) : plainB (valD L) = true := plain_tup fun d hd => by
  simp only [List.mem_cons, List.not_mem_nil, or_false] at hd
  rcases hd with rfl | rfl | rfl | rfl | rfl
  · rfl
  · rfl
  · rfl
  · exact plain_seen _
  · exact w.pb
theorem lay_seen {ps : List (Str × Int)} (h : ∀ p ∈ ps, ascii p.1 = true) : Lay 2 (seenD ps) := lay_tup fun d hd => by
  obtain ⟨p, hp, rfl⟩ := List.mem_map.mp hd
  exact lay2 (lay_str (h p hp)) lay_int
theorem Wf.lay {L : Lt} (w : Wf L) : Lay 4 (valD L) := lay5 (lay_str w.aa) lay_int lay_int (lay_seen w.pa).up w.lb
/-- what stands in a heap and may be read: tuples and objects stay, dicts at good places too -/
def Fm (ok : Addr → Prop) (H H' : Hp) : Prop := Tk H H' ∧ (∀ b C dx fs, H b = some (.ins C dx fs) → H' b = some (.ins C dx fs)) ∧ ∀ b kvs, H b = some (.dK kvs) → ok b → H' b = some (.dK kvs)
theorem Fm.refl {ok : Addr → Prop} {H : Hp} : Fm ok H H := ⟨Tk.refl, fun _ _ _ _ e => e, fun _ _ e _ => e⟩
theorem Fm.trans {ok : Addr → Prop} {H H1 H2 : Hp} (a : Fm ok H H1) (b : Fm ok H1 H2) : Fm ok H H2 := ⟨a.1.trans b.1, fun c C dx fs e => b.2.1 c C dx fs (a.2.1 c C dx fs e), fun c kvs e o => b.2.2 c kvs (a.2.2 c kvs e o) o⟩
theorem Fm.same {ok : Addr → Prop} {H H' : Hp} (s : Same H H') : Fm ok H H' := ⟨Tk.same s, fun b _ _ _ e => s b _ e, fun b _ e _ => s b _ e⟩
theorem Fm.kpL {ok : Addr → Prop} {p : Addr} {ys : List V} {H H' : Hp} (k : Kp p H H') (hp : H p = some (.lst ys)) : Fm ok H H' :=
  ⟨Tk.kpL k hp, fun b _ _ _ e => k b _ (fun z => by rw [z, hp] at e; cases e) e, fun b _ e _ => k b _ (fun z => by rw [z, hp] at e; cases e) e⟩
theorem Fm.stm {ok : Addr → Prop} {p : Addr} {H H' : Hp} (k : Kp p H H') (s : Stm H p) : Fm ok H H' := by
  obtain ⟨a, b, h, _⟩ := s
  exact Fm.kpL k h
theorem Fm.kpD {p : Addr} {kvs : List (L2.Key × V)} {H H' : Hp} (k : Kp p H H') (hp : H p = some (.dK kvs)) : Fm (Off p) H H' :=
  ⟨Tk.kpK k hp, fun b C dx fs e => k b _ (fun z => by rw [z, hp] at e; cases e) e, fun b _ e n => k b _ n e⟩
mutual
theorem noDict_plain : ∀ {d : PyData}, plainB d = true → noDict d = true
  | .int _, _ => rfl
  | .str _, _ => rfl
  | .tuple ds, h => noDicts_plain (ds := ds) (by rw [plainB] at h; exact h)
theorem noDicts_plain : ∀ {ds : List PyData}, plainAll ds = true → noDicts ds = true
  | [], _ => rfl
  | d :: ds, h => by
    rw [plainAll, Bool.and_eq_true] at h
    show (noDict d && noDicts ds) = true
    rw [noDict_plain h.1, noDicts_plain h.2]
    rfl
end
/-- what a letter has seen: a tuple whose object is known -/
def Sv (H : Hp) (sv : V) (ps : List (Str × Int)) : Prop := ∃ (t : Addr) (Ts : List V), sv = .ref t ∧ TupZ H t Ts ∧ DnAll Any H Ts (ps.map pairD)
theorem plainAll_pairs (ps : List (Str × Int)) : plainAll (ps.map pairD) = true := plainAll_of fun d hd => by
  obtain ⟨p, _, rfl⟩ := List.mem_map.mp hd
  rfl
theorem Sv.tk {H H' : Hp} {sv : V} {ps : List (Str × Int)} (h : Sv H sv ps) (t : Tk H H') : Sv H' sv ps := by
  obtain ⟨a, Ts, e, ⟨o, d, eo⟩, dn⟩ := h
  exact ⟨a, Ts, e, ⟨o, d, t.z _ _ _ eo⟩, dnall_tk t (plainAll_pairs ps) dn⟩
theorem Sv.dp {K : PySem.W.Frag} {H : Hp} {sv : V} {ps : List (Str × Int)} (h : Sv H sv ps) : Dp K H sv (seenD ps) := by
  obtain ⟨a, Ts, rfl, t, dn⟩ := h
  exact .tup t.sq (dnall_dp (noDicts_plain (plainAll_pairs ps)) dn)
theorem Sv.same {H H' : Hp} {sv : V} {ps : List (Str × Int)} (h : Sv H sv ps) (s : Same H H') : Sv H' sv ps := h.tk (Tk.same s)
def LtAt (ok : Addr → Prop) (C : Addr) (H : Hp) (x : Addr) (L : Lt) : Prop := ∃ dx d sv bv, H x = some (.ins C dx (lfs L.a L.n L.s sv bv d)) ∧ ok d ∧ H d = some (.dK (csV L.ps)) ∧ Sv H sv L.ps ∧ Dn Any H bv L.b
theorem LtAt.fm {ok : Addr → Prop} {C x : Addr} {H H' : Hp} {L : Lt} (h : LtAt ok C H x L) (w : Wf L) (f : Fm ok H H') : LtAt ok C H' x L := by
  obtain ⟨dx, d, sv, bv, h1, h2, h3, h4, h5⟩ := h
  exact ⟨dx, d, sv, bv, f.2.1 _ _ _ _ h1, h2, f.2.2 _ _ h3 h2, h4.tk f.1, dn_tk f.1 w.pb h5⟩
theorem LtAt.same {ok : Addr → Prop} {C x : Addr} {H H' : Hp} {L : Lt} (h : LtAt ok C H x L) (s : Same H H') : LtAt ok C H' x L := by
  obtain ⟨dx, d, sv, bv, h1, h2, h3, h4, h5⟩ := h
  exact ⟨dx, d, sv, bv, s _ _ h1, h2, s _ _ h3, h4.same s, h5.same s⟩
theorem LtAt.any {ok : Addr → Prop} {C x : Addr} {H : Hp} {L : Lt} (h : LtAt ok C H x L) : LtAt Any C H x L := by
  obtain ⟨dx, d, sv, bv, h1, h2, h3⟩ := h
  exact ⟨dx, d, sv, bv, h1, trivial, h3⟩
/-- lists of letters -/
abbrev lsV (ls : List (Addr × Lt)) : List V := ls.map fun y => V.ref y.1
def LsOk (ok : Addr → Prop) (C : Addr) (H : Hp) (ls : List (Addr × Lt)) : Prop := ∀ y ∈ ls, LtAt ok C H y.1 y.2 ∧ Wf y.2
theorem LsOk.fm {ok : Addr → Prop} {C : Addr} {H H' : Hp} {ls : List (Addr × Lt)} (h : LsOk ok C H ls) (f : Fm ok H H') : LsOk ok C H' ls := fun y hy => ⟨(h y hy).1.fm (h y hy).2 f, (h y hy).2⟩
theorem LsOk.same {ok : Addr → Prop} {C : Addr} {H H' : Hp} {ls : List (Addr × Lt)} (h : LsOk ok C H ls) (s : Same H H') : LsOk ok C H' ls := h.fm (Fm.same s)
theorem LsOk.any {ok : Addr → Prop} {C : Addr} {H : Hp} {ls : List (Addr × Lt)} (h : LsOk ok C H ls) : LsOk Any C H ls := fun y hy => ⟨(h y hy).1.any, (h y hy).2⟩
theorem LsOk.app {ok : Addr → Prop} {C : Addr} {H : Hp} {ls ms : List (Addr × Lt)} (h : LsOk ok C H ls) (k : LsOk ok C H ms) : LsOk ok C H (ls ++ ms) := fun y hy => (List.mem_append.mp hy).elim (h y) (k y)
theorem LsOk.sub {ok : Addr → Prop} {C : Addr} {H : Hp} {ls ms : List (Addr × Lt)} (h : LsOk ok C H ls) (k : ∀ y ∈ ms, y ∈ ls) : LsOk ok C H ms := fun y hy => h y (k y hy)
theorem LsOk.get {ok : Addr → Prop} {C : Addr} {H : Hp} {ls : List (Addr × Lt)} (h : LsOk ok C H ls) {i : Nat} {y : Addr × Lt} (e : ls[i]? = some y) : LtAt ok C H y.1 y.2 ∧ Wf y.2 := h y (List.mem_of_getElem? e)
def spInit (K : PySem.W.Frag) (C : Addr) : Sp := fun vs H Q _ => ∃ (x dx : Addr) (a : Str) (n s : Int) (ps : List (Str × Int)) (sv bv : V), vs = [.ref x, .str a, .int n, .int s, sv, bv] ∧ H x = some (.ins C dx []) ∧ Sv H sv ps ∧ (ps.map (·.1)).Nodup ∧ ps.length ≤ 1000 ∧
  ∀ H' d, H d = none → Kp x H H' → H' x = some (.ins C dx (lfs a n s sv bv d)) → H' d = some (.dK (csV ps)) → Q .non H'
def spRefP (K : PySem.W.Frag) (C : Addr) : Sp := fun vs H Q _ => ∃ (x : Addr) (L : Lt), vs = [.ref x] ∧ LtAt Any C H x L ∧ ∀ t H', H t = none → Same H H' → H' t = some (.tup [.str L.a, .int L.n]) → Q (.ref t) H'
def spKeyP (K : PySem.W.Frag) (C : Addr) : Sp := fun vs H Q _ => ∃ (x : Addr) (L : Lt), vs = [.ref x] ∧ LtAt Any C H x L ∧ ∀ t H', H t = none → Same H H' → H' t = some (.tup [.int L.s, .str L.a]) → Q (.ref t) H'
def spValue (K : PySem.W.Frag) (C : Addr) : Sp := fun vs H Q _ => ∃ (x : Addr) (L : Lt), vs = [.ref x] ∧ LtAt Any C H x L ∧ plainB L.b = true ∧ ∀ v H', Same H H' → Dp K H' v (valD L) → Q v H'
def spCount (K : PySem.W.Frag) (C : Addr) : Sp := fun vs H Q _ => ∃ (x : Addr) (m : Str) (L : Lt), vs = [.ref x, .str m] ∧ LtAt Any C H x L ∧ Q (.int (cnt L.ps m)) H
section
variable {K : PySem.W.Frag} {C : Addr} {vs : List V} {H : Hp} {Q : VK} {E : XK}
theorem w_fldV {i : Nat} {σ : L2.St} {f : Str} {x dx : Addr} {fs : List (Str × V)} {v : V} (hi : σ[i]? = some (some (.ref x))) (h : H x = some (.ins C dx fs)) (c : Cls K C) (nn : NoAttr K C f) (l : fs.lookup f = some v) (q : Q v H) : tFld K (tVar i) f σ H Q :=
  ⟨_, hi, x, C, dx, fs, v, rfl, h, c, nn, l, q⟩
theorem w_methV {i : Nat} {σ : L2.St} {m : Str} {x dx : Addr} {fs : List (Str × V)} {sp : Sp} {dvs : List V} {E : XK} {t : TA} (hi : σ[i]? = some (some (.ref x))) (h : H x = some (.ins C dx fs)) (l : fs.lookup m = none) (q : t σ H fun vs H2 => sp (.ref x :: (vs ++ dvs)) H2 Q E) : tMeth C m sp dvs E (tVar i) t σ H Q :=
  ⟨_, hi, x, dx, fs, rfl, h, l, q⟩
theorem w_propV {i : Nat} {σ : L2.St} {x dx : Addr} {fs : List (Str × V)} {sp : Sp} {dvs : List V} {E : XK} (hi : σ[i]? = some (some (.ref x))) (h : H x = some (.ins C dx fs)) (q : sp (.ref x :: dvs) H Q E) : tProp C sp dvs E (tVar i) σ H Q :=
  ⟨_, hi, x, dx, fs, rfl, h, q⟩
/-- Letter_ref: slots 0:self -/
def t_Letter_ref (K : PySem.W.Frag) (C_Letter : Addr) : TS := (tRet (tTup (tCons (tFld K (tVar 0) "author") (tCons (tFld K (tVar 0) "number") tNil))))
theorem l_Letter_ref (h : spRefP K C vs H Q E) : vs.length = 1 := by obtain ⟨x, L, rfl, _⟩ := h; rfl
theorem r_Letter_ref (LC : IsC_Letter K C) (h : spRefP K C vs H Q E) : t_Letter_ref K C { nx := fun _ H' => Q .non H', rt := Q } (start ["self"] vs) H := by
  obtain ⟨x, L, rfl, ⟨dx, d, sv, bv, hx, _, hd, _⟩, q⟩ := h
  unfold t_Letter_ref
  walk_at "v"
  refine w_fldV rfl hx LC.cl LC.n_author lfs_author ?_
  walk_at "v"
  refine w_fldV rfl hx LC.cl LC.n_number lfs_number ?_
  walk_at "v"
  exact w_new q
/-- Letter_count: slots 0:self 1:name -/
def t_Letter_count (K : PySem.W.Frag) (C_Letter : Addr) : TS := (tRet (tDGet2 (tFld K (tVar 0) "_counts") (tVar 1) (tC (.int 0))))
theorem l_Letter_count (h : spCount K C vs H Q E) : vs.length = 2 := by obtain ⟨x, m, L, rfl, _⟩ := h; rfl
theorem r_Letter_count (LC : IsC_Letter K C) (h : spCount K C vs H Q E) : t_Letter_count K C { nx := fun _ H' => Q .non H', rt := Q } (start ["self", "name"] vs) H := by
  obtain ⟨x, m, L, rfl, ⟨dx, d, sv, bv, hx, _, hd, _⟩, q⟩ := h
  unfold t_Letter_count
  walk_at "w"
  refine w_dget2 ?_
  refine w_fldV rfl hx LC.cl LC.n_counts lfs_counts ?_
  refine ⟨d, rfl, .inl ⟨_, .inl hd⟩, ?_⟩
  walk_at "w"
  refine ⟨_, DGet.k (k := Sum.inr m) hd, ?_⟩
  rw [getD_cnt]
  exact q
/-- Letter___init__: slots 0:self 1:author 2:number 3:stamp 4:seen 5:body 6:name 7:count -/
def t_Letter___init__ (K : PySem.W.Frag) (C_Letter : Addr) : TS := (tSeq (sFld K (tVar 0) (tVar 1) "author")
  (tSeq (sFld K (tVar 0) (tVar 2) "number")
  (tSeq (sFld K (tVar 0) (tVar 3) "stamp")
  (tSeq (sFld K (tVar 0) (tVar 4) "seen")
  (tSeq (sFld K (tVar 0) (tVar 5) "body")
  (sFld K (tVar 0) (tDc (iTup K (tVar 4)) (gTup K 2 (gCons (gName 6) (gCons (gName 7) gNil))) tYes (tVar 6) (tVar 7) [6, 7]) "_counts"))))))
theorem l_Letter___init__ (h : spInit K C vs H Q E) : vs.length = 6 := by obtain ⟨x, dx, a, n, s, ps, sv, bv, rfl, _⟩ := h; rfl
theorem r_Letter___init__ (LC : IsC_Letter K C) (h : spInit K C vs H Q E) : t_Letter___init__ K C { nx := fun _ H' => Q .non H', rt := Q } (start ["self", "author", "number", "stamp", "seen", "body", "name", "count"] vs) H := by
  obtain ⟨x, dx, a, n, s, ps, sv, bv, rfl, hx, hsv, hnd, hlen, q⟩ := h
  unfold t_Letter___init__
  walk_at "w"
  refine w_sfld (w_var rfl (w_var rfl ⟨x, C, dx, _, rfl, hx, LC.cl, LC.n_author, (show 0 < 1000 by decide), ?_⟩))
  walk_at "w"
  refine w_sfld (w_var rfl (w_var rfl ⟨x, C, dx, _, rfl, upd_same, LC.cl, LC.n_number, (show 1 < 1000 by decide), ?_⟩))
  walk_at "w"
  refine w_sfld (w_var rfl (w_var rfl ⟨x, C, dx, _, rfl, upd_same, LC.cl, LC.n_stamp, (show 2 < 1000 by decide), ?_⟩))
  walk_at "w"
  refine w_sfld (w_var rfl (w_var rfl ⟨x, C, dx, _, rfl, upd_same, LC.cl, LC.n_seen, (show 3 < 1000 by decide), ?_⟩))
  walk_at "w"
  refine w_sfld (w_var rfl (w_var rfl ⟨x, C, dx, _, rfl, upd_same, LC.cl, LC.n_body, (show 4 < 1000 by decide), ?_⟩))
  walk_at "w"
  have kx : ∀ {G : Hp} {o : HO}, Kp x H G → Kp x H (upd G x o) := fun k => k.updp
  have k5 := kx (o := .ins C dx (putF "body" bv (putF "seen" sv (putF "stamp" (.int s) (putF "number" (.int n) (putF "author" (.str a) [])))))) (kx (o := .ins C dx (putF "seen" sv (putF "stamp" (.int s) (putF "number" (.int n) (putF "author" (.str a) []))))) (kx (o := .ins C dx (putF "stamp" (.int s) (putF "number" (.int n) (putF "author" (.str a) [])))) (kx (o := .ins C dx (putF "number" (.int n) (putF "author" (.str a) []))) (kx (o := .ins C dx (putF "author" (.str a) [])) Kp.refl))))
  have h5 : (upd (upd (upd (upd (upd H x (.ins C dx (putF "author" (.str a) []))) x (.ins C dx (putF "number" (.int n) (putF "author" (.str a) [])))) x (.ins C dx (putF "stamp" (.int s) (putF "number" (.int n) (putF "author" (.str a) []))))) x (.ins C dx (putF "seen" sv (putF "stamp" (.int s) (putF "number" (.int n) (putF "author" (.str a) [])))))) x (.ins C dx (putF "body" bv (putF "seen" sv (putF "stamp" (.int s) (putF "number" (.int n) (putF "author" (.str a) []))))))) x = some (.ins C dx (putF "body" bv (putF "seen" sv (putF "stamp" (.int s) (putF "number" (.int n) (putF "author" (.str a) [])))))) := upd_same
  revert k5 h5
  generalize (upd (upd (upd (upd (upd H x (.ins C dx (putF "author" (.str a) []))) x (.ins C dx (putF "number" (.int n) (putF "author" (.str a) [])))) x (.ins C dx (putF "stamp" (.int s) (putF "number" (.int n) (putF "author" (.str a) []))))) x (.ins C dx (putF "seen" sv (putF "stamp" (.int s) (putF "number" (.int n) (putF "author" (.str a) [])))))) x (.ins C dx (putF "body" bv (putF "seen" sv (putF "stamp" (.int s) (putF "number" (.int n) (putF "author" (.str a) []))))))) = H5
  intro k5 h5
  have tk5 : Tk H H5 := ⟨fun b xs e => k5 b _ (fun z => by rw [z, hx] at e; cases e) e, fun b o xs e => k5 b _ (fun z => by rw [z, hx] at e; cases e) e⟩
  obtain ⟨ta, xs, rfl, ht, hxs⟩ := hsv.tk tk5
  obtain ⟨oz, dz, hz⟩ := id ht
  · have hxl : xs.length = ps.length := by rw [hxs.len, List.length_map]
    show sFld K (tVar 0) (tDc (iTup K (tVar 4)) (gTup K 2 (gCons (gName 6) (gCons (gName 7) gNil))) tYes (tVar 6) (tVar 7) [6, 7]) "_counts" _ _ _
    refine w_sfld ?_
    show iTup K (tVar 4) _ _ _
    refine w_iTup (w_var rfl ⟨ta, rfl, ⟨_, ht.sq⟩, fun D hD => ?_⟩)
    refine dc_tup (fun i H' => (∀ b o, b ≠ D → H5 b = some o → H' b = some o) ∧ H' D = some (.dK (csV (ps.take i)))) ⟨fun b o nb e => by rw [upd_ne nb]; exact e, upd_same⟩ (fun i H' _ pv => TupZ.sq ⟨oz, dz, pv.1 _ _ (ne_of_none hz hD) hz⟩) (fun i v H' hv pv => ?_) (fun H' pv => ?_)
    · obtain ⟨p, t, e1, rfl, e3⟩ := pairs_at hxs i v hv
      refine ⟨t, _, rfl, SqT.of (pv.1 _ _ (ne_of_none e3 hD) e3), rfl, gc (w_name (gc (w_name (gn ⟨rfl, ?_⟩))))⟩
      refine w_yes ?_
      refine iteT_ ?_
      refine w_var rfl (w_var rfl ⟨_, Sum.inr p.1, rfl, pv.2, ?_, fun b o nb e => by rw [upd_ne nb]; exact pv.1 b o nb e, ?_⟩)
      · rw [List.length_map, List.length_take]
        exact Nat.lt_of_le_of_lt (show min i ps.length ≤ 1000 by omega) (by decide)
      · have hi : i < ps.length := (List.getElem?_eq_some_iff.mp e1).1
        have hp : ps[i] = p := (List.getElem?_eq_some_iff.mp e1).2
        have hnone : valV (csV (ps.take i)) (Sum.inr p.1) = none := by
          rw [valV_cs]
          have : (ps.take i).find? (fun q => decide (q.1 = p.1)) = none := by
            rw [List.find?_eq_none]
            intro q hq e
            have e := of_decide_eq_true e
            obtain ⟨j, hj⟩ := List.mem_iff_getElem?.mp hq
            rw [List.getElem?_take] at hj
            split at hj
            · rename_i hji
              have h1 : (ps.map (·.1))[j]? = some p.1 := by rw [List.getElem?_map, hj]; exact congrArg some e
              have h2 : (ps.map (·.1))[i]? = some p.1 := by rw [List.getElem?_map, e1]; rfl
              have := (List.getElem?_inj (by rw [List.length_map]; omega) hnd).mp (h1.trans h2.symm)
              omega
            · exact nomatch hj
          rw [this]
          rfl
        rw [upd_same, putK_new _ hnone, List.take_add_one, e1, csV_app]
        rfl
    · obtain ⟨p1, p2⟩ := pv
      have nx : D ≠ x := fun e => by
        subst e
        rw [h5] at hD
        cases hD
      have hx' := p1 x _ nx.symm h5
      rw [hxl, List.take_length] at p2
      refine w_var rfl ⟨x, C, dx, _, rfl, hx', LC.cl, LC.n_counts, (show 5 < 1000 by decide), ?_⟩
      rw [lfs_put]
      refine q _ D (k5.free nx hD) (fun b o nb e => ?_) upd_same (by rw [upd_ne nx]; exact p2)
      rw [upd_ne nb]
      have e5 := k5 b o nb e
      exact p1 b o (ne_of_none e5 hD) e5
end

/-! ### shared steps -/
section
variable {K : PySem.W.Frag} {C CL : Addr} {vs : List V} {H : Hp} {Q : VK} {E : XK} {σ : L2.St} {D : Ends} {td ty : TE} {tt : TT}
theorem same_none {H H' : Hp} {a : Addr} (s : Same H H') (h : H' a = none) : H a = none := by
  cases e : H a with
  | none => rfl
  | some o => rw [s _ _ e] at h; cases h
theorem Same.kp0 {H0 H H' : Hp} {p : Addr} (s : Same H0 H) (k : Kp p H H') (n : H0 p = none) : Same H0 H' := fun b o e => k b o (ne_of_none e n) (s _ _ e)
theorem Fm.kpK {ok : Addr → Prop} {p : Addr} {o : HO} {H H' : Hp} (k : Kp p H H') (hp : H p = some o) (n1 : ∀ xs, o ≠ .tup xs) (n2 : ∀ C dx fs, o ≠ .ins C dx fs) (n3 : ∀ kvs, o ≠ .dK kvs) (n4 : ∀ u xs, o ≠ .frz u (.tup xs)) : Fm ok H H' :=
  ⟨⟨fun b xs e => k b _ (fun z => by rw [z, hp] at e; exact n1 _ (Option.some.inj e)) e, fun b u xs e => k b _ (fun z => by rw [z, hp] at e; exact n4 _ _ (Option.some.inj e)) e⟩, fun b C dx fs e => k b _ (fun z => by rw [z, hp] at e; exact n2 _ _ _ (Option.some.inj e)) e, fun b _ e _ => k b _ (fun z => by rw [z, hp] at e; exact n3 _ (Option.some.inj e)) e⟩
theorem ne_kind {b p : Addr} {o u : HO} (e : H b = some o) (hp : H p = some u) (n : o = u → False) : b ≠ p := fun z => by
  rw [z, hp] at e
  exact n (Option.some.inj e).symm
theorem cutV_to {xs : List V} {j : Nat} (h : j ≤ xs.length) : cutV xs none (some (j : Int)) = xs.take j := by
  unfold cutV
  rw [HT.sIx_none, HT.sIx_nat, Nat.min_eq_left h]
  rfl
theorem cutV_from {xs : List V} {i : Nat} (h : i ≤ xs.length) : cutV xs (some (i : Int)) none = xs.drop i := by
  unfold cutV
  rw [HT.sIx_none, HT.sIx_nat, Nat.min_eq_left h, ← List.length_drop, List.take_length]
theorem lay_list {k : Nat} {ds : List PyData} (h : ∀ d ∈ ds, Lay k d) : Lay (k + 1) (.list ds) :=
  ⟨by rw [PyData.canLay0]; exact (lay_all h).1, by rw [PyData.depth]; exact Nat.succ_le_succ (lay_all h).2⟩
theorem lay_vals {ls : List (Addr × Lt)} (h : ∀ y ∈ ls, Wf y.2) : SeqAt.shaped (.list (ls.map fun y => valD y.2)) = true := (lay_list (k := 4) fun d hd => by
  obtain ⟨y, hy, rfl⟩ := List.mem_map.mp hd
  exact (h y hy).lay).shaped
theorem stm_ne {H : Hp} {a p : Addr} {ls : List (Addr × Lt)} (s : Stm H p) (e : H a = some (.lst (lsV ls))) : a ≠ p := fun z => by
  obtain ⟨x, y, h, _⟩ := s
  rw [z, h] at e
  cases ls with
  | nil => cases e
  | cons o ls =>
    injection e with e
    injection e with e
    have : V.int x = V.ref o.1 := (List.cons.inj e).1
    exact nomatch this
theorem ixN_at {n j : Nat} (hj : j < n) : ixN n (j : Int) = some j := by
  unfold ixN
  rw [if_pos (by omega), if_pos (by omega)]
  simp
theorem lsV_app (a b : List (Addr × Lt)) : lsV (a ++ b) = lsV a ++ lsV b := List.map_append
theorem lsV_take (a : List (Addr × Lt)) (n : Nat) : (lsV a).take n = lsV (a.take n) := List.map_take.symm
theorem lsV_drop (a : List (Addr × Lt)) (n : Nat) : (lsV a).drop n = lsV (a.drop n) := List.map_drop.symm
theorem lsV_len (a : List (Addr × Lt)) : (lsV a).length = a.length := List.length_map _
theorem dn_made2 {ok : Addr → Prop} {C x dx : Addr} {H : Hp} {o : HO} {v : V} {d : PyData} (h : Dn ok H v d) (hx : H x = none) (hdx : H dx = none) (fs : List (Str × V)) : Dn (Off x) (upd (upd H dx o) x (.ins C dx fs)) v d :=
  (h.any.off hx).kp ((Kp.upd Kp.refl hdx).updp)
theorem stm_kp {q p : Addr} {H H' : Hp} (s : Stm H p) (k : Kp q H H') (n : p ≠ q) : Stm H' p := by
  obtain ⟨x, y, e, r⟩ := s
  exact ⟨x, y, k _ _ n e, r⟩
/-! ### a dict of counts -/
structure DI (cs : List (L2.Key × V)) (ks : List Str) (f : Str → Int) : Prop where
  keys : cs.map (·.1) = ks.map Sum.inr
  nd : ks.Nodup
  val : ∀ a, valV cs (Sum.inr a) = if a ∈ ks then some (.int (f a)) else none
def cv (ks : List Str) (f : Str → Int) (a : Str) : Int := if a ∈ ks then f a else 0
theorem DI.nil {f : Str → Int} : DI [] [] f := ⟨rfl, List.nodup_nil, fun _ => rfl⟩
theorem DI.len {cs : List (L2.Key × V)} {ks : List Str} {f : Str → Int} (h : DI cs ks f) : cs.length = ks.length := by
  have := congrArg List.length h.keys
  rw [List.length_map, List.length_map] at this
  exact this
theorem DI.getD {cs : List (L2.Key × V)} {ks : List Str} {f : Str → Int} (h : DI cs ks f) (a : Str) : (valV cs (Sum.inr a)).getD (.int 0) = .int (cv ks f a) := by
  rw [h.val]
  unfold cv
  split <;> rfl
theorem DI.has {cs : List (L2.Key × V)} {ks : List Str} {f : Str → Int} (h : DI cs ks f) {a : Str} (m : a ∈ ks) : valV cs (Sum.inr a) = some (.int (f a)) := by
  rw [h.val, if_pos m]
theorem DI.at_ {cs : List (L2.Key × V)} {ks : List Str} {f : Str → Int} (h : DI cs ks f) {i : Nat} {k : L2.Key} {v : V} (e : cs[i]? = some (k, v)) : ∃ a, ks[i]? = some a ∧ k = Sum.inr a := by
  have h1 : (cs.map (·.1))[i]? = some k := by rw [List.getElem?_map, e]; rfl
  rw [h.keys, List.getElem?_map] at h1
  obtain ⟨a, ha, rfl⟩ := Option.map_eq_some_iff.mp h1
  exact ⟨a, ha, rfl⟩
theorem DI.putNew {cs : List (L2.Key × V)} {ks : List Str} {f : Str → Int} (h : DI cs ks f) {a : Str} (n : a ∉ ks) (v : Int) : DI (putK cs (Sum.inr a) (.int v)) (ks ++ [a]) (fun b => if b = a then v else f b) := by
  have hn : valV cs (Sum.inr a) = none := by rw [h.val, if_neg n]
  refine ⟨?_, ?_, fun b => ?_⟩
  · rw [putK_new _ hn, List.map_append, List.map_append, h.keys]
    rfl
  · rw [List.nodup_append]
    refine ⟨h.nd, by simp, fun x hx y hy z => ?_⟩
    rw [List.mem_singleton.mp hy] at z
    exact n (z ▸ hx)
  · rw [valV_put]
    by_cases e : b = a
    · subst e
      rw [if_pos rfl, if_pos (List.mem_append_right _ (List.mem_singleton.mpr rfl)), if_pos rfl]
    · rw [if_neg (fun z => e (Sum.inr.inj z)), h.val, if_neg e]
      by_cases m : b ∈ ks
      · rw [if_pos m, if_pos (List.mem_append_left _ m)]
      · rw [if_neg m, if_neg (fun z => (List.mem_append.mp z).elim m fun z => e (List.mem_singleton.mp z))]
theorem DI.putOld {cs : List (L2.Key × V)} {ks : List Str} {f : Str → Int} (h : DI cs ks f) {a : Str} (n : a ∈ ks) (v : Int) : DI (putK cs (Sum.inr a) (.int v)) ks (fun b => if b = a then v else f b) := by
  have hn : (cs.any fun kv => decide (kv.1 = Sum.inr a)) = true := by rw [valV_any, h.has n]; rfl
  refine ⟨?_, h.nd, fun b => ?_⟩
  · unfold putK
    rw [if_pos hn, List.map_map, ← h.keys]
    refine List.map_congr_left fun kv _ => ?_
    show (if kv.1 = Sum.inr a then (kv.1, V.int v) else kv).1 = kv.1
    split <;> rfl
  · rw [valV_put]
    by_cases e : b = a
    · subst e
      rw [if_pos rfl, if_pos n, if_pos rfl]
    · rw [if_neg (fun z => e (Sum.inr.inj z)), h.val, if_neg e]
theorem DI.put {cs : List (L2.Key × V)} {ks : List Str} {f : Str → Int} (h : DI cs ks f) (a : Str) (v : Int) : ∃ ks', DI (putK cs (Sum.inr a) (.int v)) ks' (fun b => if b = a then v else f b) ∧ a ∈ ks' ∧ (∀ b, b ∈ ks' ↔ b ∈ ks ∨ b = a) ∧ ks'.length ≤ ks.length + 1 := by
  by_cases m : a ∈ ks
  · exact ⟨ks, h.putOld m v, m, fun b => ⟨.inl, fun z => z.elim id fun e => e ▸ m⟩, Nat.le_succ _⟩
  · refine ⟨ks ++ [a], h.putNew m v, List.mem_append_right _ (List.mem_singleton.mpr rfl), fun b => ?_, ?_⟩
    · rw [List.mem_append, List.mem_singleton]
    · rw [List.length_append, List.length_singleton]
      exact Nat.le_refl _
theorem w_din (q : ty σ H fun y H1 => td σ H1 fun x H2 => ∃ a o, x = .ref a ∧ DGet H2 a y o ∧ Q (.bl o.isSome) H2) : tDIn ty td σ H Q := q
theorem w_dnewT (q : ∀ p H2, H p = none → Same H H2 → H2 p = some (.dT []) → Q (.ref p) H2) : tDNewT σ H Q := fun p hp => q p _ hp (Same.upd (Same.refl H) hp) upd_same
theorem w_dnewK (q : ∀ p H2, H p = none → Same H H2 → H2 p = some (.dK []) → Q (.ref p) H2) : tDNewK σ H Q := fun p hp => q p _ hp (Same.upd (Same.refl H) hp) upd_same
theorem dputK {a : Addr} {kvs : List (L2.Key × V)} {k : L2.Key} {v : V} {R : Hp → Prop} (e : H a = some (.dK kvs)) (hl : kvs.length ≤ 100000) (q : ∀ H4, Kp a H H4 → H4 a = some (.dK (putK kvs k v)) → R H4) :
    ∃ a' H4, V.ref a = .ref a' ∧ DPut H a' (kV k) v H4 ∧ R H4 := ⟨a, _, rfl, DPut.k e (Nat.lt_of_le_of_lt hl (by decide)), q _ Kp.refl.updp upd_same⟩
theorem dputT {a b : Addr} {kvs : List (List L2.Key × V)} {k : List L2.Key} {v : V} {R : Hp → Prop} (e : H a = some (.dT kvs)) (eb : H b = some (.tup (k.map kV))) (hl : kvs.length ≤ 100000) (q : ∀ H4, Kp a H H4 → H4 a = some (.dT (putK kvs k v)) → R H4) :
    ∃ a' H4, V.ref a = .ref a' ∧ DPut H a' (.ref b) v H4 ∧ R H4 := ⟨a, _, rfl, .inr ⟨kvs, k, b, e, rfl, eb, Nat.lt_of_le_of_lt hl (by decide), rfl⟩, q _ Kp.refl.updp upd_same⟩
theorem sfldV {x dx : Addr} {fs : List (Str × V)} {f : Str} {y : V} {R : Hp → Prop} (h : H x = some (.ins C dx fs)) (c : Cls K C) (n : NoAttr K C f) (l : fs.length < 1000) (q : ∀ H4, Kp x H H4 → H4 x = some (.ins C dx (putF f y fs)) → R H4) :
    ∃ a C' dx' fs', V.ref x = .ref a ∧ H a = some (.ins C' dx' fs') ∧ Cls K C' ∧ NoAttr K C' f ∧ fs'.length < 1000 ∧ R (upd H a (.ins C' dx' (putF f y fs'))) := ⟨x, C, dx, fs, rfl, h, c, n, l, q _ Kp.refl.updp upd_same⟩
theorem w_sfldAug {ta tv : TE} {rd : V → V → Hp → VK → Prop} {f : Str} (q : ta σ H fun x H1 => ∃ a C dx fs v, x = .ref a ∧ H1 a = some (.ins C dx fs) ∧ Cls K C ∧ NoAttr K C f ∧ fs.lookup f = some v ∧
  tv σ H1 fun y H2 => rd v y H2 fun z H3 => ∃ dx' fs', H3 a = some (.ins C dx' fs') ∧ fs'.length < 1000 ∧ D.nx σ (upd H3 a (.ins C dx' (putF f z fs')))) : sFldAug K ta tv rd f D σ H := q
theorem ite_t {b : Bool} {A B : Prop} (h : b = true) (q : A) : if b = true then A else B := by rw [if_pos h]; exact q
theorem ite_f {b : Bool} {A B : Prop} (h : ¬ b = true) (q : B) : if b = true then A else B := by rw [if_neg h]; exact q
theorem same_made2 {x dx : Addr} {o o' : HO} {G : Hp} (hx : H x = none) (hdx : H dx = none) (k : Kp x (upd (upd H dx o) x o') G) : Same H G :=
  (((Kp.upd Kp.refl hdx).updp (H := H)).trans k).same hx
/-- [letter.value() for letter in ..] -/
theorem lcLs {ws : List Nat} {Qd : Addr → Hp → Prop} {a : Addr} {ls : List (Addr × Lt)} {i : Nat} (p : Addr × Lt → Bool) (hS : ∀ H1, Same H H1 → SqL K H1 a (lsV ls)) (hl : ls.length ≤ 1000) (hw : ∀ x, wipe ((wipe σ ws).set i (some x)) ws = wipe σ ws) (hi : ∀ x, ((wipe σ ws).set i (some x))[i]? = some (some x))
    (ht : ∀ y ∈ ls, ∀ H1, Same H H1 → ∀ R : Bool → Hp → Prop, (∀ H2, Same H1 H2 → R (p y) H2) → tt ((wipe σ ws).set i (some (.ref y.1))) H1 R)
    (q : ∀ D H1, H D = none → Same H H1 → H1 D = some (.lst (lsV (ls.filter p))) → Qd D H1) :
    ∀ D, H D = none → ∃ W : Nat → Nat → Hp → Prop, (∃ m, W 0 m (upd H D (.lst []))) ∧ ∀ i' m H, W i' m H →
  ((Itl K a).stop i' H ∧ Qd D H) ∨ ((Itl K a).go i' H ∧ ∃ Nx : Hp → Prop, (∀ H', Nx H' → ∃ m', m' < m ∧ W (i' + 1) m' H') ∧ ∀ x H', (Itl K a).yld i' H x H' → gName i x (wipe σ ws) H' fun σ2 H2 => wipe σ2 ws = wipe σ ws ∧ tt σ2 H2 fun b H3 =>
    if b = true then tVar i σ2 H3 fun y H4 => ∃ acc, H4 D = some (.lst acc) ∧ acc.length < sizeLine ∧ Nx (upd H4 D (.lst (acc ++ [y]))) else Nx H3) := by
  intro D hD
  refine lc_it (walk_list (xs := lsV ls)) (fun k G => Same H G ∧ G D = some (.lst (lsV ((ls.take k).filter p)))) ⟨Same.upd (Same.refl H) hD, upd_same⟩ (fun k G _ s => hS _ s.1) ?_ ?_
  · rintro k x G G' hk ⟨s, e⟩ ⟨rfl, hx⟩
    rw [List.getElem?_map] at hx
    obtain ⟨y, hy, rfl⟩ := Option.map_eq_some_iff.mp hx
    refine w_name ⟨hw _, ht y (List.mem_of_getElem? hy) _ s _ fun H2 s2 => ?_⟩
    have et : ls.take (k + 1) = ls.take k ++ [y] := by rw [List.take_add_one, hy]; rfl
    cases hp : p y with
    | true =>
      refine ite_t rfl (w_var (hi _) ⟨_, s2 _ _ e, ?_, ?_, ?_⟩)
      · rw [List.length_map]
        have h1 := List.length_filter_le p (ls.take k)
        have h2 : (ls.take k).length ≤ ls.length := by rw [List.length_take]; omega
        exact Nat.lt_of_le_of_lt (show _ ≤ 1000 by omega) (by decide)
      · exact fun b o e2 => by
          rw [upd_ne (ne_of_none e2 hD)]
          exact s2 _ _ (s _ _ e2)
      · rw [upd_same, et, List.filter_append, List.filter_cons_of_pos hp, List.filter_nil]
        unfold lsV
        rw [List.map_append]
        rfl
    | false =>
      refine ite_f (by decide) ⟨s.trans s2, ?_⟩
      rw [et, List.filter_append, List.filter_cons_of_neg (by simp [hp]), List.filter_nil, List.append_nil]
      exact s2 _ _ e
  · rintro G ⟨s, e⟩
    rw [show (lsV ls).length = ls.length from List.length_map _, List.take_length] at e
    exact q D G hD s e
end

/-! ### people -/
def NAMES8 : List Str := ["an", "ann", "anna", "ann2", "b", "b7", "hugohugohugo", "h0"]
theorem ascii_of (z : String) : ascii (Str.ofString z) = true := by
  unfold ascii
  rw [List.all_eq_true]
  intro c hc
  have h : c ∈ z.toList.map fun x => x.toNat := by rw [Str.ofString_eq_toList] at hc; simpa using hc
  obtain ⟨x, _, rfl⟩ := List.mem_map.mp h
  have := x.valid
  exact decide_eq_true (by rcases this with h | ⟨_, h⟩ <;> (have e : x.toNat = x.val.toNat := rfl; omega))
theorem tl_app (a b : Str) : (a ++ b).cps.toList = a.cps.toList ++ b.cps.toList := TL.tl_append a b
theorem ascii_app {a b : Str} (h : ascii a = true) (h' : ascii b = true) : ascii (a ++ b) = true := by
  unfold ascii at h h' ⊢
  rw [tl_app, List.all_append, h, h']
  rfl
theorem names8_ascii : ∀ z ∈ NAMES8, ascii z = true := by decide
def spPeople (K : PySem.W.Frag) : Sp := fun vs H Q _ => ∃ (p : Addr) (n : Int), vs = [.ref p, .int n] ∧ Stm H p ∧ 0 ≤ n ∧ n ≤ 2 ∧
  ∀ a (ps : List Str) H', H a = none → Kp p H H' → Stm H' p → H' a = some (.lst (ps.map V.str)) → (∀ x ∈ ps, x ∈ NAMES8) → n ≤ ps.length → ps.length ≤ 8 → Q (.ref a) H'
section
variable {K : PySem.W.Frag} {vs : List V} {H : Hp} {Q : VK} {E : XK}
end

/-! ### texts and bodies that the laws of boards draw -/
theorem str_len (z : Str) : z.length = z.cps.toList.length := by simp [Str.length]
theorem cutS_to {z : Str} {i : Int} (h : 0 ≤ i) : (cutS z none (some i)).cps.toList = z.cps.toList.take i.toNat := by
  obtain ⟨j, rfl⟩ := Int.eq_ofNat_of_zero_le h
  show (z.cps.toList.drop (HT.sIx z.length 0 none)).take (HT.sIx z.length z.length (some (j : Int)) - HT.sIx z.length 0 none) = _
  rw [HT.sIx_none, HT.sIx_nat, Nat.sub_zero, List.drop_zero, Int.toNat_natCast, str_len]
  by_cases hj : j ≤ z.cps.toList.length
  · rw [Nat.min_eq_left hj]
  · rw [Nat.min_eq_right (by omega), List.take_of_length_le (Nat.le_refl _), List.take_of_length_le (by omega)]
theorem foldl_all (p : Nat → Bool) : ∀ (l : List (Array Nat)) (a : Array Nat), a.toList.all p = true → (∀ x ∈ l, x.toList.all p = true) → (l.foldl (· ++ ·) a).toList.all p = true
  | [], a, h, _ => h
  | x :: l, a, h, hl => by
    rw [List.foldl_cons]
    refine foldl_all p l _ ?_ fun y hy => hl y (List.mem_cons_of_mem _ hy)
    rw [Array.toList_append, List.all_append, h, hl x (List.mem_cons_self ..)]
    rfl
theorem ascii_mul {z : Str} (n : Int) (h : ascii z = true) : ascii (Txt.mul z n) = true := by
  unfold Txt.mul
  by_cases h1 : n < 1
  · rw [if_pos h1]
    rfl
  · rw [if_neg h1]
    by_cases h2 : (n == 1 || z.length == 0) = true
    · rw [if_pos h2]
      exact h
    · rw [if_neg h2]
      exact foldl_all _ _ _ rfl fun x hx => by
        rw [List.eq_of_mem_replicate hx]
        exact h
theorem ascii_cut {z : Str} {i : Nat} (h : ascii z = true) : ascii (cutS z none (some (i : Int))) = true := by
  unfold ascii at h ⊢
  rw [cutS_to (by omega), List.all_eq_true]
  rw [List.all_eq_true] at h
  exact fun c hc => h c (List.mem_of_mem_take hc)
theorem ascii_join {a : Str} (h : ascii a = true) : ∀ {ys : List Str}, (∀ y ∈ ys, ascii y = true) → ascii (Txt.join a ys) = true := by
  intro ys hy
  rw [join_eq]
  induction ys with
  | nil => rfl
  | cons y ys ih =>
    cases ys with
    | nil => exact hy y (List.mem_cons_self ..)
    | cons z ys => exact ascii_app (ascii_app (hy y (List.mem_cons_self ..)) h) (ih fun w hw => hy w (List.mem_cons_of_mem _ hw))
/-- a short text -/
abbrev shortD : PyData → Prop := fun d => ∃ z : Str, d = .str z ∧ ascii z = true ∧ z.length ≤ 12
/-- the bodies that the laws of boards draw -/
inductive Bb where
  | say (t : Str)
  | reply (a : Str) (n : Int) (t : Str)
  | edit (a : Str) (n : Int) (t : Str)
  | recall (a : Str) (n : Int)
  | mark (a : Str) (n : Int) (w : Str)
  | title (t : Str)
  | act (k nm : Str) (h : k = Str.ofString "add" ∨ k = Str.ofString "cut" ∨ k = Str.ofString "hand")
  | seen
  | found (t : Str) (ds : List PyData)
def Bb.kind : Bb → Str
  | .say _ => Str.ofString "say"
  | .reply _ _ _ => Str.ofString "reply"
  | .edit _ _ _ => Str.ofString "edit"
  | .recall _ _ => Str.ofString "recall"
  | .mark _ _ _ => Str.ofString "mark"
  | .title _ => Str.ofString "title"
  | .act k _ _ => k
  | .seen => Str.ofString "seen"
  | .found _ _ => Str.ofString "found"
def Bb.rest : Bb → List PyData
  | .say t => [.str t]
  | .reply a n t => [.tuple [.str a, .int n], .str t]
  | .edit a n t => [.tuple [.str a, .int n], .str t]
  | .recall a n => [.tuple [.str a, .int n]]
  | .mark a n w => [.tuple [.str a, .int n], .str w]
  | .title t => [.str t]
  | .act _ nm _ => [.str nm]
  | .seen => []
  | .found t ds => [.str t, .tuple ds]
def Bb.toD (b : Bb) : PyData := .tuple (.str b.kind :: b.rest)
structure BodyOk (b : PyData) : Prop where
  lay : Lay 3 b
  pl : plainB b = true
  sh : ∃ k ds, b = .tuple (.str k :: ds) ∧ ((k = Str.ofString "say" ∧ ∃ t, ds = [.str t] ∧ t.length ≤ 400) ∨ (k = Str.ofString "reply" ∧ ∃ r t, ds = [r, .str t] ∧ t.length ≤ 400) ∨ (k ≠ Str.ofString "say" ∧ k ≠ Str.ofString "reply"))
  bb : ∃ B : Bb, b = B.toD
def spLWord (K : PySem.W.Frag) : Sp := fun vs H Q _ => ∃ p, vs = [.ref p] ∧ Stm H p ∧ ∀ (z : Str) H', Kp p H H' → Stm H' p → z.length ≤ 4 → ascii z = true → Q (.str z) H'
def PeopleAt (H : Hp) (pa : Addr) (ps : List Str) : Prop := H pa = some (.lst (ps.map V.str)) ∧ 1 ≤ ps.length ∧ ps.length ≤ 20 ∧ ∀ x ∈ ps, ascii x = true ∧ x.length ≤ 12
def spLText (K : PySem.W.Frag) : Sp := fun vs H Q _ => ∃ (pa p : Addr) (ps : List Str), vs = [.ref pa, .ref p] ∧ Stm H p ∧ PeopleAt H pa ps ∧ ∀ (z : Str) H', Kp p H H' → Stm H' p → z.length ≤ 400 → ascii z = true → Q (.str z) H'
def spLRef (K : PySem.W.Frag) (C : Addr) : Sp := fun vs H Q _ => ∃ (l pa p : Addr) (ls : List (Addr × Lt)) (ps : List Str), vs = [.ref l, .ref pa, .ref p] ∧ Stm H p ∧ PeopleAt H pa ps ∧ H l = some (.lst (lsV ls)) ∧ LsOk Any C H ls ∧ ls.length ≤ 100 ∧
  ∀ t (a : Str) (n : Int) H', Kp p H H' → Stm H' p → H' t = some (.tup [.str a, .int n]) → ascii a = true → Q (.ref t) H'
def spLBody (K : PySem.W.Frag) (C : Addr) : Sp := fun vs H Q _ => ∃ (l pa p : Addr) (ls : List (Addr × Lt)) (ps : List Str), vs = [.ref l, .ref pa, .ref p] ∧ Stm H p ∧ PeopleAt H pa ps ∧ H l = some (.lst (lsV ls)) ∧ LsOk Any C H ls ∧ ls.length ≤ 100 ∧
  ∀ v b H', Kp p H H' → Stm H' p → Dn Any H' v b → BodyOk b → Q v H'
theorem stm_neS {H : Hp} {a p : Addr} {ps : List Str} (s : Stm H p) (e : H a = some (.lst (ps.map V.str))) : a ≠ p := fun z => by
  obtain ⟨x, y, h, _⟩ := s
  rw [z, h] at e
  cases ps with
  | nil => cases e
  | cons o ls =>
    injection e with e
    injection e with e
    have : V.int x = V.str o := (List.cons.inj e).1
    exact nomatch this
theorem PeopleAt.kp {H H' : Hp} {pa p : Addr} {ps : List Str} (h : PeopleAt H pa ps) (s : Stm H p) (k : Kp p H H') : PeopleAt H' pa ps := ⟨k _ _ (stm_neS s h.1) h.1, h.2⟩
theorem PeopleAt.same {H H' : Hp} {pa : Addr} {ps : List Str} (h : PeopleAt H pa ps) (s : Same H H') : PeopleAt H' pa ps := ⟨s _ _ h.1, h.2⟩
def SIG62 : Str := "abcdefghijklmnopqrstuvwxyzABCDEFGHIJKLMNOPQRSTUVWXYZ0123456789"
structure PartsAt (H G : Hp) (p P : Addr) (zs : List Str) : Prop where
  kp : Kp p H G
  st : Stm G p
  hp : G P = some (.lst (zs.map V.str))
  al : ∀ z ∈ zs, ascii z = true ∧ z.length ≤ 13
theorem PartsAt.draw {H G G' : Hp} {p P : Addr} {zs : List Str} (x : PartsAt H G p P zs) (n : P ≠ p) (k : Kp p G G') (s : Stm G' p) : PartsAt H G' p P zs := ⟨x.kp.trans k, s, k _ _ n x.hp, x.al⟩
theorem PartsAt.put {H G : Hp} {p P : Addr} {zs : List Str} {z : Str} {R : Hp → Prop} (x : PartsAt H G p P zs) (f : H P = none) (n : P ≠ p) (l : zs.length ≤ 100) (za : ascii z = true) (zl : z.length ≤ 13) (r : ∀ G', PartsAt H G' p P (zs ++ [z]) → R G') : rAppend (.ref P) [.str z] G (fun _ G' => R G') := by
  refine w_appV x.hp (by rw [List.length_map]; omega) fun G' k e => r G' ⟨fun b o nb e => k _ _ (ne_of_none e f) (x.kp _ _ nb e), stm_kp x.st k n.symm, by rw [e, List.map_append]; rfl, fun y hy => ?_⟩
  rcases List.mem_append.mp hy with hy | hy
  · exact x.al y hy
  · rw [List.mem_singleton.mp hy]
    exact ⟨za, zl⟩
section
variable {K : PySem.W.Frag} {C : Addr} {vs : List V} {H : Hp} {Q : VK} {E : XK}
theorem short_of {p : Addr} {σ : L2.St} {z : Str} (h : (ascii z && decide (z.length ≤ 12)) = true) : EvS p (tC (.str z)) σ H shortD := evs_str ⟨z, rfl, by
  rw [Bool.and_eq_true] at h
  exact ⟨h.1, of_decide_eq_true h.2⟩⟩
end

/-! ### items of a board -/
def KpP (S : Addr → Prop) (H H' : Hp) : Prop := ∀ b o, ¬ S b → H b = some o → H' b = some o
theorem KpP.same {S : Addr → Prop} {H H' : Hp} (s : Same H H') : KpP S H H' := fun b o _ e => s b o e
theorem KpP.refl {S : Addr → Prop} {H : Hp} : KpP S H H := fun _ _ _ e => e
theorem KpP.kp {S : Addr → Prop} {p : Addr} {H H' : Hp} (k : Kp p H H') (h : S p) : KpP S H H' := fun b o n e => k b o (fun z => n (z ▸ h)) e
theorem KpP.trans {S : Addr → Prop} {H H1 H2 : Hp} (a : KpP S H H1) (b : KpP S H1 H2) : KpP S H H2 := fun c o n e => b c o n (a c o n e)
theorem KpP.mono {S T : Addr → Prop} {H H' : Hp} (a : KpP S H H') (h : ∀ b, S b → T b) : KpP T H H' := fun c o n e => a c o (fun z => n (h c z)) e
def flipS (nm : Str) (ns : List Str) : List Str := if nm ∈ ns then ns.filter (fun m => decide (m ≠ nm)) else ns ++ [nm]
def togF (w nm : Str) : List (Str × List Str) → List (Str × List Str)
  | [] => [(w, [nm])]
  | m :: r => if m.1 = w then (m.1, flipS nm m.2) :: r else m :: togF w nm r
theorem togF_none {w nm : Str} : ∀ {l : List (Str × List Str)}, (∀ m ∈ l, m.1 ≠ w) → togF w nm l = l ++ [(w, [nm])]
  | [], _ => rfl
  | m :: r, h => by
    rw [togF, if_neg (h m (List.mem_cons_self ..)), togF_none fun x hx => h x (List.mem_cons_of_mem _ hx)]
    rfl
theorem togF_hit {w nm : Str} {m : Str × List Str} {r : List (Str × List Str)} (e : m.1 = w) : ∀ {l : List (Str × List Str)}, (∀ x ∈ l, x.1 ≠ w) → togF w nm (l ++ m :: r) = l ++ (m.1, flipS nm m.2) :: r
  | [], _ => by
    show togF w nm (m :: r) = _
    rw [togF, if_pos e]
    rfl
  | x :: l, h => by
    show togF w nm (x :: (l ++ m :: r)) = _
    rw [togF, if_neg (h x (List.mem_cons_self ..)), togF_hit e fun y hy => h y (List.mem_cons_of_mem _ hy)]
    rfl
theorem split_first {α : Type} (p : α → Bool) : ∀ l : List α, (∀ a ∈ l, p a = false) ∨ ∃ l1 a l2, l = l1 ++ a :: l2 ∧ p a = true ∧ ∀ b ∈ l1, p b = false
  | [] => .inl fun a h => nomatch h
  | x :: l => by
    cases hx : p x with
    | true => exact .inr ⟨[], x, l, rfl, hx, fun b h => nomatch h⟩
    | false =>
      rcases split_first p l with h | ⟨l1, a, l2, e, ha, hb⟩
      · exact .inl fun a m => (List.mem_cons.mp m).elim (fun z => z ▸ hx) (h a)
      · exact .inr ⟨x :: l1, a, l2, by rw [e]; rfl, ha, fun b h => (List.mem_cons.mp h).elim (fun z => z ▸ hx) (hb b)⟩
structure It where
  a : Str
  n : Int
  text : Str
  par : Option (Str × Int)
  ed : Int
  rc : Bool
  wd : List (Str × List Str)
def itF (a tx : Str) (pv : V) (e : Int) (rc : Bool) (t d : Addr) : List (Str × V) := [("author", .str a), ("text", .str tx), ("parent", pv), ("edits", .int e), ("recalled", .bl rc), ("_ref", .ref t), ("_names", .ref d)]
/-- an item on the heap: where it stands, where its words stand, where the names under each word stand -/
structure Io where
  x : Addr
  d : Addr
  ms : List (Addr × Str × List Str)
  it : It
def fp (o : Io) : List Addr := o.x :: o.d :: o.ms.map (·.1)
abbrev nV (ns : List Str) : List (L2.Key × V) := ns.map fun m => (Sum.inr m, V.bl true)
abbrev mV (ms : List (Addr × Str × List Str)) : List (L2.Key × V) := ms.map fun m => (Sum.inr m.2.1, V.ref m.1)
def ParAt (H : Hp) (pv : V) (p : Option (Str × Int)) : Prop := (p = none ∧ pv = .non) ∨ ∃ t q, p = some q ∧ pv = .ref t ∧ H t = some (.tup [.str q.1, .int q.2])
structure IoAt (C : Addr) (H : Hp) (o : Io) : Prop where
  hx : ∃ dx t pv, H o.x = some (.ins C dx (itF o.it.a o.it.text pv o.it.ed o.it.rc t o.d)) ∧ H t = some (.tup [.str o.it.a, .int o.it.n]) ∧ ParAt H pv o.it.par
  hd : H o.d = some (.dK (mV o.ms))
  hm : ∀ m ∈ o.ms, H m.1 = some (.dK (nV m.2.2))
  wd : o.it.wd = o.ms.map (·.2)
  nd : (o.d :: o.ms.map (·.1)).Nodup
def MkSz (k : Nat) (it : It) : Prop := it.wd.length ≤ k ∧ ∀ m ∈ it.wd, m.2.length ≤ k
theorem ParAt.tk {H H' : Hp} {pv : V} {p : Option (Str × Int)} (h : ParAt H pv p) (t : ∀ b xs, H b = some (.tup xs) → H' b = some (.tup xs)) : ParAt H' pv p := by
  rcases h with h | ⟨a, q, h1, h2, h3⟩
  · exact .inl h
  · exact .inr ⟨a, q, h1, h2, t _ _ h3⟩
theorem IoAt.mem {C : Addr} {H : Hp} {o : Io} (h : IoAt C H o) {b : Addr} (hb : b ∈ fp o) : ∃ u, H b = some u ∧ ∀ xs, u ≠ .tup xs := by
  rcases List.mem_cons.mp hb with rfl | hb
  · obtain ⟨dx, t, pv, e, _⟩ := h.hx
    exact ⟨_, e, fun xs z => by cases z⟩
  · rcases List.mem_cons.mp hb with rfl | hb
    · exact ⟨_, h.hd, fun xs z => by cases z⟩
    · obtain ⟨m, hm, rfl⟩ := List.mem_map.mp hb
      exact ⟨_, h.hm m hm, fun xs z => by cases z⟩
/-- what is off an item stays with it -/
theorem IoAt.kpP {C : Addr} {H H' : Hp} {o : Io} {S : Addr → Prop} (h : IoAt C H o) (k : KpP S H H') (n : ∀ b ∈ fp o, ¬ S b) (t : ∀ b xs, H b = some (.tup xs) → H' b = some (.tup xs)) : IoAt C H' o := by
  obtain ⟨⟨dx, tt, pv, e, ht, hp⟩, hd, hm, wd, nd⟩ := h
  refine ⟨⟨dx, tt, pv, k _ _ (n _ (List.mem_cons_self ..)) e, t _ _ ht, hp.tk t⟩, k _ _ (n _ (List.mem_cons_of_mem _ (List.mem_cons_self ..))) hd, fun m hmm => k _ _ (n _ (List.mem_cons_of_mem _ (List.mem_cons_of_mem _ (List.mem_map_of_mem hmm)))) (hm m hmm), wd, nd⟩
theorem IoAt.same {C : Addr} {H H' : Hp} {o : Io} (h : IoAt C H o) (s : Same H H') : IoAt C H' o := h.kpP (S := fun _ => False) (fun b o _ e => s b o e) (fun _ _ z => z) fun b xs e => s b _ e
/-- a step of one item -/
def ItStep (C : Addr) (H : Hp) (o : Io) (it : It) (H' : Hp) : Prop := ∃ o', o'.x = o.x ∧ o'.it = it ∧ IoAt C H' o' ∧ (∀ b ∈ fp o', b ∈ fp o ∨ H b = none) ∧ KpP (· ∈ fp o) H H'
theorem itStep_obj {C dx t : Addr} {H H' : Hp} {o : Io} {pv : V} {tx : Str} {e : Int} {rc : Bool} (h : IoAt C H o) (ht : H t = some (.tup [.str o.it.a, .int o.it.n])) (hp : ParAt H pv o.it.par) (k : Kp o.x H H') (g : H' o.x = some (.ins C dx (itF o.it.a tx pv e rc t o.d))) :
    ItStep C H o { o.it with text := tx, ed := e, rc := rc } H' := by
  obtain ⟨⟨dx0, t0, pv0, hx, _⟩, hd, hm, wd, nd⟩ := h
  have tk : ∀ b xs, H b = some (.tup xs) → H' b = some (.tup xs) := fun b xs e => k _ _ (ne_kind e hx fun z => by cases z) e
  exact ⟨{ o with it := { o.it with text := tx, ed := e, rc := rc } }, rfl, rfl, ⟨⟨dx, t, pv, g, tk _ _ ht, hp.tk tk⟩, k _ _ (ne_kind hd hx fun z => by cases z) hd, fun m hmm => k _ _ (ne_kind (hm m hmm) hx fun z => by cases z) (hm m hmm), wd, nd⟩, fun b hb => .inl hb, KpP.kp k (List.mem_cons_self ..)⟩
theorem itStep_new {C dx t d : Addr} {H H' : Hp} {o : Io} {pv : V} {tx : Str} {e : Int} {rc : Bool} (h : IoAt C H o) (ht : H t = some (.tup [.str o.it.a, .int o.it.n])) (hp : ParAt H pv o.it.par) (f : H d = none) (k : Kp o.x H H') (g : H' o.x = some (.ins C dx (itF o.it.a tx pv e rc t d))) (gd : H' d = some (.dK [])) :
    ItStep C H o { o.it with text := tx, ed := e, rc := rc, wd := [] } H' := by
  obtain ⟨⟨dx0, t0, pv0, hx, _⟩, hd, hm, wd, nd⟩ := h
  have tk : ∀ b xs, H b = some (.tup xs) → H' b = some (.tup xs) := fun b xs e => k _ _ (ne_kind e hx fun z => by cases z) e
  refine ⟨⟨o.x, d, [], { o.it with text := tx, ed := e, rc := rc, wd := [] }⟩, rfl, rfl, ⟨⟨dx, t, pv, g, tk _ _ ht, hp.tk tk⟩, gd, (fun m hmm => nomatch hmm), rfl, List.nodup_cons.mpr ⟨(fun z => nomatch z), List.nodup_nil⟩⟩, fun b hb => ?_, KpP.kp k (List.mem_cons_self ..)⟩
  rcases List.mem_cons.mp hb with rfl | hb
  · exact .inl (List.mem_cons_self ..)
  · rw [List.mem_singleton.mp hb]
    exact .inr f
theorem itStep_in {C : Addr} {H H2 H' : Hp} {o : Io} {l r : List (Addr × Str × List Str)} {m : Addr × Str × List Str} {ns : List Str} (h : IoAt C H o) (e : o.ms = l ++ m :: r) (s : Same H H2) (k : Kp m.1 H2 H') (g : H' m.1 = some (.dK (nV ns))) :
    ItStep C H o { o.it with wd := l.map (·.2) ++ (m.2.1, ns) :: r.map (·.2) } H' := by
  have h2 := h.same s
  obtain ⟨⟨dx, t, pv, hx, ht, hp⟩, hd, hm, wd, nd⟩ := h2
  have em := hm m (by rw [e]; exact List.mem_append_right _ (List.mem_cons_self ..))
  have tk : ∀ b xs, H2 b = some (.tup xs) → H' b = some (.tup xs) := fun b xs z => k _ _ (ne_kind z em fun y => by cases y) z
  have ef : (l ++ (m.1, m.2.1, ns) :: r).map (·.1) = o.ms.map (·.1) := by
    rw [e, List.map_append, List.map_append]
    rfl
  have nm1 := nd
  rw [List.nodup_cons] at nm1
  have nd2 := nm1.2
  rw [e, List.map_append, List.map_cons, List.nodup_append, List.nodup_cons] at nd2
  have hdm : o.d ≠ m.1 := fun z => nm1.1 (z ▸ List.mem_map_of_mem (by rw [e]; exact List.mem_append_right _ (List.mem_cons_self ..)))
  have hin : ∀ q ∈ fp o, q = m.1 ∨ q ≠ m.1 := fun q _ => Classical.em _
  refine ⟨⟨o.x, o.d, l ++ (m.1, m.2.1, ns) :: r, { o.it with wd := l.map (·.2) ++ (m.2.1, ns) :: r.map (·.2) }⟩, rfl, rfl, ⟨⟨dx, t, pv, k _ _ (ne_kind hx em fun y => by cases y) hx, tk _ _ ht, hp.tk tk⟩, ?_, ?_, ?_, ?_⟩, ?_, ?_⟩
  · refine (k _ _ hdm hd).trans ?_
    rw [e]
    unfold mV
    rw [List.map_append, List.map_append]
    rfl
  · intro q hq
    rcases List.mem_append.mp hq with hq | hq
    · refine k _ _ (nd2.2.2 _ (List.mem_map_of_mem hq) _ (List.mem_cons_self ..)) (hm q ?_)
      rw [e]
      exact List.mem_append_left _ hq
    · rcases List.mem_cons.mp hq with rfl | hq
      · exact g
      · refine k _ _ (fun z => nd2.2.1.1 (z ▸ List.mem_map_of_mem hq)) (hm q ?_)
        rw [e]
        exact List.mem_append_right _ (List.mem_cons_of_mem _ hq)
  · rw [List.map_append]
    rfl
  · show (o.d :: (l ++ (m.1, m.2.1, ns) :: r).map (·.1)).Nodup
    rw [ef]
    exact nd
  · intro b hb
    refine .inl ?_
    have : fp (⟨o.x, o.d, l ++ (m.1, m.2.1, ns) :: r, { o.it with wd := l.map (·.2) ++ (m.2.1, ns) :: r.map (·.2) }⟩ : Io) = fp o := by
      unfold fp
      exact congrArg (fun z => o.x :: o.d :: z) ef
    rw [this] at hb
    exact hb
  · refine (KpP.same s).trans (KpP.kp k ?_)
    exact List.mem_cons_of_mem _ (List.mem_cons_of_mem _ (List.mem_map_of_mem (by rw [e]; exact List.mem_append_right _ (List.mem_cons_self ..))))
theorem itStep_app {C p : Addr} {H H2 H3 H' : Hp} {o : Io} {w nm : Str} (h : IoAt C H o) (s : Same H H2) (f : H p = none) (k : Kp o.d H2 H3) (k2 : Kp p H3 H') (g1 : H3 o.d = some (.dK (mV (o.ms ++ [(p, w, [nm])])))) (g : H' p = some (.dK (nV [nm]))) :
    ItStep C H o { o.it with wd := o.it.wd ++ [(w, [nm])] } H' := by
  have h2 := h.same s
  obtain ⟨⟨dx, t, pv, hx, ht, hp⟩, hd, hm, wd, nd⟩ := h2
  have nf : ∀ {b : Addr} {u : HO}, H b = some u → b ≠ p := fun e => ne_of_none e f
  obtain ⟨⟨dx0, t0, pv0, hx0, ht0, _⟩, hd0, hm0, _, _⟩ := id h
  have k3 : ∀ b u, b ≠ o.d → H b = some u → H' b = some u := fun b u n e => k2 _ _ (nf e) (k _ _ n (s _ _ e))
  have hp0 : ParAt H pv o.it.par ∨ True := .inr trivial
  have tk : ∀ b xs, H b = some (.tup xs) → H' b = some (.tup xs) := fun b xs e => k3 _ _ (ne_kind e hd0 fun y => by cases y) e
  obtain ⟨dx1, t1, pv1, e1, e2, e3⟩ := h.hx
  have nm1 := nd
  rw [List.nodup_cons] at nm1
  refine ⟨⟨o.x, o.d, o.ms ++ [(p, w, [nm])], { o.it with wd := o.it.wd ++ [(w, [nm])] }⟩, rfl, rfl, ⟨⟨dx1, t1, pv1, k3 _ _ (ne_kind e1 hd0 fun y => by cases y) e1, tk _ _ e2, e3.tk tk⟩, ?_, ?_, ?_, ?_⟩, ?_, ?_⟩
  · exact k2 _ _ (nf hd0) g1
  · intro q hq
    rcases List.mem_append.mp hq with hq | hq
    · exact k3 _ _ (fun z => nm1.1 (z ▸ List.mem_map_of_mem hq)) (hm0 q hq)
    · rw [List.mem_singleton.mp hq]
      exact g
  · show o.it.wd ++ [(w, [nm])] = (o.ms ++ [(p, w, [nm])]).map (·.2)
    rw [List.map_append, ← wd]
    rfl
  · show (o.d :: (o.ms ++ [(p, w, [nm])]).map (·.1)).Nodup
    rw [List.map_append, ← List.cons_append, List.nodup_append]
    refine ⟨nd, List.nodup_cons.mpr ⟨(fun z => nomatch z), List.nodup_nil⟩, fun a ha b hb => ?_⟩
    rw [List.mem_singleton.mp hb]
    rcases List.mem_cons.mp ha with rfl | ha
    · exact nf hd0
    · obtain ⟨m, hmm, rfl⟩ := List.mem_map.mp ha
      exact nf (hm0 m hmm)
  · intro b hb
    have hb' : b ∈ o.x :: o.d :: (o.ms ++ [(p, w, [nm])]).map (·.1) := hb
    rw [List.map_append, ← List.cons_append, ← List.cons_append, List.mem_append] at hb'
    rcases hb' with hb' | hb'
    · exact .inl hb'
    · rw [List.mem_singleton.mp hb']
      exact .inr f
  · intro b u n e
    exact k3 b u (fun z => n (z ▸ List.mem_cons_of_mem _ (List.mem_cons_self ..))) e
def editI (tx : Str) (i : It) : It := { i with text := tx, ed := i.ed + 1 }
def recallI (i : It) : It := { i with text := Str.ofString "", rc := true, wd := [] }
def markI (w nm : Str) (i : It) : It := { i with wd := togF w nm i.wd }
def spItInit (K : PySem.W.Frag) (C : Addr) : Sp := fun vs H Q _ => ∃ (x dx t : Addr) (a : Str) (n : Int) (tx : Str) (pv : V) (par : Option (Str × Int)), vs = [.ref x, .ref t, .str tx, pv] ∧ H x = some (.ins C dx []) ∧ H t = some (.tup [.str a, .int n]) ∧ ParAt H pv par ∧
  ∀ H' d, H d = none → d ≠ x → Kp x H H' → IoAt C H' ⟨x, d, [], ⟨a, n, tx, par, 0, false, []⟩⟩ → Q .non H'
def spItEdit (K : PySem.W.Frag) (C : Addr) : Sp := fun vs H Q _ => ∃ (o : Io) (tx : Str), vs = [.ref o.x, .str tx] ∧ IoAt C H o ∧ ∀ H', ItStep C H o (editI tx o.it) H' → Q .non H'
def spItRecall (K : PySem.W.Frag) (C : Addr) : Sp := fun vs H Q _ => ∃ (o : Io), vs = [.ref o.x] ∧ IoAt C H o ∧ ∀ H', ItStep C H o (recallI o.it) H' → Q .non H'
def spItMark (K : PySem.W.Frag) (C : Addr) : Sp := fun vs H Q _ => ∃ (o : Io) (w nm : Str), vs = [.ref o.x, .str w, .str nm] ∧ IoAt C H o ∧ MkSz 1000 o.it ∧ ∀ H', ItStep C H o (markI w nm o.it) H' → Q .non H'
section
variable {K : PySem.W.Frag} {C : Addr} {vs : List V} {H : Hp} {Q : VK} {E : XK} {σ : L2.St} {D : Ends} {td ty tx : TE}
theorem w_dsetd (q : td σ H fun x H1 => ∃ a, x = .ref a ∧ IsD H1 a ∧ ty σ H1 fun y H2 => tx σ H2 fun z H3 => ∃ (kvs : List (L2.Key × V)) (k : L2.Key), H3 a = some (.dK kvs) ∧ y = kV k ∧ kvs.length < sizeLine ∧
  (∀ v, valV kvs k = some v → Q v H3) ∧ (valV kvs k = none → Q z (upd H3 a (.dK (putK kvs k z))))) : tDSetd td ty tx σ H Q := q
theorem w_ddel (q : td σ H fun x H1 => ty σ H1 fun y H2 => ∃ a kvs k, x = .ref a ∧ H2 a = some (.dK kvs) ∧ y = kV k ∧ (valV kvs k).isSome = true ∧ D.nx σ (upd H2 a (.dK (dropK kvs k)))) : sDDel td ty D σ H := q
theorem valV_off {k : L2.Key} : ∀ {kvs : List (L2.Key × V)}, (∀ p ∈ kvs, p.1 ≠ k) → valV kvs k = none
  | [], _ => rfl
  | p :: r, h => (valV_neg (h p (List.mem_cons_self ..))).trans (valV_off fun x hx => h x (List.mem_cons_of_mem _ hx))
theorem valV_hit {k : L2.Key} {v : V} {r : List (L2.Key × V)} : ∀ {l : List (L2.Key × V)}, (∀ p ∈ l, p.1 ≠ k) → valV (l ++ (k, v) :: r) k = some v
  | [], _ => valV_pos rfl
  | p :: l, h => (valV_neg (h p (List.mem_cons_self ..))).trans (valV_hit fun x hx => h x (List.mem_cons_of_mem _ hx))
theorem nV_in (nm : Str) : ∀ ns : List Str, (valV (nV ns) (Sum.inr nm)).isSome = decide (nm ∈ ns)
  | [] => rfl
  | m :: ns => by
    by_cases e : m = nm
    · subst e
      rw [show valV (nV (m :: ns)) (Sum.inr m) = some _ from valV_pos rfl, decide_eq_true (List.mem_cons_self ..)]
      rfl
    · rw [show valV (nV (m :: ns)) (Sum.inr nm) = _ from valV_neg (fun z => e (Sum.inr.inj z))]
      refine (nV_in nm ns).trans ?_
      rw [decide_eq_decide, List.mem_cons]
      exact ⟨.inr, fun z => z.elim (fun y => absurd y.symm e) id⟩
theorem nV_drop (nm : Str) (ns : List Str) : dropK (nV ns) (Sum.inr nm) = nV (ns.filter fun m => decide (m ≠ nm)) := by
  unfold dropK nV
  rw [List.filter_map]
  refine congrArg _ (List.filter_congr fun m _ => ?_)
  show decide ((Sum.inr m : L2.Key) ≠ Sum.inr nm) = decide (m ≠ nm)
  rw [decide_eq_decide]
  exact ⟨fun h z => h (congrArg Sum.inr z), fun h z => h (Sum.inr.inj z)⟩
end

/-! ### bodies on the heap -/
def Bb.tgt : Bb → Option (Str × Int)
  | .reply a n _ => some (a, n)
  | .edit a n _ => some (a, n)
  | .recall a n => some (a, n)
  | .mark a n _ => some (a, n)
  | _ => none
def Bb.txt : Bb → Option Str
  | .say t => some t
  | .reply _ _ t => some t
  | .edit _ _ t => some t
  | _ => none
def actB (b : Bb) : Bool := decide (b.kind ∈ [Str.ofString "add", Str.ofString "cut", Str.ofString "hand"])
theorem bb_at {H : Hp} {bv : V} {B : Bb} (d : Dn Any H bv B.toD) : ∃ ta xs, bv = .ref ta ∧ H ta = some (.tup (.str B.kind :: xs)) ∧ DnAll Any H xs B.rest := by
  unfold Bb.toD at d
  cases d with
  | @tup ta ws _ _ ht hw =>
    cases hw with
    | @cons v vs _ _ h0 hs0 =>
      cases h0
      exact ⟨ta, vs, rfl, ht, hs0⟩
theorem dn_ref {H : Hp} {v : V} {a : Str} {n : Int} (d : Dn Any H v (.tuple [.str a, .int n])) : ∃ t, v = .ref t ∧ H t = some (.tup [.str a, .int n]) := by
  cases d with
  | @tup t ws _ _ ht hw =>
    cases hw with
    | cons h0 hs0 =>
      cases h0
      cases hs0 with
      | cons h1 hs1 =>
        cases h1
        cases hs1
        exact ⟨t, rfl, ht⟩
def spTarget (K : PySem.W.Frag) : Sp := fun vs H Q _ => ∃ bv B, vs = [bv] ∧ Dn Any H bv (Bb.toD B) ∧ ∀ v H', Same H H' → ParAt H' v B.tgt → Q v H'
def spTextOf (K : PySem.W.Frag) : Sp := fun vs H Q _ => ∃ bv B t, vs = [bv] ∧ Dn Any H bv (Bb.toD B) ∧ Bb.txt B = some t ∧ ∀ H', Same H H' → Q (.str t) H'
def spIsAct (K : PySem.W.Frag) : Sp := fun vs H Q _ => ∃ bv B, vs = [bv] ∧ Dn Any H bv (Bb.toD B) ∧ ∀ H', Same H H' → Q (.bl (actB B)) H'
section
variable {K : PySem.W.Frag} {C CL CI : Addr} {vs : List V} {H : Hp} {Q : VK} {E : XK} {σ : L2.St} {D : Ends}
/-- body[0] in (..) -/
theorem w_kindIn {te : TE} {tr : TA} {ta : Addr} {k : Str} {xs : List V} (ks : List Str) (ha : ∀ R : VK, R (.ref ta) H → te σ H R) (ht : H ta = some (.tup (.str k :: xs)))
    (htr : ∀ R : List V → Hp → Prop, R (ks.map V.str) H → tr σ H R) (hl : ks.length ≤ 1000) (q : ∀ H2, Same H H2 → Q (.bl (decide (k ∈ ks))) H2) : tOp (rIn K false) (tOp (rIxT K) te (tC (.int 0))) (tTup tr) σ H Q := by
  refine w_op (w_op (ha _ (w_c (w_ixT (SqT.of ht) (atI_nat (j := 0) rfl) (w_tupV (htr _ ⟨sz (by rw [List.length_map]; exact Nat.le_trans hl (by decide)), w_new fun t2 H2 _ s2 e2 => ?_⟩))))))
  exact w_inTb (SqT.of e2) rfl (by rw [List.all_map]; exact List.all_eq_true.mpr fun _ _ => rfl) (inV_strs k ks) (q H2 s2)
/-- is_act: slots 0:body -/
def t_is_act (K : PySem.W.Frag) : TS := (tRet (tOp (rIn K false) (tOp (rIxT K) (tVar 0) (tC (.int 0))) (tTup (tCons (tC (.str "add")) (tCons (tC (.str "cut")) (tCons (tC (.str "hand")) tNil))))))
theorem l_is_act (h : spIsAct K vs H Q E) : vs.length = 1 := by obtain ⟨bv, B, rfl, _⟩ := h; rfl
theorem r_is_act (h : spIsAct K vs H Q E) : t_is_act K { nx := fun _ H' => Q .non H', rt := Q } (start ["body"] vs) H := by
  obtain ⟨bv, B, rfl, dB, q⟩ := h
  obtain ⟨ta, xs, rfl, ht, _⟩ := bb_at dB
  unfold t_is_act
  exact w_ret (w_kindIn [Str.ofString "add", Str.ofString "cut", Str.ofString "hand"] (fun _ q => w_var rfl q) ht (fun R r => w_cons (w_c (w_cons (w_c (w_cons (w_c (w_nil r))))))) (by decide) q)
end

/-! ### rolls -/
def seenB (a : Str) (n : Int) (L : Lt) : Bool := decide (n ≤ cnt L.ps a)
def firstSeen (a : Str) (n : Int) : List (Addr × Lt) → Nat
  | [] => 0
  | y :: r => if seenB a n y.2 = true then 0 else firstSeen a n r + 1
theorem firstSeen_len {a : Str} {n : Int} : ∀ {ls : List (Addr × Lt)}, (∀ y ∈ ls, seenB a n y.2 = false) → firstSeen a n ls = ls.length
  | [], _ => rfl
  | y :: r, h => by
    rw [firstSeen, if_neg (by rw [h y (List.mem_cons_self ..)]; decide), firstSeen_len fun z hz => h z (List.mem_cons_of_mem _ hz)]
    rfl
theorem firstSeen_hit {a : Str} {n : Int} : ∀ {ls : List (Addr × Lt)} {k : Nat} {y : Addr × Lt}, (∀ i, i < k → ∀ z, ls[i]? = some z → seenB a n z.2 = false) → ls[k]? = some y → seenB a n y.2 = true → firstSeen a n ls = k
  | [], k, y, _, e, _ => by simp at e
  | z :: r, 0, y, _, e, h => by
    have e : z = y := Option.some.inj e
    rw [firstSeen, e, if_pos h]
  | z :: r, k + 1, y, hn, e, h => by
    have h0 := hn 0 (by omega) z rfl
    rw [firstSeen, if_neg (by rw [h0]; decide), firstSeen_hit (k := k) (fun i hi w hw => hn (i + 1) (by omega) w hw) e h]
theorem firstSeen_le {a : Str} {n : Int} : ∀ {ls : List (Addr × Lt)}, firstSeen a n ls ≤ ls.length
  | [] => Nat.le_refl _
  | y :: r => by
    rw [firstSeen, List.length_cons]
    split
    · omega
    · have := firstSeen_le (a := a) (n := n) (ls := r)
      omega
abbrev ltV : Addr × Lt → V := fun y => .ref y.1
structure Ro where
  f : Str
  k : Str
  came : List (Str × Addr × Lt)
  lim : List (Str × Int)
structure Rx where
  x : Addr
  dc : Addr
  dl : Addr
abbrev roF (f k : Str) (dc dl : Addr) : List (Str × V) := [("founder", .str f), ("keeper", .str k), ("_came", .ref dc), ("_limits", .ref dl)]
def LtOk (CL : Addr) (H : Hp) (y : Addr × Lt) : Prop := LtAt Any CL H y.1 y.2 ∧ Wf y.2
theorem LtOk.same {CL : Addr} {H H' : Hp} {y : Addr × Lt} (h : LtOk CL H y) (s : Same H H') : LtOk CL H' y := ⟨h.1.same s, h.2⟩
structure RoAt (CL C : Addr) (H : Hp) (X : Rx) (R : Ro) : Prop where
  hx : ∃ dx, H X.x = some (.ins C dx (roF R.f R.k X.dc X.dl))
  hc : H X.dc = some (.dK (asV ltV R.came))
  hl : H X.dl = some (.dK (asV V.int R.lim))
  ok : ∀ y ∈ R.came, LtOk CL H y.2
theorem RoAt.same {CL C : Addr} {H H' : Hp} {X : Rx} {R : Ro} (h : RoAt CL C H X R) (s : Same H H') : RoAt CL C H' X R := by
  obtain ⟨dx, e⟩ := h.hx
  exact ⟨⟨dx, s _ _ e⟩, s _ _ h.hc, s _ _ h.hl, fun y hy => (h.ok y hy).same s⟩
theorem LtOk.kp0 {CL C x dx : Addr} {H H' : Hp} {y : Addr × Lt} (h : LtOk CL H y) (hx : H x = some (.ins C dx [])) (k : Kp x H H') : LtOk CL H' y := by
  obtain ⟨⟨dx', d, sv, bv, h1, h2, h3, h4, h5⟩, w⟩ := h
  have tk : Tk H H' := ⟨fun b xs e => k _ _ (ne_kind e hx fun z => by cases z) e, fun b o xs e => k _ _ (ne_kind e hx fun z => by cases z) e⟩
  exact ⟨⟨dx', d, sv, bv, k _ _ (ne_kind h1 hx fun z => by
    have := congrArg List.length (HO.ins.inj z).2.2
    exact nomatch this) h1, h2, k _ _ (ne_kind h3 hx fun z => by cases z) h3, h4.tk tk, dn_tk tk w.pb h5⟩, w⟩
/-! what the letters of a room come to -/
def otherB (came : List (Str × Addr × Lt)) (lim : List (Str × Int)) (k nm : Str) : Bool := (getA came nm).isSome && ((getA lim nm).isNone && decide (nm ≠ k))
def putNew (came : List (Str × Addr × Lt)) (nm : Str) (y : Addr × Lt) : List (Str × Addr × Lt) := if (getA came nm).isSome = true then came else came ++ [(nm, y)]
structure Wk where
  came : List (Str × Addr × Lt)
  lim : List (Str × Int)
  k : Str
  row : List (Addr × Lt)
  at_ : Nat
def actW (rf : Str → List (Addr × Lt)) (s : Wk) (y : Addr × Lt) : Bb → Wk
  | .act kd nm _ => if kd = Str.ofString "add" then { s with came := putNew s.came nm y, at_ := s.at_ + 1 }
    else if otherB s.came s.lim s.k nm = true then (if kd = Str.ofString "cut" then { s with lim := s.lim ++ [(nm, cnt y.2.ps nm)], at_ := s.at_ + 1 } else { s with k := nm, row := rf nm, at_ := firstSeen y.2.a y.2.n (rf nm) })
    else { s with at_ := s.at_ + 1 }
  | _ => { s with at_ := s.at_ + 1 }
noncomputable def bbOfR (d : PyData) : Bb := open Classical in if h : ∃ B : Bb, d = B.toD then h.choose else .seen
theorem bbOfR_toD {d : PyData} (h : ∃ B : Bb, d = B.toD) : d = (bbOfR d).toD := by
  unfold bbOfR
  rw [dif_pos h]
  exact h.choose_spec
noncomputable def stepW (rf : Str → List (Addr × Lt)) (s : Wk) : Wk :=
  match s.row[s.at_]? with
  | none => s
  | some y => actW rf s y (bbOfR y.2.b)
noncomputable def iterW (rf : Str → List (Addr × Lt)) : Nat → Wk → Wk
  | 0, s => s
  | n + 1, s => iterW rf n (stepW rf s)
theorem iterW_succ (rf : Str → List (Addr × Lt)) : ∀ n s, iterW rf (n + 1) s = stepW rf (iterW rf n s)
  | 0, _ => rfl
  | n + 1, s => by
    show iterW rf (n + 1) (stepW rf s) = _
    rw [iterW_succ rf n]
    rfl
structure Rw where
  nm : Str
  l : Addr
  ls : List (Addr × Lt)
def rowsF (R : List Rw) (nm : Str) : List (Addr × Lt) := ((R.find? fun x => decide (x.nm = nm)).map (·.ls)).getD []
def rowV (R : List Rw) : List (Str × Addr) := R.map fun x => (x.nm, x.l)
structure RwOk (CL : Addr) (H : Hp) (ls : List (Addr × Lt)) : Prop where
  ok : ∀ y ∈ ls, LtOk CL H y ∧ ∃ B : Bb, y.2.b = B.toD
  len : ls.length ≤ 5000
structure RowsAt (CL : Addr) (H : Hp) (r : Addr) (R : List Rw) : Prop where
  hr : H r = some (.dK (asV V.ref (rowV R)))
  ls : ∀ x ∈ R, H x.l = some (.lst (lsV x.ls)) ∧ RwOk CL H x.ls
theorem RwOk.same {CL : Addr} {H H' : Hp} {ls : List (Addr × Lt)} (h : RwOk CL H ls) (s : Same H H') : RwOk CL H' ls := ⟨fun y hy => ⟨(h.ok y hy).1.same s, (h.ok y hy).2⟩, h.len⟩
theorem RowsAt.same {CL : Addr} {H H' : Hp} {r : Addr} {R : List Rw} (h : RowsAt CL H r R) (s : Same H H') : RowsAt CL H' r R := ⟨s _ _ h.hr, fun x hx => ⟨s _ _ (h.ls x hx).1, (h.ls x hx).2.same s⟩⟩
theorem rows_get : ∀ (R : List Rw) (nm : Str), (getA (rowV R) nm = none ∧ rowsF R nm = []) ∨ ∃ x ∈ R, getA (rowV R) nm = some x.l ∧ rowsF R nm = x.ls
  | [], nm => .inl ⟨rfl, rfl⟩
  | x :: R, nm => by
    by_cases e : x.nm = nm
    · refine .inr ⟨x, List.mem_cons_self .., getA_pos e, ?_⟩
      unfold rowsF
      rw [List.find?_cons, decide_eq_true e]
      rfl
    · have h1 : getA (rowV (x :: R)) nm = getA (rowV R) nm := getA_neg e
      have h2 : rowsF (x :: R) nm = rowsF R nm := by
        unfold rowsF
        rw [List.find?_cons, decide_eq_false e]
      rw [h1, h2]
      exact (rows_get R nm).imp id fun ⟨y, hy, h⟩ => ⟨y, List.mem_cons_of_mem _ hy, h⟩
theorem rows_ok {CL : Addr} {H : Hp} {r : Addr} {R : List Rw} (h : RowsAt CL H r R) (nm : Str) : RwOk CL H (rowsF R nm) := by
  rcases rows_get R nm with ⟨_, e⟩ | ⟨x, hx, _, e⟩
  · rw [e]
    exact ⟨fun y hy => (nomatch hy), Nat.zero_le _⟩
  · rw [e]
    exact (h.ls x hx).2
def initW (f : Str) (ms : List Str) (y0 : Addr × Lt) (row : List (Addr × Lt)) : Wk := ⟨(f :: ms).map fun nm => (nm, y0), [], f, row, 1⟩
def optI : Option Int → V
  | none => .non
  | some i => .int i
def voidB (R : Ro) (nm : Str) (n : Int) : Bool := match getA R.lim nm with | some l => decide (l < n) | none => false
def spSeenP (K : PySem.W.Frag) (C : Addr) : Sp := fun vs H Q _ => ∃ (x t : Addr) (L : Lt) (a : Str) (n : Int), vs = [.ref x, .ref t] ∧ LtAt Any C H x L ∧ H t = some (.tup [.str a, .int n]) ∧ Q (.bl (seenB a n L)) H
def spFirst (K : PySem.W.Frag) (C : Addr) : Sp := fun vs H Q _ => ∃ (t r : Addr) (a : Str) (n : Int) (ls : List (Addr × Lt)), vs = [.ref t, .ref r] ∧ H t = some (.tup [.str a, .int n]) ∧ H r = some (.lst (lsV ls)) ∧ (∀ y ∈ ls, LtOk C H y) ∧ ls.length ≤ 5000 ∧ ∀ H', Same H H' → Q (.int (firstSeen a n ls)) H'
def spRInit (K : PySem.W.Frag) (CL C : Addr) : Sp := fun vs H Q _ => ∃ (x dx dc0 dl0 : Addr) (R : Ro), vs = [.ref x, .str R.f, .str R.k, .ref dc0, .ref dl0] ∧ H x = some (.ins C dx []) ∧ H dc0 = some (.dK (asV ltV R.came)) ∧ H dl0 = some (.dK (asV V.int R.lim)) ∧ (∀ y ∈ R.came, LtOk CL H y.2) ∧
  ∀ H' dc dl, H dc = none → H dl = none → dc ≠ dl → Kp x H H' → RoAt CL C H' ⟨x, dc, dl⟩ R → Q .non H'
def spKnown (K : PySem.W.Frag) (CL C : Addr) : Sp := fun vs H Q _ => ∃ (X : Rx) (R : Ro) (nm : Str), vs = [.ref X.x, .str nm] ∧ RoAt CL C H X R ∧ Q (.bl (getA R.came nm).isSome) H
def spVoid (K : PySem.W.Frag) (CL C : Addr) : Sp := fun vs H Q _ => ∃ (X : Rx) (R : Ro) (t : Addr) (nm : Str) (n : Int), vs = [.ref X.x, .ref t] ∧ RoAt CL C H X R ∧ H t = some (.tup [.str nm, .int n]) ∧ Q (.bl (voidB R nm n)) H
def spRCounts (K : PySem.W.Frag) (CL C : Addr) : Sp := fun vs H Q _ => ∃ (X : Rx) (R : Ro) (t : Addr) (nm : Str) (n : Int), vs = [.ref X.x, .ref t] ∧ RoAt CL C H X R ∧ H t = some (.tup [.str nm, .int n]) ∧ Q (.bl ((getA R.came nm).isSome && !voidB R nm n)) H
def memB (R : Ro) (nm : Str) : Bool := (getA R.came nm).isSome && (getA R.lim nm).isNone
def memL (R : Ro) : List Str := (R.came.map (·.1)).filter fun nm => (getA R.lim nm).isNone
def spIsMember (K : PySem.W.Frag) (CL C : Addr) : Sp := fun vs H Q _ => ∃ (X : Rx) (R : Ro) (nm : Str), vs = [.ref X.x, .str nm] ∧ RoAt CL C H X R ∧ Q (.bl (memB R nm)) H
def spMembers (K : PySem.W.Frag) (CL C : Addr) : Sp := fun vs H Q _ => ∃ (X : Rx) (R : Ro), vs = [.ref X.x] ∧ RoAt CL C H X R ∧ R.came.length ≤ 10000 ∧ X.dc ≠ X.dl ∧ ∀ p H', H p = none → Same H H' → H' p = some (.lst ((memL R).map V.str)) → Q (.ref p) H'
def spCuts (K : PySem.W.Frag) (CL C : Addr) : Sp := fun vs H Q _ => ∃ (X : Rx) (R : Ro), vs = [.ref X.x] ∧ RoAt CL C H X R ∧ ∀ p H', H p = none → Same H H' → H' p = some (.dK (asV V.int R.lim)) → Q (.ref p) H'
def spOther (K : PySem.W.Frag) : Sp := fun vs H Q _ => ∃ (nm k : Str) (dc dl : Addr) (came : List (Str × Addr × Lt)) (lim : List (Str × Int)), vs = [.str nm, .str k, .ref dc, .ref dl] ∧ H dc = some (.dK (asV ltV came)) ∧ H dl = some (.dK (asV V.int lim)) ∧ Q (.bl (otherB came lim k nm)) H
def spRollOf (K : PySem.W.Frag) (CL C : Addr) : Sp := fun vs H Q _ => ∃ (r : Addr) (R : List Rw) (f : Str) (y0 : Addr × Lt) (t : Str) (ms : List Str) (n : Nat) (s : Wk), vs = [.str f, .ref r] ∧ RowsAt CL H r R ∧ (rowsF R f)[0]? = some y0 ∧ y0.2.b = (Bb.found t (ms.map .str)).toD ∧ (f :: ms).Nodup ∧ ms.length ≤ 100 ∧
  n ≤ 5000 ∧ iterW (rowsF R) n (initW f ms y0 (rowsF R f)) = s ∧ s.row.length ≤ s.at_ ∧ ∀ H' X, H X.x = none → H X.dc = none → H X.dl = none → X.dc ≠ X.dl → Same H H' → RoAt CL C H' X ⟨f, s.k, s.came, s.lim⟩ → Q (.ref X.x) H'
section
variable {K : PySem.W.Frag} {C CL : Addr} {vs : List V} {H : Hp} {Q : VK} {E : XK} {σ : L2.St} {D : Ends}
/-- Letter_has_seen: slots 0:self 1:ref 2:name 3:number -/
def t_Letter_has_seen (K : PySem.W.Frag) (C_Letter : Addr) : TS := (tSeq (tAsg (tVar 1) (gTup K 2 (gCons (gName 2) (gCons (gName 3) gNil))))
  (tRet (tOp qGe (tMeth C_Letter "count" (spCount K C_Letter) [] C8.E0 (tVar 0) (tCons (tVar 2) tNil)) (tVar 3))))
theorem l_Letter_has_seen (h : spSeenP K CL vs H Q E) : vs.length = 2 := by obtain ⟨x, t, L, a, n, rfl, _⟩ := h; rfl
theorem r_Letter_has_seen (LCL : IsC_Letter K CL) (h : spSeenP K CL vs H Q E) : t_Letter_has_seen K CL { nx := fun _ H' => Q .non H', rt := Q } (start ["self", "ref", "name", "number"] vs) H := by
  obtain ⟨x, t, L, a, n, rfl, hL, ht, q⟩ := h
  obtain ⟨dx, d, sv, bv, hx, _⟩ := id hL
  unfold t_Letter_has_seen
  refine w_seq (w_asg (w_var rfl ⟨t, _, rfl, SqT.of ht, rfl, gc (w_name (gc (w_name (gn ?_))))⟩))
  refine w_ret (w_op (w_methV rfl hx rfl (w_cons (w_var rfl (w_nil ⟨x, a, L, rfl, hL, w_var rfl (w_I0 ?_)⟩)))))
  exact q
/-- Roll___init__: slots 0:self 1:founder 2:keeper 3:came 4:limits -/
def t_Roll___init__ (K : PySem.W.Frag) (C_Roll : Addr) (C_Letter : Addr) : TS := (tSeq (sFld K (tVar 0) (tVar 1) "founder")
  (tSeq (sFld K (tVar 0) (tVar 2) "keeper")
  (tSeq (sFld K (tVar 0) (tCB Wp.qDictD (tCons (tVar 3) tNil)) "_came")
  (sFld K (tVar 0) (tCB Wp.qDictD (tCons (tVar 4) tNil)) "_limits"))))
theorem l_Roll___init__ (h : spRInit K CL C vs H Q E) : vs.length = 5 := by obtain ⟨x, dx, dc0, dl0, R, rfl, _⟩ := h; rfl
theorem r_Roll___init__ (LC : IsC_Roll K C) (LCL : IsC_Letter K CL) (h : spRInit K CL C vs H Q E) : t_Roll___init__ K C CL { nx := fun _ H' => Q .non H', rt := Q } (start ["self", "founder", "keeper", "came", "limits"] vs) H := by
  obtain ⟨x, dx, dc0, dl0, R, rfl, hx, hc0, hl0, hok, q⟩ := h
  unfold t_Roll___init__
  refine w_seq (w_sfld (w_var rfl (w_var rfl (sfldV hx LC.cl LC.n_founder (show 0 < 1000 by decide) fun G1 k1 g1 => ?_))))
  with_reducible refine w_seq ?_
  refine w_sfld (w_var rfl (w_var rfl (sfldV g1 LC.cl LC.n_keeper (show 1 < 1000 by decide) fun G2 k2 g2 => ?_)))
  have k12 := k1.trans k2
  have n1 : dc0 ≠ x := ne_kind hc0 hx fun z => by cases z
  have n2 : dl0 ≠ x := ne_kind hl0 hx fun z => by cases z
  with_reducible refine w_seq ?_
  refine w_sfld (w_cb (w_cons (w_var rfl (w_nil (w_dictD (k12 _ _ n1 hc0) fun dc G3 f3 s3 e3 => w_var rfl (sfldV (s3 _ _ g2) LC.cl LC.n_came (show 2 < 1000 by decide) fun G4 k4 g4 => ?_))))))
  have k14 := (k12.trans (Same.kp s3)).trans k4
  have nc : dc ≠ x := (ne_of_none g2 f3).symm
  refine w_sfld (w_cb (w_cons (w_var rfl (w_nil (w_dictD (k14 _ _ n2 hl0) fun dl G5 f5 s5 e5 => w_var rfl (sfldV (s5 _ _ g4) LC.cl LC.n_limits (show 3 < 1000 by decide) fun G6 k6 g6 => ?_))))))
  have nl : dl ≠ x := (ne_of_none g4 f5).symm
  have ec4 := k4 _ _ nc e3
  have kA := (k14.trans (Same.kp s5)).trans k6
  refine q G6 dc dl (k12.free nc f3) (k14.free nl f5) (ne_of_none ec4 f5) kA ⟨⟨dx, g6⟩, k6 _ _ nc (s5 _ _ ec4), k6 _ _ nl e5, fun y hy => (hok y hy).kp0 hx kA⟩
/-- Roll_is_known: slots 0:self 1:name -/
def t_Roll_is_known (K : PySem.W.Frag) (C_Roll : Addr) (C_Letter : Addr) : TS := (tRet (tDIn (tVar 1) (tFld K (tVar 0) "_came")))
theorem l_Roll_is_known (h : spKnown K CL C vs H Q E) : vs.length = 2 := by obtain ⟨X, R, nm, rfl, _⟩ := h; rfl
theorem r_Roll_is_known (LC : IsC_Roll K C) (LCL : IsC_Letter K CL) (h : spKnown K CL C vs H Q E) : t_Roll_is_known K C CL { nx := fun _ H' => Q .non H', rt := Q } (start ["self", "name"] vs) H := by
  obtain ⟨X, R, nm, rfl, hR, q⟩ := h
  obtain ⟨dx, hx⟩ := hR.hx
  unfold t_Roll_is_known
  exact w_ret (w_dinW (w_var rfl (w_fldV rfl hx LC.cl LC.n_came rfl ⟨X.dc, _, rfl, DGet.k (k := Sum.inr nm) hR.hc, by rw [valA, Option.isSome_map]; exact q⟩)))
/-- [x for x in d if ..] -/
theorem lcKeysOf {α : Type} {f : α → V} {l : List (Str × α)} {d : Addr} {td : TE} {tt : TT} {i : Nat} (p : Str → Bool) (hd : H d = some (.dK (asV f l))) (hl : l.length ≤ 100000)
    (htd : ∀ (G : Hp) (R : VK), (∀ b o, b ≠ d → H b = some o → G b = some o) → R (.ref d) G → td σ G R)
    (hw : ∀ x, wipe ((wipe σ [i]).set i (some x)) [i] = wipe σ [i]) (hi : ∀ x, ((wipe σ [i]).set i (some x))[i]? = some (some x))
    (ht : ∀ y ∈ l.map (·.1), ∀ (od : Obj) (G : Hp), (∀ b o, b ≠ d → H b = some o → G b = some o) → G d = some (.frz od (.dK (asV f l))) → ∀ R : Bool → Hp → Prop, R (p y) G → tt ((wipe σ [i]).set i (some (.str y))) G R)
    (q : ∀ D H', H D = none → Same H H' → H' D = some (.lst (((l.map (·.1)).filter p).map V.str)) → Q (.ref D) H') : tLockE (tLc (iKeys td) (gName i) tt (tVar i) [i]) σ H Q := by
  refine ⟨d, .dK (asV f l), hd, trivial, fun od => w_lc (htd _ _ (fun b o n e => by rw [upd_ne n]; exact e) ⟨d, od, rfl, .inl ⟨asV f l, upd_same, fun D hD => ?_⟩⟩)⟩
  have nDd : D ≠ d := fun z => by rw [z, upd_same] at hD; cases hD
  have D0 : H D = none := by rw [upd_ne nDd] at hD; exact hD
  refine lc_it walk_keys (fun k G => (∀ b o, b ≠ d → H b = some o → G b = some o) ∧ G d = some (.frz od (.dK (asV f l))) ∧ G D = some (.lst ((((l.take k).map (·.1)).filter p).map V.str))) ⟨fun b o n e => by rw [upd_ne (ne_of_none e D0), upd_ne n]; exact e, by rw [upd_ne nDd.symm, upd_same], upd_same⟩ (fun k G _ e => e.2.1) ?_ ?_
  · rintro k x G Gz hk ⟨kx, ed, eD⟩ ⟨rfl, ky, v, ekv, rfl⟩
    unfold asV at ekv
    rw [List.getElem?_map] at ekv
    obtain ⟨y, hy, e2⟩ := Option.map_eq_some_iff.mp ekv
    injection e2 with e2 _
    subst e2
    have hkl : k < l.length := (List.getElem?_eq_some_iff.mp hy).1
    have et : l.take (k + 1) = l.take k ++ [y] := by rw [List.take_add_one, hy]; rfl
    refine w_name ⟨hw _, ht y.1 (List.mem_map_of_mem (List.mem_of_getElem? hy)) od _ kx ed _ ?_⟩
    cases hp : p y.1 with
    | true =>
      refine ite_t rfl (w_var (hi _) ⟨_, eD, ?_, fun b o n e => ?_, ?_, ?_⟩)
      · rw [List.length_map]
        have h1 := List.length_filter_le p ((l.take k).map (·.1))
        rw [List.length_map, List.length_take] at h1
        exact Nat.lt_of_le_of_lt (show _ ≤ 100000 by omega) (by decide)
      · rw [upd_ne (ne_of_none e D0)]
        exact kx b o n e
      · rw [upd_ne nDd.symm]
        exact ed
      · rw [upd_same, et, List.map_append, List.filter_append, List.map_append, List.map_cons, List.map_nil, List.filter_cons_of_pos hp, List.filter_nil]
        rfl
    | false =>
      refine ite_f (by decide) ⟨kx, ed, ?_⟩
      rw [et, List.map_append, List.filter_append, List.map_cons, List.map_nil, List.filter_cons_of_neg (by simp [hp]), List.filter_nil, List.append_nil]
      exact eD
  · rintro G ⟨kx, ed, eD⟩
    rw [asV_len, List.take_length] at eD
    refine ⟨ed, q D _ D0 (fun b o e => ?_) (by rw [upd_ne nDd]; exact eD)⟩
    by_cases z : b = d
    · rw [z] at e ⊢
      rw [upd_same, ← hd]
      exact e.symm ▸ e
    · rw [upd_ne z]
      exact kx b o z e
/-- Roll_cuts: slots 0:self -/
def t_Roll_cuts (K : PySem.W.Frag) (C_Roll : Addr) (C_Letter : Addr) : TS := (tRet (tCB Wp.qDictD (tCons (tFld K (tVar 0) "_limits") tNil)))
theorem l_Roll_cuts (h : spCuts K CL C vs H Q E) : vs.length = 1 := by obtain ⟨X, R, rfl, _⟩ := h; rfl
theorem r_Roll_cuts (LC : IsC_Roll K C) (LCL : IsC_Letter K CL) (h : spCuts K CL C vs H Q E) : t_Roll_cuts K C CL { nx := fun _ H' => Q .non H', rt := Q } (start ["self"] vs) H := by
  obtain ⟨X, R, rfl, hR, q⟩ := h
  obtain ⟨dx, hx⟩ := hR.hx
  unfold t_Roll_cuts
  exact w_ret (w_cb (w_cons (w_fldV rfl hx LC.cl LC.n_limits rfl (w_nil (w_dictD hR.hl q)))))
/-- _is_other_member: slots 0:name 1:keeper 2:came 3:limits -/
def t__is_other_member (K : PySem.W.Frag) : TS := (tRet (tAndV (tDIn (tVar 0) (tVar 2)) (tAndV (tDNotIn (tVar 0) (tVar 3)) (tOp rNe (tVar 0) (tVar 1)))))
theorem l__is_other_member (h : spOther K vs H Q E) : vs.length = 4 := by obtain ⟨nm, k, dc, dl, came, lim, rfl, _⟩ := h; rfl
theorem r__is_other_member (h : spOther K vs H Q E) : t__is_other_member K { nx := fun _ H' => Q .non H', rt := Q } (start ["name", "keeper", "came", "limits"] vs) H := by
  obtain ⟨nm, k, dc, dl, came, lim, rfl, hc, hl, q⟩ := h
  unfold t__is_other_member
  refine w_ret (w_andV (w_dinW (w_var rfl (w_var rfl ⟨dc, _, rfl, DGet.k (k := Sum.inr nm) hc, ?_⟩))))
  rw [valA, Option.isSome_map]
  unfold otherB at q
  cases e : (getA came nm).isSome with
  | false =>
    rw [e] at q
    exact ⟨false, rfl, ite_f (by decide) q⟩
  | true =>
    rw [e] at q
    refine ⟨true, rfl, ite_t rfl (w_andV (w_dnotinW (w_var rfl (w_var rfl ⟨dl, _, rfl, DGet.k (k := Sum.inr nm) hl, ?_⟩))))⟩
    rw [valA, Option.isSome_map]
    cases e2 : getA lim nm with
    | some l =>
      rw [e2] at q
      exact ⟨false, rfl, ite_f (by decide) q⟩
    | none =>
      rw [e2] at q
      exact ⟨true, rfl, ite_t rfl (w_op (w_var rfl (w_var rfl (w_neS q))))⟩
/-- _first_that_has_seen: slots 0:ref 1:row 2:index 3:letter -/
def t__first_that_has_seen (K : PySem.W.Frag) (C_Letter : Addr) : TS := (tSeq (tFor (iEnum K (tCons (tVar 1) tNil)) (gTup K 2 (gCons (gName 2) (gCons (gName 3) gNil))) (tIfS (tB (tMeth C_Letter "has_seen" (spSeenP K C_Letter) [] C8.E0 (tVar 3) (tCons (tVar 0) tNil))) (tRet (tVar 2)) tNext))
  (tRet (tCB (qLenSeq K) (tCons (tVar 1) tNil))))
theorem l__first_that_has_seen (h : spFirst K CL vs H Q E) : vs.length = 2 := by obtain ⟨t, r, a, n, ls, rfl, _⟩ := h; rfl
theorem r__first_that_has_seen (LCL : IsC_Letter K CL) (h : spFirst K CL vs H Q E) : t__first_that_has_seen K CL { nx := fun _ H' => Q .non H', rt := Q } (start ["ref", "row", "index", "letter"] vs) H := by
  obtain ⟨t, r, a, n, ls, rfl, ht, hr, hok, hlen, q⟩ := h
  unfold t__first_that_has_seen
  refine w_seq (w_for (w_iEnum (w_cons (w_var rfl (w_nil ⟨r, _, rfl, SqL.of hr, ?_⟩)))))
  refine for_it (walk_enum (xs := lsV ls)) (fun k σ G => (∃ u2 u3, σ = [some (.ref t), some (.ref r), u2, u3]) ∧ Same H G ∧ ∀ i, i < k → ∀ z, ls[i]? = some z → seenB a n z.2 = false) ⟨⟨_, _, rfl⟩, Same.refl _, fun i hi => absurd hi (Nat.not_lt_zero _)⟩ (fun _ _ _ _ e => SqL.of (e.2.1 _ _ hr)) ?_ ?_
  · rintro k v σ Gz G' hk ⟨⟨u2, u3, rfl⟩, s, hno⟩ ⟨T, x, y, rfl, hT, rfl, hx, hy⟩
    obtain rfl : V.int (k : Nat) = x := Option.some.inj hx
    dsimp only at hy
    rw [List.getElem?_map] at hy
    obtain ⟨o, ho, rfl⟩ := Option.map_eq_some_iff.mp hy
    obtain ⟨G2, eG, s2, e2⟩ := newT (o := .tup [V.int (k : Nat), V.ref o.1]) hT
    rw [← eG]
    have sA := s.trans s2
    have hL := ((hok o (List.mem_of_getElem? ho)).1.same sA)
    obtain ⟨dx, d, sv, bv, hox, _⟩ := id hL
    refine ⟨T, _, rfl, SqT.of e2, rfl, gc (w_name (gc (w_name (gn ?_))))⟩
    refine w_ifS (w_B (w_methV rfl hox rfl (w_cons (w_var rfl (w_nil ⟨o.1, t, o.2, a, n, rfl, hL, sA _ _ ht, w_exb ?_⟩)))))
    cases hs : seenB a n o.2 with
    | true =>
      refine ite_t rfl (w_ret (w_var rfl ?_))
      have := q G2 sA
      rw [firstSeen_hit hno ho hs] at this
      exact this
    | false =>
      refine ite_f (by decide) (w_next ⟨⟨_, _, rfl⟩, sA, fun i hi z hz => ?_⟩)
      rcases Nat.lt_or_ge i k with h | h
      · exact hno i h z hz
      · have : i = k := by omega
        subst this
        rw [ho] at hz
        rw [← Option.some.inj hz]
        exact hs
  · rintro σ G ⟨⟨u2, u3, rfl⟩, s, hno⟩
    refine w_ret (w_cb (w_cons (w_var rfl (w_nil (w_lenL (SqL.of (s _ _ hr)) ?_)))))
    have := q G s
    rw [firstSeen_len fun y hy => by
      obtain ⟨i, hi⟩ := List.mem_iff_getElem?.mp hy
      exact hno i (by rw [lsV_len]; exact (List.getElem?_eq_some_iff.mp hi).1) y hi] at this
    rw [lsV_len]
    exact this
end

/-! ### rolls where nobody unknown is asked for -/
def spMust (K : PySem.W.Frag) (CL C : Addr) : Sp := fun vs H Q _ => ∃ (X : Rx) (R : Ro) (nm : Str), vs = [.ref X.x, .str nm] ∧ RoAt CL C H X R ∧ (getA R.came nm).isSome = true ∧ Q .non H
def spLimit (K : PySem.W.Frag) (CL C : Addr) : Sp := fun vs H Q _ => ∃ (X : Rx) (R : Ro) (nm : Str), vs = [.ref X.x, .str nm] ∧ RoAt CL C H X R ∧ (getA R.came nm).isSome = true ∧ Q (optI (getA R.lim nm)) H
def spCameBy (K : PySem.W.Frag) (CL C : Addr) : Sp := fun vs H Q _ => ∃ (X : Rx) (R : Ro) (nm : Str) (y : Addr × Lt), vs = [.ref X.x, .str nm] ∧ RoAt CL C H X R ∧ getA R.came nm = some y ∧ Q (.ref y.1) H
section
variable {K : PySem.W.Frag} {C CL : Addr} {vs : List V} {H : Hp} {Q : VK} {E : XK} {σ : L2.St} {D : Ends}
/-- Roll__must_know: slots 0:self 1:name -/
def t_Roll__must_know (K : PySem.W.Frag) (C_Roll : Addr) (C_Letter : Addr) : TS := (tIfS (tB (tDNotIn (tVar 1) (tFld K (tVar 0) "_came"))) Wp.tNo tNext)
theorem l_Roll__must_know (h : spMust K CL C vs H Q E) : vs.length = 2 := by obtain ⟨X, R, nm, rfl, _⟩ := h; rfl
theorem r_Roll__must_know (LC : IsC_Roll K C) (LCL : IsC_Letter K CL) (h : spMust K CL C vs H Q E) : t_Roll__must_know K C CL { nx := fun _ H' => Q .non H', rt := Q } (start ["self", "name"] vs) H := by
  obtain ⟨X, R, nm, rfl, hR, hk, q⟩ := h
  obtain ⟨dx, hx⟩ := hR.hx
  unfold t_Roll__must_know
  exact w_ifS (w_B (w_dnotinW (w_var rfl (w_fldV rfl hx LC.cl LC.n_came rfl ⟨X.dc, _, rfl, DGet.k (k := Sum.inr nm) hR.hc, w_exb (ite_f (by rw [valA, Option.isSome_map, hk]; decide) (w_next q))⟩))))
/-- Roll_came_by: slots 0:self 1:name -/
def t_Roll_came_by (K : PySem.W.Frag) (C_Roll : Addr) (C_Letter : Addr) : TS := (tSeq (tDrop (tMeth C_Roll "_must_know" (spMust K C_Letter C_Roll) [] C8.E0 (tVar 0) (tCons (tVar 1) tNil)))
  (tRet (tDGet (tFld K (tVar 0) "_came") (tVar 1))))
theorem l_Roll_came_by (h : spCameBy K CL C vs H Q E) : vs.length = 2 := by obtain ⟨X, R, nm, y, rfl, _⟩ := h; rfl
theorem r_Roll_came_by (LC : IsC_Roll K C) (LCL : IsC_Letter K CL) (h : spCameBy K CL C vs H Q E) : t_Roll_came_by K C CL { nx := fun _ H' => Q .non H', rt := Q } (start ["self", "name"] vs) H := by
  obtain ⟨X, R, nm, y, rfl, hR, ey, q⟩ := h
  obtain ⟨dx, hx⟩ := hR.hx
  unfold t_Roll_came_by
  refine w_seq (w_drop (w_methV rfl hx rfl (w_cons (w_var rfl (w_nil ⟨X, R, nm, rfl, hR, by rw [ey]; rfl, ?_⟩)))))
  exact w_ret (w_dget (w_fldV rfl hx LC.cl LC.n_came rfl (w_var rfl ⟨X.dc, .ref y.1, rfl, valA_some ltV ey ▸ DGet.k (k := Sum.inr nm) hR.hc, q⟩)))
end

/-! ### roll_of -/
theorem dn_strs_inv {ok : Addr → Prop} {H : Hp} : ∀ {ms : List Str} {xs : List V}, DnAll ok H xs (ms.map .str) → xs = ms.map V.str
  | [], _, .nil => rfl
  | m :: ms, _, .cons h hs => by
    cases h
    rw [dn_strs_inv hs]
    rfl
theorem act_of {b : Bb} (h : actB b = true) : ∃ kd nm hkd, b = .act kd nm hkd := by
  have h := of_decide_eq_true h
  cases b with
  | act kd nm hkd => exact ⟨kd, nm, hkd, rfl⟩
  | say t => exact absurd h (show ¬ (Str.ofString "say" ∈ [Str.ofString "add", Str.ofString "cut", Str.ofString "hand"]) by decide +kernel)
  | reply a n t => exact absurd h (show ¬ (Str.ofString "reply" ∈ [Str.ofString "add", Str.ofString "cut", Str.ofString "hand"]) by decide +kernel)
  | edit a n t => exact absurd h (show ¬ (Str.ofString "edit" ∈ [Str.ofString "add", Str.ofString "cut", Str.ofString "hand"]) by decide +kernel)
  | recall a n => exact absurd h (show ¬ (Str.ofString "recall" ∈ [Str.ofString "add", Str.ofString "cut", Str.ofString "hand"]) by decide +kernel)
  | mark a n t => exact absurd h (show ¬ (Str.ofString "mark" ∈ [Str.ofString "add", Str.ofString "cut", Str.ofString "hand"]) by decide +kernel)
  | title t => exact absurd h (show ¬ (Str.ofString "title" ∈ [Str.ofString "add", Str.ofString "cut", Str.ofString "hand"]) by decide +kernel)
  | seen => exact absurd h (show ¬ (Str.ofString "seen" ∈ [Str.ofString "add", Str.ofString "cut", Str.ofString "hand"]) by decide +kernel)
  | found t ds => exact absurd h (show ¬ (Str.ofString "found" ∈ [Str.ofString "add", Str.ofString "cut", Str.ofString "hand"]) by decide +kernel)
def WkOk (CL : Addr) (H : Hp) (s : Wk) : Prop := (∀ y ∈ s.came, LtOk CL H y.2) ∧ RwOk CL H s.row
theorem WkOk.same {CL : Addr} {H H' : Hp} {s : Wk} (h : WkOk CL H s) (t : Same H H') : WkOk CL H' s := ⟨fun y hy => (h.1 y hy).same t, h.2.same t⟩
theorem putNew_mem {came : List (Str × Addr × Lt)} {nm : Str} {y : Addr × Lt} {z : Str × Addr × Lt} (h : z ∈ putNew came nm y) : z ∈ came ∨ z = (nm, y) := by
  unfold putNew at h
  split at h
  · exact .inl h
  · rcases List.mem_append.mp h with h | h
    · exact .inl h
    · exact .inr (List.mem_singleton.mp h)
theorem putNew_len (came : List (Str × Addr × Lt)) (nm : Str) (y : Addr × Lt) : (putNew came nm y).length ≤ came.length + 1 := by
  unfold putNew
  split
  · omega
  · rw [List.length_append, List.length_singleton]
    exact Nat.le_refl _
theorem len_asV {α : Type} {f : α → V} {l : List (Str × α)} {n : Nat} (h : l.length ≤ n) (hn : n ≤ 100000) : (asV f l).length ≤ 100000 := by
  rw [asV_len]
  omega
section
variable {K : PySem.W.Frag} {C CL : Addr} {vs : List V} {H : Hp} {Q : VK} {E : XK} {σ : L2.St} {D : Ends}
theorem bb_act {y : Addr × Lt} {G : Hp} (hL : LtAt Any CL G y.1 y.2) (hB : ∃ B : Bb, y.2.b = B.toD) : ∃ dx d sv bt, G y.1 = some (.ins CL dx (lfs y.2.a y.2.n y.2.s sv (.ref bt) d)) ∧ Dn Any G (.ref bt) (Bb.toD (bbOfR y.2.b)) ∧ ∃ xs, G bt = some (.tup (.str (bbOfR y.2.b).kind :: xs)) ∧ DnAll Any G xs (bbOfR y.2.b).rest := by
  obtain ⟨dx, d, sv, bv, hox, _, _, _, hbv⟩ := hL
  rw [bbOfR_toD hB] at hbv
  obtain ⟨bt, xs, rfl, hbt, hxs⟩ := bb_at hbv
  exact ⟨dx, d, sv, bt, hox, hbv, xs, hbt, hxs⟩
/-- roll_of: slots 0:founder 1:rows 2:founding 3:name 4:came 5:limits 6:keeper 7:row 8:at 9:letter 10:kind -/
def t_roll_of (K : PySem.W.Frag) (C_Letter : Addr) (C_Roll : Addr) : TS := (tSeq (tAsg (tOp (rIxL K) (tDGet (tVar 1) (tVar 0)) (tC (.int 0))) (gName 2))
  (tSeq (tAsg (tDc (iTup K (tTup (tCons (tVar 0) (StX.tStar K (tOp (rIxT K) (tFld K (tVar 2) "body") (tC (.int 2))) tNil)))) (gName 3) tYes (tVar 3) (tVar 2) [3]) (gName 4))
  (tSeq (tAsg tDNewK (gName 5))
  (tSeq (tAsg (tVar 0) (gName 6))
  (tSeq (tPar 7 8 (tCons (tDGet (tVar 1) (tVar 0)) (tCons (tC (.int 1)) tNil)))
  (tSeq (tWhile (tTest (tOp qLt (tVar 8) (tCB (qLenSeq K) (tCons (tVar 7) tNil)))) (tSeq (tAsg (tOp (rIxL K) (tVar 7) (tVar 8)) (gName 9))
  (tSeq (tAug 8 (tC (.int 1)) (ipI fun i j => i + j))
  (tSeq (tIfS (tNot (tB (tCall (spIsAct K) [] C8.E0 (tCons (tFld K (tVar 9) "body") tNil)))) tCont tNext)
  (tSeq (tAsg (tFld K (tVar 9) "body") (gTup K 2 (gCons (gName 10) (gCons (gName 3) gNil))))
  (tIfS (tTest (tOp rEq (tVar 10) (tC (.str "add")))) (tDrop (tDSetd (tVar 4) (tVar 3) (tVar 9))) (tIfS (tB (tCall (spOther K) [] C8.E0 (tCons (tVar 3) (tCons (tVar 6) (tCons (tVar 4) (tCons (tVar 5) tNil)))))) (tIfS (tTest (tOp rEq (tVar 10) (tC (.str "cut")))) (sDPut (tVar 5) (tVar 3) (tMeth C_Letter "count" (spCount K C_Letter) [] C8.E0 (tVar 9) (tCons (tVar 3) tNil))) (tSeq (tAsg (tVar 3) (gName 6))
  (tSeq (tAsg (tDGet2 (tVar 1) (tVar 3) (tLst tNil)) (gName 7))
  (tAsg (tCall (spFirst K C_Letter) [] C8.E0 (tCons (tProp C_Letter (spRefP K C_Letter) [] C8.E0 (tVar 9)) (tCons (tVar 7) tNil))) (gName 8))))) tNext)))))))
  (tRet (tMake C_Roll (spRInit K C_Letter C_Roll) [] C8.E0 (tCons (tVar 0) (tCons (tVar 6) (tCons (tVar 4) (tCons (tVar 5) tNil))))))))))))
theorem l_roll_of (h : spRollOf K CL C vs H Q E) : vs.length = 2 := by obtain ⟨r, R, f, y0, t, ms, n, s, rfl, _⟩ := h; rfl
theorem r_roll_of (LCL : IsC_Letter K CL) (LC : IsC_Roll K C) (h : spRollOf K CL C vs H Q E) : t_roll_of K CL C { nx := fun _ H' => Q .non H', rt := Q } (start ["founder", "rows", "founding", "name", "came", "limits", "keeper", "row", "at", "letter", "kind"] vs) H := by
  obtain ⟨r, R, f, y0, t, ms, n, s, rfl, hR, h0, hb0, hnd, hms, hn, hit, hend, q⟩ := h
  obtain ⟨x0, hx0, hg0, hr0⟩ : ∃ x ∈ R, getA (rowV R) f = some x.l ∧ rowsF R f = x.ls := by
    rcases rows_get R f with ⟨_, e⟩ | h
    · rw [e] at h0
      exact nomatch h0
    · exact h
  have hrow0 := (hR.ls x0 hx0).1
  have hok0 := (hR.ls x0 hx0).2
  rw [← hr0] at hrow0 hok0
  have hy0 := List.mem_of_getElem? h0
  have hL0 := (hok0.ok y0 hy0).1
  unfold t_roll_of
  refine w_seq (w_asg (w_op (w_dget (w_var rfl (w_var rfl ⟨r, .ref x0.l, rfl, valA_some V.ref hg0 ▸ DGet.k (k := Sum.inr f) hR.hr, w_c (w_ixL (v := .ref y0.1) (SqL.of hrow0) (atI_nat (j := 0) (by rw [List.getElem?_map, h0]; rfl)) (w_name ?_))⟩)))))
  -- who came with the founding letter
  obtain ⟨dx0, d0, sv0, bv0, hox0, _, _, _, hbv0⟩ := id hL0.1
  rw [hb0] at hbv0
  obtain ⟨bt0, xs0, rfl, hbt0, hxs0⟩ := bb_at hbv0
  obtain ⟨tm, hxe, htm⟩ : ∃ tm, xs0 = [.str t, .ref tm] ∧ H tm = some (.tup (ms.map V.str)) := by
    cases hxs0 with
    | cons h1 h2 =>
      cases h1
      cases h2 with
      | cons h3 h4 =>
        cases h4
        cases h3 with
        | @tup a xs _ _ ha hs =>
          refine ⟨a, rfl, ?_⟩
          have : xs = ms.map V.str := dn_strs_inv hs
          rw [← this]
          exact ha
  subst hxe
  with_reducible refine w_seq ?_
  refine w_asg (show tDc _ _ _ _ _ _ _ _ _ from ?_)
  refine w_iTup (w_tupV (w_cons (w_var rfl (w_star (w_op (w_fldV rfl hox0 LCL.cl LCL.n_body lfs_body (w_c (w_ixT (SqT.of hbt0) (atI_nat (j := 2) rfl) ⟨tm, _, rfl, .inl (SqT.of htm), w_nil ⟨sz (by rw [List.length_cons, List.length_append, List.length_map, List.length_nil]; omega), w_new fun t1 H1 f1 s1 e1 => ⟨t1, rfl, ⟨_, SqT.of e1⟩, fun dc hdc => ?_⟩⟩⟩))))))))
  have e1' : H1 t1 = some (.tup ((f :: ms).map V.str)) := by
    rw [e1, List.append_nil]
    rfl
  refine dc_tup (xs := (f :: ms).map V.str) (fun i H' => (∀ b o, b ≠ dc → H1 b = some o → H' b = some o) ∧ H' dc = some (.dK (asV ltV (((f :: ms).take i).map fun nm => (nm, y0))))) ⟨fun b o nb e => by rw [upd_ne nb]; exact e, upd_same⟩ (fun i H' _ pv => SqT.of (pv.1 _ _ (ne_of_none e1' hdc) e1')) (fun i v H' hv pv => ?_) (fun H2 pv => ?_)
  · rw [List.getElem?_map] at hv
    obtain ⟨m, hm, rfl⟩ := Option.map_eq_some_iff.mp hv
    have hil : i < (f :: ms).length := (List.getElem?_eq_some_iff.mp hm).1
    refine w_name ⟨rfl, w_yes (iteT_ (w_var rfl (w_var rfl ⟨_, Sum.inr m, rfl, pv.2, ?_, fun b o nb e => by rw [upd_ne nb]; exact pv.1 b o nb e, ?_⟩)))⟩
    · rw [asV_len, List.length_map, List.length_take]
      exact Nat.lt_of_le_of_lt (show min i (f :: ms).length ≤ 1000 by rw [List.length_cons]; omega) (by decide)
    · rw [upd_same, putA_new (a := y0) (getA_none.mpr ?_) rfl, List.take_add_one, hm, List.map_append]
      · rfl
      · rw [List.map_map]
        intro z
        obtain ⟨w, hw, e⟩ := List.mem_map.mp z
        have e : w = m := e
        subst e
        obtain ⟨j, hj⟩ := List.mem_iff_getElem?.mp hw
        rw [List.getElem?_take] at hj
        split at hj
        · have := (List.getElem?_inj hil hnd).mp (hm.trans hj.symm)
          omega
        · exact nomatch hj
  obtain ⟨p1, p2⟩ := pv
  rw [show ((f :: ms).map V.str).length = (f :: ms).length from List.length_map _, List.take_length] at p2
  have s12 : Same H H2 := fun b o e => p1 b o (ne_of_none (s1 _ _ e) hdc) (s1 _ _ e)
  have dc0 : H dc = none := same_none s1 hdc
  refine w_name ?_
  with_reducible refine w_seq ?_
  refine w_asg (w_dnewK fun dl H3 f3 s3 e3 => w_name ?_)
  have s13 := s12.trans s3
  have dl0 : H dl = none := same_none s12 f3
  have ncl : dc ≠ dl := ne_of_none p2 f3
  have c3 := s3 _ _ p2
  with_reducible refine w_seq ?_
  refine w_asg (w_var rfl (w_name ?_))
  with_reducible refine w_seq ?_
  refine w_par (w_cons (w_dget (w_var rfl (w_var rfl ⟨r, .ref x0.l, rfl, valA_some V.ref hg0 ▸ DGet.k (k := Sum.inr f) (s13 _ _ hR.hr), w_cons (w_c (w_nil ⟨_, _, rfl, ?_⟩))⟩))))
  have s14 := s13
  have c4 := c3
  have l4 := e3
  clear s1 e1 e1' p1 p2 s3 e3 f3 f1 c3 hdc s12 s13
  -- the letters
  with_reducible refine w_seq ?_
  refine w_whileW ⟨fun m σ G => ∃ (k : Nat) (w : Wk) (ra : Addr) (u3 u9 u10 : Option V), m = n - k ∧ k ≤ n ∧ w = iterW (rowsF R) k (initW f ms y0 (rowsF R f)) ∧ σ = [some (.str f), some (.ref r), some (.ref y0.1), u3, some (.ref dc), some (.ref dl), some (.str w.k), some (.ref ra), some (.int (w.at_ : Nat)), u9, u10] ∧
    Same H G ∧ G dc = some (.dK (asV ltV w.came)) ∧ G dl = some (.dK (asV V.int w.lim)) ∧ G ra = some (.lst (lsV w.row)) ∧ WkOk CL H w ∧ w.came.length ≤ 101 + k ∧ w.lim.length ≤ k, ⟨n, 0, _, x0.l, _, _, _, by omega, Nat.zero_le _, rfl, rfl, s14, c4, l4, ?_, ⟨fun y hy => ?_, ?_⟩, ?_, Nat.le_refl _⟩, ?_⟩
  · exact s14 _ _ hrow0
  · obtain ⟨nm, _, rfl⟩ := List.mem_map.mp hy
    exact hL0
  · exact hok0
  · show ((f :: ms).map fun nm => (nm, y0)).length ≤ 101
    rw [List.length_map, List.length_cons]
    omega
  clear s14 c4 l4 hrow0 hok0 hox0 hbv0 hbt0 hxs0 htm
  rintro m σ G ⟨k, w, ra, u3, u9, u10, rfl, hk, hw, rfl, sG, gc0, gl0, gr, hok, hcl, hll⟩
  refine w_test (w_op (w_var rfl (w_cb (w_cons (w_var rfl (w_nil (w_lenL (SqL.of gr) (w_I0 (w_exb (w_ite (fun c => ?_) (fun c => ?_)))))))))))
  · rw [lsV_len] at c
    have hlt : w.at_ < w.row.length := by omega
    have hkn : k < n := by
      rcases Nat.lt_or_ge k n with h | h
      · exact h
      · have : k = n := by omega
        subst this
        rw [← hw] at hit
        subst hit
        omega
    obtain ⟨y, hy⟩ : ∃ y, w.row[w.at_]? = some y := ⟨_, List.getElem?_eq_getElem hlt⟩
    have hym := List.mem_of_getElem? hy
    obtain ⟨hyL, hyB⟩ := hok.2.ok y hym
    have hnext : iterW (rowsF R) (k + 1) (initW f ms y0 (rowsF R f)) = actW (rowsF R) w y (bbOfR y.2.b) := by
      rw [iterW_succ, ← hw]
      unfold stepW
      rw [hy]
    have done : ∀ (w' : Wk) (ra' : Addr) (u3 u9 u10 : Option V) (σ' : L2.St) (G' : Hp), actW (rowsF R) w y (bbOfR y.2.b) = w' → σ' = [some (.str f), some (.ref r), some (.ref y0.1), u3, some (.ref dc), some (.ref dl), some (.str w'.k), some (.ref ra'), some (.int (w'.at_ : Nat)), u9, u10] →
        Same H G' → G' dc = some (.dK (asV ltV w'.came)) → G' dl = some (.dK (asV V.int w'.lim)) → G' ra' = some (.lst (lsV w'.row)) → WkOk CL H w' → w'.came.length ≤ 101 + (k + 1) → w'.lim.length ≤ k + 1 →
        ∃ m', m' < n - k ∧ ∃ (k : Nat) (w : Wk) (ra : Addr) (u3 u9 u10 : Option V), m' = n - k ∧ k ≤ n ∧ w = iterW (rowsF R) k (initW f ms y0 (rowsF R f)) ∧ σ' = [some (.str f), some (.ref r), some (.ref y0.1), u3, some (.ref dc), some (.ref dl), some (.str w.k), some (.ref ra), some (.int (w.at_ : Nat)), u9, u10] ∧
          Same H G' ∧ G' dc = some (.dK (asV ltV w.came)) ∧ G' dl = some (.dK (asV V.int w.lim)) ∧ G' ra = some (.lst (lsV w.row)) ∧ WkOk CL H w ∧ w.came.length ≤ 101 + k ∧ w.lim.length ≤ k :=
      fun w' ra' u3 u9 u10 σ' G' e1 e2 e3 e4 e5 e6 e7 e8 e9 => ⟨n - (k + 1), by omega, k + 1, w', ra', u3, u9, u10, rfl, by omega, by rw [hnext]; exact e1.symm, e2, e3, e4, e5, e6, e7, e8, e9⟩
    refine ⟨_, fun σ' H' z => z, ?_⟩
    refine w_seq (w_asg (w_op (w_var rfl (w_var rfl (w_ixL (v := .ref y.1) (SqL.of gr) (atI_nat (by rw [List.getElem?_map, hy]; rfl)) (w_name ?_))))))
    with_reducible refine w_seq ?_
    refine w_aug rfl (w_c (w_ipI ?_))
    obtain ⟨dxy, dy, svy, bty, hox, hbd, xs, hbt, hxs⟩ := bb_act (hyL.1.same sG) hyB
    generalize hb : bbOfR y.2.b = b at hbd hbt hxs done
    have eat : ((w.at_ : Nat) : Int) + 1 = ((w.at_ + 1 : Nat) : Int) := by omega
    with_reducible refine w_seq ?_
    refine w_ifS (w_not (w_B (w_call (w_cons (w_fldV rfl hox LCL.cl LCL.n_body lfs_body (w_nil ⟨_, b, rfl, hbd, fun G1 s1 => w_exb ?_⟩))))))
    have sA := sG.trans s1
    have skip : actW (rowsF R) w y b = { w with at_ := w.at_ + 1 } → ∀ (u3 u9 u10 : Option V) (G' : Hp), Same G1 G' → _ := fun e u3 u9 u10 G' s' =>
      done _ ra u3 u9 u10 _ G' e rfl (sA.trans s') (s' _ _ (s1 _ _ gc0)) (s' _ _ (s1 _ _ gl0)) (s' _ _ (s1 _ _ gr)) hok (by show w.came.length ≤ _; omega) (by show w.lim.length ≤ _; omega)
    have notact : actB b = false → actW (rowsF R) w y b = { w with at_ := w.at_ + 1 } := fun z => by
      cases b with
      | act kd nm hkd =>
        unfold actB at z
        have z := of_decide_eq_false z
        exact absurd (by rcases hkd with h | h | h <;> (show kd ∈ _; rw [h]; simp)) z
      | _ => rfl
    cases hab : actB b with
    | false =>
      refine ite_t rfl (w_cont ?_)
      rw [eat]
      exact skip (notact hab) _ _ _ G1 (Same.refl _)
    | true =>
    refine ite_f (by decide) (w_next ?_)
    obtain ⟨kd, nm, hkd, rfl⟩ := act_of hab
    obtain rfl : xs = [.str nm] := by
      cases hxs with
      | cons h1 h2 =>
        cases h1
        cases h2
        rfl
    have c1 := s1 _ _ gc0
    have l1 := s1 _ _ gl0
    have r1 := s1 _ _ gr
    have o1 := s1 _ _ hox
    with_reducible refine w_seq ?_
    refine w_asg (w_fldV rfl o1 LCL.cl LCL.n_body lfs_body ⟨bty, _, rfl, SqT.of (s1 _ _ hbt), rfl, gc (w_name (gc (w_name (gn ?_))))⟩)
    refine w_ifS (w_test (w_op (w_var rfl (w_c (w_eqS (w_exb (w_ite (fun hadd => ?_) (fun hadd => ?_))))))))
    · -- add
      have hadd : kd = Str.ofString "add" := hadd
      have ha : actW (rowsF R) w y (.act kd nm hkd) = { w with came := putNew w.came nm y, at_ := w.at_ + 1 } := by
        unfold actW
        exact if_pos hadd
      have hokA : WkOk CL H { w with came := putNew w.came nm y, at_ := w.at_ + 1 } := ⟨fun z hz => (putNew_mem hz).elim (hok.1 z) fun e => by rw [e]; exact hyL, hok.2⟩
      have hlA : (putNew w.came nm y).length ≤ 101 + (k + 1) := Nat.le_trans (putNew_len _ _ _) (by omega)
      with_reducible refine w_drop ?_
      refine w_dsetd (w_var rfl ⟨dc, rfl, .inl ⟨_, .inl c1⟩, w_var rfl (w_var rfl ⟨_, Sum.inr nm, c1, rfl, Nat.lt_of_le_of_lt (len_asV (n := 10000) (by omega) (by decide)) (by decide), fun v hv => ?_, fun hv => ?_⟩)⟩)
      · rw [valA] at hv
        have hs : (getA w.came nm).isSome = true := by
          cases e : getA w.came nm with
          | none => rw [e] at hv; exact nomatch hv
          | some a => rfl
        have hp : putNew w.came nm y = w.came := if_pos hs
        rw [eat]
        exact done _ ra _ _ _ _ G1 ha rfl sA (by rw [hp]; exact c1) l1 r1 hokA hlA (by show w.lim.length ≤ _; omega)
      · rw [valA] at hv
        have hs : getA w.came nm = none := by
          cases e : getA w.came nm with
          | none => rfl
          | some a => rw [e] at hv; exact nomatch hv
        have hp : putNew w.came nm y = w.came ++ [(nm, y)] := if_neg (by rw [hs]; decide)
        rw [eat, putA_new (a := y) hs rfl]
        have kk : Kp dc G1 (upd G1 dc (.dK (asV ltV (w.came ++ [(nm, y)])))) := Kp.refl.updp
        refine done _ ra _ _ _ _ _ ha rfl (Same.kp0 sA kk dc0) (by rw [hp]; exact upd_same) (kk _ _ ncl.symm l1) (kk _ _ (ne_kind r1 c1 fun z => by cases z) r1) hokA hlA (by show w.lim.length ≤ _; omega)
    · have hadd : kd ≠ Str.ofString "add" := hadd
      refine w_ifS (w_B (w_call (w_cons (w_var rfl (w_cons (w_var rfl (w_cons (w_var rfl (w_cons (w_var rfl (w_nil ⟨nm, w.k, dc, dl, w.came, w.lim, rfl, c1, l1, w_exb ?_⟩)))))))))))
      cases ho : otherB w.came w.lim w.k nm with
      | false =>
        refine ite_f (by decide) (w_next ?_)
        rw [eat]
        exact skip (by unfold actW; exact (if_neg hadd).trans (if_neg (by rw [ho]; decide))) _ _ _ G1 (Same.refl _)
      | true =>
        refine ite_t rfl (w_ifS (w_test (w_op (w_var rfl (w_c (w_eqS (w_exb (w_ite (fun hcut => ?_) (fun hcut => ?_)))))))))
        · -- cut
          have ha : actW (rowsF R) w y (.act kd nm hkd) = { w with lim := w.lim ++ [(nm, cnt y.2.ps nm)], at_ := w.at_ + 1 } := by
            unfold actW
            exact (if_neg hadd).trans ((if_pos ho).trans (if_pos hcut))
          have hnl : getA w.lim nm = none := by
            unfold otherB at ho
            rw [Bool.and_eq_true, Bool.and_eq_true] at ho
            exact Option.isNone_iff_eq_none.mp ho.2.1
          refine w_dput (w_methV rfl o1 rfl (w_cons (w_var rfl (w_nil ⟨y.1, nm, y.2, rfl, hyL.1.same sA, w_var rfl (w_var rfl (dputK (k := Sum.inr nm) l1 (len_asV (n := 10000) (by omega) (by decide)) fun G2 k2 g2 => ?_))⟩))))
          rw [putA_new (a := cnt y.2.ps nm) hnl rfl] at g2
          rw [eat]
          exact done _ ra _ _ _ _ G2 ha rfl (Same.kp0 sA k2 dl0) (k2 _ _ ncl c1) g2 (k2 _ _ (ne_kind r1 l1 fun z => by cases z) r1) ⟨hok.1, hok.2⟩ (by show w.came.length ≤ _; omega) (by show (w.lim ++ [_]).length ≤ _; rw [List.length_append, List.length_singleton]; omega)
        · -- hand
          have hcut : kd ≠ Str.ofString "cut" := hcut
          have ha : actW (rowsF R) w y (.act kd nm hkd) = { w with k := nm, row := rowsF R nm, at_ := firstSeen y.2.a y.2.n (rowsF R nm) } := by
            unfold actW
            exact (if_neg hadd).trans ((if_pos ho).trans (if_neg hcut))
          have hRn := rows_ok hR nm
          refine w_seq (w_asg (w_var rfl (w_name ?_)))
          with_reducible refine w_seq ?_
          refine w_asg (w_dget2 (w_var rfl ⟨r, rfl, .inl ⟨_, .inl (sA _ _ hR.hr)⟩, w_var rfl (w_lstV (w_nil ⟨sz (by simp), w_new fun e2 G2 _ s2 e2e => ⟨_, DGet.k (k := Sum.inr nm) (s2 _ _ (sA _ _ hR.hr)), ?_⟩⟩))⟩))
          have sB := sA.trans s2
          have hra : ∃ ra', ((valV (asV V.ref (rowV R)) (Sum.inr nm)).getD (.ref e2)) = .ref ra' ∧ G2 ra' = some (.lst (lsV (rowsF R nm))) := by
            rcases rows_get R nm with ⟨h1, h2⟩ | ⟨x, hx, h1, h2⟩
            · rw [valA_none _ h1, h2]
              exact ⟨e2, rfl, e2e⟩
            · rw [valA_some _ h1, h2]
              exact ⟨x.l, rfl, sB _ _ (hR.ls x hx).1⟩
          obtain ⟨ra', era, hra⟩ := hra
          rw [era]
          refine w_name ?_
          refine w_asg (w_call (w_cons (w_propV rfl (s2 _ _ o1) ⟨y.1, y.2, rfl, hyL.1.same sB, fun t3 G3 _ s3 e3 => w_cons (w_var rfl (w_nil ⟨t3, ra', y.2.a, y.2.n, rowsF R nm, rfl, e3, s3 _ _ hra, fun z hz => (hRn.ok z hz).1.same (sB.trans s3), hRn.len, fun G4 s4 => w_name ?_⟩))⟩)))
          have s24 := s2.trans (s3.trans s4)
          exact done _ ra' _ _ _ _ G4 ha rfl (sA.trans s24) (s24 _ _ c1) (s24 _ _ l1) (s4 _ _ (s3 _ _ hra)) ⟨hok.1, hRn⟩ (by show w.came.length ≤ _; omega) (by show w.lim.length ≤ _; omega)
  · -- the end
    rw [lsV_len] at c
    have hkn : w = s := by
      have stay : ∀ j, iterW (rowsF R) j w = w := by
        intro j
        induction j with
        | zero => rfl
        | succ j ih =>
          rw [iterW_succ, ih]
          unfold stepW
          rw [List.getElem?_eq_none (by omega)]
      have add : ∀ j i w0, iterW (rowsF R) (i + j) w0 = iterW (rowsF R) j (iterW (rowsF R) i w0) := by
        intro j
        induction j with
        | zero => exact fun _ _ => rfl
        | succ j ih =>
          intro i w0
          rw [show i + (j + 1) = (i + j) + 1 by omega, iterW_succ, ih, iterW_succ]
      have : n = k + (n - k) := by omega
      rw [← hit, this, add, ← hw, stay]
    rw [← hkn] at q
    with_reducible refine w_ret ?_
    refine w_make (w_cons (w_var rfl (w_cons (w_var rfl (w_cons (w_var rfl (w_cons (w_var rfl (w_nil fun x dx hx hdx ndx => ?_)))))))))
    have sm : Same G (upd (upd G dx (.own x)) x (.ins C dx [])) := Same.upd (Same.upd (Same.refl G) hdx) hx
    refine ⟨x, dx, dc, dl, ⟨f, w.k, w.came, w.lim⟩, rfl, upd_same, sm _ _ gc0, sm _ _ gl0, fun z hz => (hok.1 z hz).same (sG.trans sm), fun G2 dc' dl' f1 f2 nd k2 hRo => ⟨rfl, ?_⟩⟩
    have s2 : Same G G2 := same_made2 hx hdx k2
    exact q G2 _ (same_none sG hx) (same_none (sG.trans sm) f1) (same_none (sG.trans sm) f2) nd (sG.trans s2) hRo
end

/-! ### sorted texts -/
def leS (a b : Str) : Prop := a.cps.toList ≤ b.cps.toList
instance (a b : Str) : Decidable (leS a b) := inferInstanceAs (Decidable (a.cps.toList ≤ b.cps.toList))
def sortF (l : List Str) : List Str := l.mergeSort fun a b => decide (leS a b)
theorem leS_trans {a b c : Str} (h : leS a b) (k : leS b c) : leS a c := List.le_trans h k
theorem leS_anti {a b : Str} (h : leS a b) (k : leS b a) : a = b := by
  have e : a.cps.toList = b.cps.toList := List.le_antisymm h k
  obtain ⟨a⟩ := a
  obtain ⟨b⟩ := b
  exact congrArg _ (Array.toList_inj.mp e)
theorem leS_total (a b : Str) : leS a b ∨ leS b a := List.le_total _ _
theorem rising_pair : ∀ {p : Str} {l : List Str}, risingS p l = true → (p :: l).Pairwise leS
  | p, [], _ => List.pairwise_singleton _ _
  | p, x :: r, h => by
    have h' : (!ltCps x.cps.toList p.cps.toList && risingS x r) = true := h
    rw [Bool.and_eq_true, ltCps_eq] at h'
    have hpx : leS p x := by
      have := h'.1
      rw [Bool.not_eq_true', decide_eq_false_iff_not] at this
      exact List.not_lt.mp this
    have ih := rising_pair h'.2
    refine List.pairwise_cons.mpr ⟨fun y hy => ?_, ih⟩
    rcases List.mem_cons.mp hy with rfl | hy
    · exact hpx
    · exact leS_trans hpx ((List.pairwise_cons.mp ih).1 y hy)
theorem sorted_pair {l : List Str} (h : sortedS l = true) : l.Pairwise leS := by
  cases l with
  | nil => exact List.Pairwise.nil
  | cons x r => exact rising_pair h
theorem sortF_perm (l : List Str) : (sortF l).Perm l := List.mergeSort_perm _ _
theorem sortF_pair (l : List Str) : (sortF l).Pairwise leS := by
  refine (List.pairwise_mergeSort (le := fun a b => decide (leS a b)) (fun a b c h k => ?_) (fun a b => ?_) l).imp fun h => of_decide_eq_true h
  · exact decide_eq_true (leS_trans (of_decide_eq_true h) (of_decide_eq_true k))
  · rw [Bool.or_eq_true, decide_eq_true_iff, decide_eq_true_iff]
    exact leS_total a b
theorem sort_uniq {ys zs : List Str} (hp : ys.Perm zs) (h : sortedS ys = true) : ys = sortF zs :=
  List.Perm.eq_of_pairwise (fun _ _ _ _ a b => leS_anti a b) (sorted_pair h) (sortF_pair zs) (hp.trans (sortF_perm zs).symm)
theorem sortF_mem {l : List Str} {x : Str} : x ∈ sortF l ↔ x ∈ l := (sortF_perm l).mem_iff
theorem sortF_len (l : List Str) : (sortF l).length = l.length := (sortF_perm l).length_eq
/-! ### the marks of an item -/
def namesOf (wd : List (Str × List Str)) (w : Str) : List Str := ((wd.find? fun m => decide (m.1 = w)).map (·.2)).getD []
def hasN (wd : List (Str × List Str)) (w : Str) : Bool := !(namesOf wd w).isEmpty
def markD (wd : List (Str × List Str)) (w : Str) : PyData := .tuple [.str w, .tuple ((sortF (namesOf wd w)).map .str)]
def marksD (wd : List (Str × List Str)) : List PyData := ((sortF (wd.map (·.1))).filter (hasN wd)).map (markD wd)
theorem plain_strs (l : List Str) : plainB (.tuple (l.map .str)) = true := plain_tup fun d hd => by
  obtain ⟨x, _, rfl⟩ := List.mem_map.mp hd
  rfl
theorem plain_mark (wd : List (Str × List Str)) (w : Str) : plainB (markD wd w) = true := plain_tup fun d hd => by
  simp only [List.mem_cons, List.not_mem_nil, or_false] at hd
  rcases hd with rfl | rfl
  · rfl
  · exact plain_strs _
theorem dn_strs {ok : Addr → Prop} {H : Hp} : ∀ l : List Str, DnAll ok H (l.map V.str) (l.map PyData.str)
  | [] => .nil
  | x :: l => .cons (.str x) (dn_strs l)
section
variable {K : PySem.W.Frag} {C : Addr} {vs : List V} {H : Hp} {Q : VK} {E : XK} {σ : L2.St} {tt : TT} {tn : TE}
theorem lcMarks {ws : List Nat} {Qd : Addr → Hp → Prop} {p : Addr} {ys : List Str} {i : Nat} (wd : List (Str × List Str)) (ha : H p = some (.lst (ys.map V.str))) (hl : ys.length ≤ 1000) (hw : ∀ x, wipe ((wipe σ ws).set i (some x)) ws = wipe σ ws) (hi : ∀ x, ((wipe σ ws).set i (some x))[i]? = some (some x))
    (ht : ∀ y ∈ ys, ∀ H1, Same H H1 → ∀ R : Bool → Hp → Prop, (∀ H2, Same H1 H2 → R (hasN wd y) H2) → tt ((wipe σ ws).set i (some (.str y))) H1 R)
    (hn : ∀ y ∈ ys, ∀ H1, Same H H1 → ∀ R : VK, (∀ t H2, Same H1 H2 → H2 t = some (.tup ((sortF (namesOf wd y)).map V.str)) → R (.ref t) H2) → tn ((wipe σ ws).set i (some (.str y))) H1 R)
    (q : ∀ D ts H1, H D = none → Same H H1 → H1 D = some (.lst ts) → DnAll Any H1 ts ((ys.filter (hasN wd)).map (markD wd)) → Qd D H1) :
    ∀ D, H D = none → ∃ W : Nat → Nat → Hp → Prop, (∃ m, W 0 m (upd H D (.lst []))) ∧ ∀ i' m H, W i' m H →
  ((Itl K p).stop i' H ∧ Qd D H) ∨ ((Itl K p).go i' H ∧ ∃ Nx : Hp → Prop, (∀ H', Nx H' → ∃ m', m' < m ∧ W (i' + 1) m' H') ∧ ∀ x H', (Itl K p).yld i' H x H' → gName i x (wipe σ ws) H' fun σ2 H2 => wipe σ2 ws = wipe σ ws ∧ tt σ2 H2 fun b H3 =>
    if b = true then tTup (tCons (tVar i) (tCons tn tNil)) σ2 H3 fun y H4 => ∃ acc, H4 D = some (.lst acc) ∧ acc.length < sizeLine ∧ Nx (upd H4 D (.lst (acc ++ [y]))) else Nx H3) := by
  intro D hD
  refine lc_it (walk_list (xs := ys.map V.str)) (fun k G => Same H G ∧ ∃ ts, G D = some (.lst ts) ∧ ts.length ≤ k ∧ DnAll Any G ts (((ys.take k).filter (hasN wd)).map (markD wd))) ⟨Same.upd (Same.refl H) hD, [], upd_same, Nat.le_refl _, .nil⟩ (fun k G _ s => SqL.of (s.1 _ _ ha)) ?_ ?_
  · rintro k x G G' hk ⟨s, ts, eD, hts, dts⟩ ⟨rfl, hx⟩
    rw [List.getElem?_map] at hx
    obtain ⟨y, hy, rfl⟩ := Option.map_eq_some_iff.mp hx
    rw [List.length_map] at hk
    have hm := List.mem_of_getElem? hy
    have et : ys.take (k + 1) = ys.take k ++ [y] := by rw [List.take_add_one, hy]; rfl
    refine w_name ⟨hw _, ht y hm _ s _ fun H2 s2 => ?_⟩
    cases hp : hasN wd y with
    | true =>
      refine ite_t rfl (w_tupV (w_cons (w_var (hi _) (w_cons (hn y hm _ (s.trans s2) _ fun t G2 s3 e3 => w_nil ⟨sz (by simp), w_new fun r G4 _ s4 e4 => ⟨ts, s4 _ _ (s3 _ _ (s2 _ _ eD)), ?_, ?_, _, upd_same, ?_, ?_⟩⟩)))))
      · exact Nat.lt_of_le_of_lt (show ts.length ≤ 1000 by omega) (by decide)
      · exact fun b o e2 => by
          rw [upd_ne (ne_of_none e2 hD)]
          exact s4 _ _ (s3 _ _ (s2 _ _ (s _ _ e2)))
      · rw [List.length_append, List.length_singleton]
        omega
      · have tk : Tk G4 (upd G4 D (.lst (ts ++ [V.ref r]))) := Tk.kpL Kp.refl.updp (s4 _ _ (s3 _ _ (s2 _ _ eD)))
        rw [et, List.filter_append, List.filter_cons_of_pos hp, List.filter_nil, List.map_append]
        refine DnAll.app (dnall_tk tk (plainAll_of fun d hd => ?_) (((dts.same s2).same s3).same s4)) (.cons (.tup trivial (tk _ _ e4) (.cons (.str _) (.cons (.tup trivial (tk _ _ (s4 _ _ e3)) (dn_strs _)) .nil))) .nil)
        obtain ⟨o, _, rfl⟩ := List.mem_map.mp hd
        exact plain_mark wd o
    | false =>
      refine ite_f (by decide) ⟨s.trans s2, ts, s2 _ _ eD, by omega, ?_⟩
      rw [et, List.filter_append, List.filter_cons_of_neg (by simp [hp]), List.filter_nil, List.append_nil]
      exact dts.same s2
  · rintro G ⟨s, ts, eD, hts, dts⟩
    rw [List.length_map, List.take_length] at dts
    exact q D ts G hD s eD dts
theorem names_at {o : Io} {w : Str} (hwd : o.it.wd = o.ms.map (·.2)) (h : w ∈ o.it.wd.map (·.1)) : ∃ m ∈ o.ms, valV (mV o.ms) (Sum.inr w) = some (.ref m.1) ∧ m.2.2 = namesOf o.it.wd w := by
  rcases split_first (fun m => decide (m.2.1 = w)) o.ms with hno | ⟨l, m, r, e, hw, hl⟩
  · rw [hwd, List.map_map] at h
    obtain ⟨m, hm, e⟩ := List.mem_map.mp h
    exact absurd e (of_decide_eq_false (hno m hm))
  · have hw := of_decide_eq_true hw
    refine ⟨m, by rw [e]; exact List.mem_append_right _ (List.mem_cons_self ..), ?_, ?_⟩
    · rw [e]
      unfold mV
      rw [List.map_append, List.map_cons, hw]
      exact valV_hit fun z hz => by
        obtain ⟨q, hq, rfl⟩ := List.mem_map.mp hz
        exact fun y => of_decide_eq_false (hl q hq) (Sum.inr.inj y)
    · unfold namesOf
      rw [hwd, e, List.map_append, List.map_cons, List.find?_append]
      have h1 : (l.map (·.2)).find? (fun m => decide (m.1 = w)) = none := by
        rw [List.find?_eq_none]
        intro x hx
        obtain ⟨q, hq, rfl⟩ := List.mem_map.mp hx
        rw [hl q hq]
        decide
      rw [h1, List.find?_cons, decide_eq_true hw]
      rfl
def spItMarks (K : PySem.W.Frag) (C : Addr) : Sp := fun vs H Q _ => ∃ (o : Io), vs = [.ref o.x] ∧ IoAt C H o ∧ MkSz 63 o.it ∧ ∀ p ts H', H p = none → Same H H' → H' p = some (.lst ts) → DnAll Any H' ts (marksD o.it.wd) → Q (.ref p) H'
theorem w_sortedD {a : Addr} {kvs : List (L2.Key × V)} {ks : List Str} (e : H a = some (.dK kvs)) (ek : kvs.map (·.1) = ks.map Sum.inr) (hl : ks.length ≤ 63) (q : ∀ p H2, H p = none → Same H H2 → H2 p = some (.lst ((sortF ks).map V.str)) → Q (.ref p) H2) : Wp.qSortedD [.ref a] H Q :=
  ⟨a, kvs, ks, rfl, .inl e, ek, by omega, fun ys p hp hs hn => by
    rw [sort_uniq hp hs]
    exact q p _ hn (Same.upd (Same.refl H) hn) upd_same⟩
theorem w_tupleOfV {p : Addr} {ys : List V} (h : SqL K H p ys) (q : ∀ l H2, H l = none → Same H H2 → H2 l = some (.tup ys) → Q (.ref l) H2) : qTupleOf K [.ref p] H Q :=
  w_tupleOfL h fun l hl => q l _ hl (Same.upd (Same.refl H) hl) upd_same
theorem w_tru {ta : TE} {R : Bool → Hp → Prop} (q : ta σ H fun x H1 => ∃ k, TruV K x H1 k ∧ R k H1) : tTru K ta σ H R := q
theorem truD {a : Addr} {kvs : List (L2.Key × V)} {b : Bool} (e : H a = some (.dK kvs)) (k : b = !kvs.isEmpty) : TruV K (.ref a) H b := show _ ∨ _ ∨ _ from Or.inr (Or.inr ⟨kvs, e, k⟩)
theorem nV_keys (ns : List Str) : (nV ns).map (·.1) = ns.map Sum.inr := by
  unfold nV
  rw [List.map_map]
  rfl
end

/-! ### the pairs of a dict of counts, ascending -/
section
variable {K : PySem.W.Frag} {C CL : Addr} {vs : List V} {H : Hp} {Q : VK} {E : XK} {σ : L2.St} {D : Ends}
/-- tuple([(name, counts[name]) for name in sorted(counts)]) -/
theorem w_seenOf {c i : Nat} {a : Addr} {cs : List (L2.Key × V)} {ks : List Str} {f : Str → Int} (hc0 : σ[c]? = some (some (.ref a))) (ha : H a = some (.dK cs)) (di : DI cs ks f) (hk : ks.length ≤ 63)
    (hw : ∀ x, wipe ((wipe σ [i]).set i (some x)) [i] = wipe σ [i]) (hi : ∀ x, ((wipe σ [i]).set i (some x))[i]? = some (some x)) (hc : ∀ x, ((wipe σ [i]).set i (some x))[c]? = some (some (.ref a)))
    (q : ∀ l ps H', Same H H' → Dn Any H' (.ref l) (seenD ps) → (ps.map (·.1)).Nodup → ps.length ≤ 63 → (∀ p ∈ ps, p.1 ∈ ks) → Q (.ref l) H') :
    tCB (qTupleOf K) (tCons (tLc (iList K (tCB Wp.qSortedD (tCons (tVar c) tNil))) (gName i) tYes (tTup (tCons (tVar i) (tCons (tDGet (tVar c) (tVar i)) tNil))) [i]) tNil) σ H Q := by
  refine w_cb (w_cons (w_lc (w_iList (w_cb (w_cons (w_var hc0 (w_nil ⟨a, cs, ks, rfl, .inl ha, di.keys, by omega, fun ys q0 perm srt hq0 => ?_⟩)))))))
  obtain ⟨G6, eG6, s6, e6⟩ := newT (o := .lst (ys.map V.str)) hq0
  rw [← eG6]
  refine ⟨q0, rfl, ⟨_, SqL.of e6⟩, fun D hD => ?_⟩
  have hyl : ys.length ≤ 63 := by rw [perm.length_eq]; exact hk
  refine lc_it (walk_list (xs := ys.map V.str)) (fun k G' => Same G6 G' ∧ ∃ ts, G' D = some (.lst ts) ∧ ts.length ≤ k ∧ DnAll Any G' ts ((ys.take k).map fun y => pairD (y, f y))) ⟨Same.upd (Same.refl G6) hD, [], upd_same, Nat.le_refl _, .nil⟩ (fun k G' _ e => SqL.of (e.1 _ _ e6)) ?_ ?_
  · rintro k x G7 G7' hk' ⟨s7, ts, eD, hts, dts⟩ ⟨rfl, hx⟩
    rw [List.getElem?_map] at hx
    obtain ⟨y, hy, rfl⟩ := Option.map_eq_some_iff.mp hx
    have hym : y ∈ ks := perm.mem_iff.mp (List.mem_of_getElem? hy)
    have hk7 := s7 _ _ (s6 _ _ ha)
    have et : ys.take (k + 1) = ys.take k ++ [y] := by rw [List.take_add_one, hy]; rfl
    have hkk : k < 64 := by
      rw [List.length_map] at hk'
      omega
    refine w_name ⟨hw _, w_yes (iteT_ ?_)⟩
    refine w_tupV (w_cons (w_var (hi _) (w_cons (w_dget (w_var (hc _) (w_var (hi _) ⟨a, .int (f y), rfl, by rw [← di.has hym]; exact DGet.k (k := Sum.inr y) hk7, w_nil ⟨sz (by simp), w_new fun t G8 t0 s8 et8 => ⟨ts, s8 _ _ eD, ?_, ?_, _, upd_same, ?_, ?_⟩⟩⟩))))))
    · exact Nat.lt_of_le_of_lt (show ts.length ≤ 64 by omega) (by decide)
    · exact fun b o e2 => by
        rw [upd_ne (ne_of_none e2 hD)]
        exact s8 _ _ (s7 _ _ e2)
    · rw [List.length_append, List.length_singleton]
      omega
    · have tk : Tk G8 (upd G8 D (.lst (ts ++ [V.ref t]))) := Tk.kpL Kp.refl.updp (s8 _ _ eD)
      rw [et, List.map_append]
      refine DnAll.app (dnall_tk tk (plainAll_of fun d hd => ?_) (dts.same s8)) (.cons (.tup trivial (tk _ _ et8) (.cons (.str _) (.cons (.int _) .nil))) .nil)
      obtain ⟨y', _, rfl⟩ := List.mem_map.mp hd
      rfl
  rintro G7 ⟨s7, ts, eD, hts, dts⟩
  rw [show (ys.map V.str).length = ys.length from List.length_map _, List.take_length] at dts
  refine w_nil (w_tupleOfL (SqL.of eD) fun l hl => ?_)
  obtain ⟨G8, eG8, s8, e8⟩ := newT (o := .tup ts) hl
  rw [← eG8]
  refine q l (ys.map fun y => (y, f y)) G8 ((s6.trans s7).trans s8) (.tup trivial e8 ?_) ?_ (by rw [List.length_map]; exact hyl) fun p hp => ?_
  · rw [List.map_map]
    exact dts.same s8
  · rw [List.map_map, show ((fun x : Str × Int => x.1) ∘ fun y => (y, f y)) = id from rfl, List.map_id]
    exact perm.nodup_iff.mpr di.nd
  · obtain ⟨y, hy, rfl⟩ := List.mem_map.mp hp
    exact perm.mem_iff.mp hy
end

/-! ### people and founding letters of the laws of rolls and ledgers -/
def baseL (s t : Nat) : List Str := (List.range 8).map fun k => NAMES8.getD ((s + (1 + 2 * t) * k) % 8) Str.empty
theorem baseL_nodup : ∀ s, s < 8 → ∀ t, t < 4 → (baseL s t).Nodup := by
  have h : ∀ s ∈ List.range 8, ∀ t ∈ List.range 4, (baseL s t).Nodup := by decide +kernel
  exact fun s hs t ht => h s (List.mem_range.mpr hs) t (List.mem_range.mpr ht)
theorem baseL_names : ∀ s, s < 8 → ∀ t, t < 4 → ∀ x ∈ baseL s t, x ∈ NAMES8 := by
  have h : ∀ s ∈ List.range 8, ∀ t ∈ List.range 4, ∀ x ∈ baseL s t, x ∈ NAMES8 := by decide +kernel
  exact fun s hs t ht => h s (List.mem_range.mpr hs) t (List.mem_range.mpr ht)
theorem baseL_len (s t : Nat) : (baseL s t).length = 8 := by
  unfold baseL
  rw [List.length_map, List.length_range]
/-- eight unlike names -/
structure Names8 (ps : List Str) : Prop where
  len : ps.length = 8
  nd : ps.Nodup
  mem : ∀ x ∈ ps, x ∈ NAMES8
theorem none_mk2 {H : Hp} {x dx d : Addr} {o o' : HO} (f : (upd (upd H dx o) x o') d = none) : H d = none := by
  by_cases e : d = x
  · subst e
    rw [upd_same] at f
    cases f
  · rw [upd_ne e] at f
    by_cases e2 : d = dx
    · subst e2
      rw [upd_same] at f
      cases f
    · rw [upd_ne e2] at f
      exact f
theorem w_sortedLs {K : PySem.W.Frag} {H : Hp} {Q : VK} {a : Addr} {ks : List Str} (e : H a = some (.lst (ks.map V.str))) (hl : ks.length ≤ 63) (q : ∀ p H2, H p = none → Same H H2 → H2 p = some (.lst ((sortF ks).map V.str)) → Q (.ref p) H2) : rSortedS K [.ref a] H Q :=
  ⟨a, ks, rfl, SqL.of e, by omega, fun ys p hp hs hn => by
    rw [sort_uniq hp hs]
    exact q p _ hn (Same.upd (Same.refl H) hn) upd_same⟩
def spBase (K : PySem.W.Frag) : Sp := fun vs H Q _ => ∃ p, vs = [.ref p] ∧ Stm H p ∧ ∀ a ps H', H a = none → Kp p H H' → Stm H' p → H' a = some (.lst (ps.map V.str)) → Names8 ps → Q (.ref a) H'
def foundB (ms : List Str) : Bb := .found (Str.ofString "room") (ms.map .str)
def ltFd (f : Str) (ms : List Str) : Lt := ⟨f, 1, 1, [(f, 1)], (foundB ms).toD⟩
/-- a new letter -/
def LtNew (CL : Addr) (H H' : Hp) (x : Addr) (L : Lt) : Prop := (∀ ok : Addr → Prop, (∀ a, H a = none → ok a) → LtAt ok CL H' x L) ∧ Wf L
theorem lay_found {f : Str} {ms : List Str} (hm : ∀ x ∈ ms, ascii x = true) : Lay 3 (foundB ms).toD := by
  refine lay3 (k := 2) (lay_str (ascii_of _)) (lay_str (ascii_of _)) (lay_tup (k := 1) fun d hd => ?_)
  obtain ⟨x, hx, rfl⟩ := List.mem_map.mp hd
  exact lay_str (hm x hx)
theorem plain_found (ms : List Str) : plainB (foundB ms).toD = true := by
  unfold foundB Bb.toD Bb.kind Bb.rest
  refine plain_tup fun d hd => ?_
  simp only [List.mem_cons, List.not_mem_nil, or_false] at hd
  rcases hd with rfl | rfl | rfl
  · rfl
  · rfl
  · refine plain_tup fun d hd => ?_
    obtain ⟨x, _, rfl⟩ := List.mem_map.mp hd
    rfl
theorem ltFd_wf {f : Str} {ms : List Str} (hf : ascii f = true) (hm : ∀ x ∈ ms, ascii x = true) : Wf (ltFd f ms) :=
  ⟨Int.le_refl _, List.nodup_cons.mpr ⟨(fun z => nomatch z), List.nodup_nil⟩, (by show 1 ≤ 100; decide), hf, fun p hp => by rw [List.mem_singleton.mp hp]; exact hf, lay_found (f := f) hm, plain_found ms⟩
def spFounding (K : PySem.W.Frag) (C : Addr) : Sp := fun vs H Q _ => ∃ (f : Str) (m : Addr) (ms : List Str), vs = [.str f, .ref m] ∧ H m = some (.lst (ms.map V.str)) ∧ ms.length ≤ 60 ∧ ascii f = true ∧ (∀ x ∈ ms, ascii x = true) ∧
  ∀ x H', H x = none → Same H H' → LtNew C H H' x (ltFd f (sortF ms)) → Q (.ref x) H'
section
variable {K : PySem.W.Frag} {C CL : Addr} {vs : List V} {H : Hp} {Q : VK} {E : XK} {σ : L2.St} {D : Ends}
/-- _law_base: slots 0:stream 1:names 2:start 3:step 4:k -/
def t__law_base (K : PySem.W.Frag) : TS := (tSeq (tAsg (tLst (tCons (tC (.str "an")) (tCons (tC (.str "ann")) (tCons (tC (.str "anna")) (tCons (tC (.str "ann2")) (tCons (tC (.str "b")) (tCons (tC (.str "b7")) (tCons (tC (.str "hugohugohugo")) (tCons (tC (.str "h0")) tNil))))))))) (gName 1))
  (tSeq (tAsg (tCall (spNext K) [] C8.E0 (tCons (tVar 0) (tCons (tC (.int 8)) tNil))) (gName 2))
  (tSeq (tAsg (tOp qAdd (tC (.int 1)) (tOp qMul (tC (.int 2)) (tCall (spNext K) [] C8.E0 (tCons (tVar 0) (tCons (tC (.int 4)) tNil))))) (gName 3))
  (tRet (tLc (iRng1 (tCons (tC (.int 8)) tNil)) (gName 4) tYes (tOp (rIxL K) (tVar 1) (tOp qMod (tOp qAdd (tVar 2) (tOp qMul (tVar 3) (tVar 4))) (tC (.int 8)))) [4])))))
theorem l__law_base (h : spBase K vs H Q E) : vs.length = 1 := by obtain ⟨p, rfl, _⟩ := h; rfl
theorem r__law_base (h : spBase K vs H Q E) : t__law_base K { nx := fun _ H' => Q .non H', rt := Q } (start ["stream", "names", "start", "step", "k"] vs) H := by
  obtain ⟨p, rfl, hs, q⟩ := h
  unfold t__law_base
  refine w_seq (w_asg (w_lstV (w_cons (w_c (w_cons (w_c (w_cons (w_c (w_cons (w_c (w_cons (w_c (w_cons (w_c (w_cons (w_c (w_cons (w_c (w_nil ⟨sz (by simp), ?_⟩)))))))))))))))))))
  refine w_new fun N H1 f1 t1 e1 => w_name ?_
  have e1' : H1 N = some (.lst (NAMES8.map V.str)) := e1
  have s1 := hs.same t1
  walk_at "w"
  refine ⟨p, 8, rfl, s1, by decide, by decide, fun a0 H2 k2 s2 a1 a2 => ?_⟩
  walk_at "w"
  refine ⟨p, 4, rfl, s2, by decide, by decide, fun b0 H3 k3 s3 b1 b2 => ?_⟩
  walk_at "w"
  have nN : N ≠ p := hs.ne f1
  have eN : H3 N = some (.lst (NAMES8.map V.str)) := k3 _ _ nN (k2 _ _ nN e1')
  obtain ⟨a, rfl⟩ : ∃ a : Nat, a0 = a := ⟨a0.toNat, by omega⟩
  obtain ⟨b, rfl⟩ : ∃ b : Nat, b0 = b := ⟨b0.toNat, by omega⟩
  refine w_iRng1 (w_cons (w_c (w_nil ⟨8, rfl, by decide, by decide, fun D hD => ?_⟩)))
  refine lc_it walk_range (fun k G' => Same H3 G' ∧ G' D = some (.lst (((List.range k).map fun k => NAMES8.getD ((a + (1 + 2 * b) * k) % 8) Str.empty).map V.str))) ⟨Same.upd (Same.refl H3) hD, upd_same⟩ (fun _ _ _ _ => trivial) ?_ ?_
  · rintro k x G1 G2 hk ⟨sG1, eD⟩ ⟨rfl, rfl⟩
    refine w_name ⟨rfl, w_yes (iteT_ ?_)⟩
    walk_at "w"
    have er : ((a : Int) + (1 + 2 * (b : Int)) * (0 + (k : Int))) % 8 = (((a + (1 + 2 * b) * k) % 8 : Nat) : Int) := by
      rw [Int.zero_add]
      norm_cast
    rw [er]
    have hr : (a + (1 + 2 * b) * k) % 8 < NAMES8.length := Nat.mod_lt _ (by decide)
    refine w_ixL (SqL.of (sG1 _ _ eN)) (v := .str (NAMES8.getD ((a + (1 + 2 * b) * k) % 8) Str.empty)) (atI_nat (by rw [List.getElem?_map, List.getD_eq_getElem?_getD, List.getElem?_eq_getElem hr]; rfl)) ⟨_, eD, ?_, ?_, ?_⟩
    · rw [List.length_map, List.length_map, List.length_range]
      have hk : k < 8 := hk
      exact Nat.lt_of_le_of_lt (show k ≤ 8 by omega) (by decide)
    · exact fun b o e2 => by
        rw [upd_ne (ne_of_none e2 hD)]
        exact sG1 _ _ e2
    · rw [upd_same, List.range_succ, List.map_append, List.map_append]
      rfl
  · rintro G' ⟨sG', eD⟩
    have nD : D ≠ p := s3.ne hD
    exact q D (baseL a b) G' (same_none t1 ((k2.trans k3).free nD hD)) (((Same.kp t1).trans (k2.trans k3)).trans (Same.kp sG')) (s3.same sG') eD ⟨baseL_len _ _, baseL_nodup _ (by omega) _ (by omega), baseL_names _ (by omega) _ (by omega)⟩
/-- _law_founding: slots 0:founder 1:members -/
def t__law_founding (K : PySem.W.Frag) (C_Letter : Addr) : TS := (tRet (tMake C_Letter (spInit K C_Letter) [] C8.E0 (tCons (tVar 0) (tCons (tC (.int 1)) (tCons (tC (.int 1)) (tCons (Wp.tTupZ (tCons (tTup (tCons (tVar 0) (tCons (tC (.int 1)) tNil))) tNil)) (tCons (tTup (tCons (tC (.str "found")) (tCons (tC (.str "room")) (tCons (tCB (qTupleOf K) (tCons (tCB (rSortedS K) (tCons (tVar 1) tNil)) tNil)) tNil)))) tNil)))))))
theorem l__law_founding (h : spFounding K CL vs H Q E) : vs.length = 2 := by obtain ⟨f, m, ms, rfl, _⟩ := h; rfl
theorem r__law_founding (LCL : IsC_Letter K CL) (h : spFounding K CL vs H Q E) : t__law_founding K CL { nx := fun _ H' => Q .non H', rt := Q } (start ["founder", "members"] vs) H := by
  obtain ⟨f, m, ms, rfl, hm, hl, af, am, q⟩ := h
  unfold t__law_founding
  with_reducible refine w_ret ?_
  refine w_make (w_cons (w_var rfl (w_cons (w_c (w_cons (w_c (w_cons (w_tupZ (w_cons (w_tupV (w_cons (w_var rfl (w_cons (w_c (w_nil ⟨sz (by simp), w_new fun t1 G1 f1 s1 e1 => w_nil ⟨sz (by simp), w_newZ fun t2 G2 f2 s2 e2 => ?_⟩⟩)))))))))))))))
  have s12 := s1.trans s2
  refine w_cons (w_tupV (w_cons (w_c (w_cons (w_c (w_cons (w_cb (w_cons (w_cb (w_cons (w_var rfl (w_nil (w_sortedLs (s12 _ _ hm) (by omega) fun t3 G3 f3 s3 e3 => w_nil (w_tupleOfV (SqL.of e3) fun t4 G4 f4 s4 e4 => w_nil ⟨sz (by simp), w_new fun t5 G5 f5 s5 e5 => w_nil fun x dx hx hdx ndx => ?_⟩))))))))))))))
  have s35 := (s3.trans s4).trans s5
  have dS : Sv G5 (.ref t2) [(f, 1)] := ⟨t2, _, rfl, e2.same s35, .cons (.tup trivial (s35 _ _ (s2 _ _ e1)) (.cons (.str _) (.cons (.int _) .nil))) .nil⟩
  have dB : Dn Any G5 (.ref t5) (foundB (sortF ms)).toD := .tup trivial e5 (.cons (.str _) (.cons (.str _) (.cons (.tup trivial (s5 _ _ e4) (dn_strs _)) .nil)))
  refine ⟨x, dx, f, 1, 1, [(f, 1)], .ref t2, .ref t5, rfl, upd_same, dS.same (Same.upd (Same.upd (Same.refl G5) hdx) hx), List.nodup_cons.mpr ⟨(fun z => nomatch z), List.nodup_nil⟩, (by show 1 ≤ 1000; decide), fun G9 dd hd k9 e9 ed => ⟨rfl, ?_⟩⟩
  have s9 : Same G5 G9 := same_made2 hx hdx k9
  have sA := s12.trans s35
  have sB := sA.trans s9
  refine q x G9 (same_none sA hx) sB ⟨fun ok hok => ⟨dx, dd, .ref t2, .ref t5, e9, hok dd ?_, ed, dS.same s9, dB.same s9⟩, ltFd_wf af fun y hy => am y (sortF_mem.mp hy)⟩
  exact same_none sA (none_mk2 hd)
end

/-! ### acts by their bodies -/
theorem toD_kind {b c : Bb} (h : b.toD = c.toD) : b.kind = c.kind ∧ b.rest = c.rest := by
  unfold Bb.toD at h
  have h := List.cons.inj (PyData.tuple.inj h)
  exact ⟨PyData.str.inj h.1, h.2⟩
theorem bbOfR_act {kd nm : Str} (h : kd = Str.ofString "add" ∨ kd = Str.ofString "cut" ∨ kd = Str.ofString "hand") : bbOfR (Bb.act kd nm h).toD = .act kd nm h := by
  have e := bbOfR_toD (d := (Bb.act kd nm h).toD) ⟨_, rfl⟩
  obtain ⟨e1, e2⟩ := toD_kind e
  have ha : actB (bbOfR (Bb.act kd nm h).toD) = true := by
    unfold actB
    rw [← e1]
    refine decide_eq_true ?_
    show kd ∈ _
    rcases h with h | h | h <;> (rw [h]; simp)
  obtain ⟨kd', nm', h', e'⟩ := act_of ha
  rw [e'] at e1 e2
  have e1 : kd = kd' := e1
  have e2 : [PyData.str nm] = [.str nm'] := e2
  have hnm : nm = nm' := PyData.str.inj (List.cons.inj e2).1
  subst e1
  rw [e']
  congr 1
  exact hnm.symm

/-! ### shared steps of the laws of rolls -/
theorem names8_ok {ps : List Str} (h : Names8 ps) : ∀ x ∈ ps, ascii x = true := fun x hx => names8_ascii x (h.mem x hx)
theorem RoAt.kpL {CL C p : Addr} {ys : List V} {H H' : Hp} {X : Rx} {R : Ro} (h : RoAt CL C H X R) (k : Kp p H H') (hp : H p = some (.lst ys)) : RoAt CL C H' X R := by
  obtain ⟨dx, e⟩ := h.hx
  exact ⟨⟨dx, k _ _ (ne_kind e hp fun z => by cases z) e⟩, k _ _ (ne_kind h.hc hp fun z => by cases z) h.hc, k _ _ (ne_kind h.hl hp fun z => by cases z) h.hl, fun y hy => ⟨(h.ok y hy).1.fm (h.ok y hy).2 (Fm.kpL k hp), (h.ok y hy).2⟩⟩
theorem RoAt.stm {CL C p : Addr} {H H' : Hp} {X : Rx} {R : Ro} (h : RoAt CL C H X R) (k : Kp p H H') (s : Stm H p) : RoAt CL C H' X R := by
  obtain ⟨a, b, e, _⟩ := s
  exact h.kpL k e
theorem cutV_mid {xs : List V} {i j : Nat} (h : j ≤ xs.length) (hi : i ≤ j) : cutV xs (some (i : Int)) (some (j : Int)) = (xs.drop i).take (j - i) := by
  unfold cutV
  rw [HT.sIx_nat, HT.sIx_nat, Nat.min_eq_left h, Nat.min_eq_left (by omega)]
theorem members_at {ps : List Str} {f : Str} (h : Names8 ps) (hf : ps[0]? = some f) (n : Nat) : (f :: (ps.drop 1).take n).Nodup ∧ ∀ x ∈ (ps.drop 1).take n, x ∈ ps := by
  obtain ⟨hl, hn, _⟩ := h
  cases ps with
  | nil => exact nomatch hf
  | cons x r =>
    have hf : x = f := Option.some.inj hf
    subst hf
    rw [List.nodup_cons] at hn
    exact ⟨List.nodup_cons.mpr ⟨fun z => hn.1 (List.mem_of_mem_take z), hn.2.sublist (List.take_sublist _ _)⟩, fun y hy => List.mem_cons_of_mem _ (List.mem_of_mem_take hy)⟩
theorem LtAt.offD {ok : Addr → Prop} {C x d0 : Addr} {H : Hp} {L : Lt} (h : LtAt ok C H x L) (n : H d0 = none) : LtAt (Off d0) C H x L := by
  obtain ⟨dx, d, sv, bv, h1, h2, h3, h4⟩ := h
  exact ⟨dx, d, sv, bv, h1, ne_of_none h3 n, h3, h4⟩
theorem stm_neD {H : Hp} {a p : Addr} {kvs : List (L2.Key × V)} (s : Stm H p) (e : H a = some (.dK kvs)) : a ≠ p := by
  obtain ⟨x, y, h, _⟩ := s
  exact ne_kind e h fun z => by cases z
theorem inV_names {came : List (Str × Addr × Lt)} (nm : Str) : inV (.str nm) ((came.map (·.1)).map V.str) = (getA came nm).isSome := by rw [inV_strs, getA_some]
theorem putNew_some {came : List (Str × Addr × Lt)} {nm x : Str} {y : Addr × Lt} (h : (getA came x).isSome = true) : (getA (putNew came nm y) x).isSome = true := by
  unfold putNew
  split
  · exact h
  · rw [getA_app, Option.isSome_or, h]
    rfl

/-! ### the worlds of the laws of rolls and ledgers -/
def cntC (cs : List (Str × Int)) (nm : Str) : Nat := ((getA cs nm).getD 0).toNat
def csum (cs : List (Str × Int)) : Int := (cs.map fun z => z.2).sum
def rowC (R : List Rw) (cs : List (Str × Int)) (nm : Str) : List (Addr × Lt) := (rowsF R nm).take (cntC cs nm)
def countNot (a : Str) (n : Int) (ls : List (Addr × Lt)) : Nat := (ls.filter fun y => !seenB a n y.2).length
theorem getA_nd0 {α : Type} {l : List (Str × α)} (h : (l.map (·.1)).Nodup) : ∀ z ∈ l, getA l z.1 = some z.2 := by
  induction l with
  | nil => exact fun z hz => nomatch hz
  | cons x r ih =>
    intro z hz
    rw [List.map_cons, List.nodup_cons] at h
    rcases List.mem_cons.mp hz with rfl | hz
    · exact getA_pos rfl
    · rw [getA_neg fun e => h.1 (e ▸ List.mem_map_of_mem hz)]
      exact ih h.2 z hz
theorem sum_nn : ∀ {l : List Int}, (∀ z ∈ l, 0 ≤ z) → 0 ≤ l.sum
  | [], _ => Int.le_refl _
  | x :: l, h => by
    rw [List.sum_cons]
    have h1 := h x (List.mem_cons_self ..)
    have h2 := sum_nn (l := l) fun z hz => h z (List.mem_cons_of_mem _ hz)
    omega
structure WKv (kvs : List (L2.Key × V)) (pa : Addr) (f : Str) (wl wh : Addr) : Prop where
  p : valV kvs (Sum.inr (Str.ofString "people")) = some (.ref pa)
  f : valV kvs (Sum.inr (Str.ofString "founder")) = some (.str f)
  l : valV kvs (Sum.inr (Str.ofString "letters")) = some (.ref wl)
  h : valV kvs (Sum.inr (Str.ofString "held")) = some (.ref wh)
structure WoAt (CL : Addr) (H : Hp) (w pa wl wh : Addr) (f : Str) (R : List Rw) : Prop where
  kv : ∃ kvs, H w = some (.dK kvs) ∧ WKv kvs pa f wl wh
  rows : RowsAt CL H wl R
theorem WoAt.same {CL w pa wl wh : Addr} {H H' : Hp} {f : Str} {R : List Rw} (h : WoAt CL H w pa wl wh f R) (s : Same H H') : WoAt CL H' w pa wl wh f R := by
  obtain ⟨kvs, e, k⟩ := h.kv
  exact ⟨⟨kvs, s _ _ e, k⟩, h.rows.same s⟩
def lactW (rf : Str → List (Addr × Lt)) (s : Wk) (y : Addr × Lt) : Bb → Wk
  | .act kd nm _ => if kd = Str.ofString "add" then { s with came := putNew s.came nm y, at_ := s.at_ + 1 }
    else if otherB s.came s.lim s.k nm = true then (if kd = Str.ofString "cut" then { s with lim := s.lim ++ [(nm, cnt y.2.ps nm)], at_ := s.at_ + 1 } else { s with k := nm, row := rf nm, at_ := countNot y.2.a y.2.n (rf nm) })
    else { s with at_ := s.at_ + 1 }
  | _ => { s with at_ := s.at_ + 1 }
noncomputable def lstepW (rf : Str → List (Addr × Lt)) (s : Wk) : Wk :=
  match s.row[s.at_]? with
  | none => s
  | some y => lactW rf s y (bbOfR y.2.b)
noncomputable def literW (rf : Str → List (Addr × Lt)) : Nat → Wk → Wk
  | 0, s => s
  | n + 1, s => lstepW rf (literW rf n s)
theorem lstay {rf : Str → List (Addr × Lt)} {s0 w : Wk} {k : Nat} (hw : w = literW rf k s0) (h : w.row.length ≤ w.at_) : ∀ j, literW rf (k + j) s0 = w
  | 0 => hw.symm
  | j + 1 => by
    show lstepW rf (literW rf (k + j) s0) = w
    rw [lstay hw h j]
    unfold lstepW
    rw [List.getElem?_eq_none (by omega)]
theorem rowC_ok {CL : Addr} {H : Hp} {r : Addr} {R : List Rw} (h : RowsAt CL H r R) (cs : List (Str × Int)) (nm : Str) : RwOk CL H (rowC R cs nm) := by
  have := rows_ok h nm
  exact ⟨fun y hy => this.ok y (List.mem_of_mem_take hy), by
    have h2 := this.len
    unfold rowC
    rw [List.length_take]
    omega⟩
theorem cutV_toN {xs : List V} {j : Nat} : cutV xs none (some (j : Int)) = xs.take j := by
  unfold cutV
  rw [HT.sIx_none, HT.sIx_nat, Nat.sub_zero, List.drop_zero]
  rw [List.take_eq_take_iff]
  omega
theorem w_brk {D : Ends} {σ : L2.St} {H : Hp} (q : D.bk σ H) : tBreak D σ H := q
/-- the rows alone, whatever the letters are -/
structure WrAt (H : Hp) (w pa wl wh : Addr) (f : Str) (R : List Rw) : Prop where
  kv : ∃ kvs, H w = some (.dK kvs) ∧ WKv kvs pa f wl wh
  hr : H wl = some (.dK (asV V.ref (rowV R)))
  ls : ∀ x ∈ R, H x.l = some (.lst (lsV x.ls))
theorem WoAt.wr {CL w pa wl wh : Addr} {H : Hp} {f : Str} {R : List Rw} (h : WoAt CL H w pa wl wh f R) : WrAt H w pa wl wh f R := ⟨h.kv, h.rows.hr, fun x hx => (h.rows.ls x hx).1⟩
theorem rd_same {H H' : Hp} {a : Addr} {u : HO} (h : Rd H a u) (s : Same H H') : Rd H' a u := h.imp (s _ _) fun ⟨o, e⟩ => ⟨o, s _ _ e⟩
def spRow (K : PySem.W.Frag) (CL : Addr) : Sp := fun vs H Q _ => ∃ (w c pa wl wh : Addr) (f : Str) (R : List Rw) (cs : List (Str × Int)) (nm : Str), vs = [.ref w, .ref c, .str nm] ∧ WrAt H w pa wl wh f R ∧ Rd H c (.dK (asV V.int cs)) ∧ (∀ z ∈ cs, 0 ≤ z.2) ∧
  ∀ p H', H p = none → Same H H' → H' p = some (.lst (lsV (rowC R cs nm))) → Q (.ref p) H'
def spAfter (K : PySem.W.Frag) (C : Addr) : Sp := fun vs H Q _ => ∃ (t r : Addr) (a : Str) (n : Int) (ls : List (Addr × Lt)), vs = [.ref r, .ref t] ∧ H t = some (.tup [.str a, .int n]) ∧ H r = some (.lst (lsV ls)) ∧ (∀ y ∈ ls, LtOk C H y) ∧ ls.length ≤ 5000 ∧ Q (.int (countNot a n ls)) H
def spLawRoll (K : PySem.W.Frag) (CL : Addr) : Sp := fun vs H Q _ => ∃ (w c pa wl wh : Addr) (f : Str) (R : List Rw) (cs : List (Str × Int)) (y0 : Addr × Lt) (t : Str) (ms : List Str), vs = [.ref w, .ref c] ∧ WoAt CL H w pa wl wh f R ∧ H c = some (.dK (asV V.int cs)) ∧ (∀ z ∈ cs, 0 ≤ z.2) ∧ (cs.map (·.1)).Nodup ∧ cs.length ≤ 5000 ∧ (csum cs) ≤ 5000 ∧
  (rowsF R f)[0]? = some y0 ∧ y0.2.b = (Bb.found t (ms.map .str)).toD ∧ (f :: ms).Nodup ∧ ms.length ≤ 100 ∧
  ∀ (p dc du : Addr) (s : Wk) (H' : Hp), Same H H' → H dc = none → H du = none → dc ≠ du → H' p = some (.lst [.ref dc, .ref du, .str s.k]) → H' dc = some (.dK (asV ltV s.came)) → H' du = some (.dK (asV V.int s.lim)) →
    s = literW (rowC R cs) (1 + (csum cs).toNat) (initW f ms y0 (rowC R cs f)) → (∀ y ∈ s.came, LtOk CL H y.2) → Q (.ref p) H'
def w4 (pa : Addr) (f : Str) (wl wh : Addr) : List (L2.Key × V) := [(Sum.inr (Str.ofString "people"), .ref pa), (Sum.inr (Str.ofString "founder"), .str f), (Sum.inr (Str.ofString "letters"), .ref wl), (Sum.inr (Str.ofString "held"), .ref wh)]
theorem w4_kv (pa : Addr) (f : Str) (wl wh : Addr) (r : List (L2.Key × V)) : WKv (w4 pa f wl wh ++ r) pa f wl wh := ⟨by rfl, by rfl, by rfl, by rfl⟩
theorem putA_old {α : Type} {g : α → V} {l : List (Str × α)} {nm : Str} {a : α} (h : nm ∈ l.map (·.1)) : putK (asV g l) (Sum.inr nm) (g a) = asV g (l.map fun z => if z.1 = nm then (z.1, a) else z) := by
  have hn : ((asV g l).any fun kv => decide (kv.1 = Sum.inr nm)) = true := by
    rw [valV_any, valA, Option.isSome_map, getA_some]
    exact decide_eq_true h
  unfold putK
  rw [if_pos hn]
  unfold asV
  rw [List.map_map, List.map_map]
  refine List.map_congr_left fun z _ => ?_
  show (if (Sum.inr z.1 : L2.Key) = Sum.inr nm then (Sum.inr z.1, g a) else (Sum.inr z.1, g z.2)) = (Sum.inr (if z.1 = nm then (z.1, a) else z).1, g (if z.1 = nm then (z.1, a) else z).2)
  by_cases e : z.1 = nm
  · rw [if_pos e, if_pos (congrArg Sum.inr e)]
  · rw [if_neg e, if_neg fun t => e (Sum.inr.inj t)]
def held0 (f nm : Str) : List (Str × Int) := if nm = f then [(f, 1)] else []
def spNewWorld (K : PySem.W.Frag) (CL : Addr) : Sp := fun vs H Q _ => ∃ (pa : Addr) (n : Nat) (ps : List Str) (f : Str), vs = [.ref pa, .int n] ∧ H pa = some (.lst (ps.map V.str)) ∧ ps[0]? = some f ∧ ps.Nodup ∧ ps.length ≤ 60 ∧ (∀ x ∈ ps, ascii x = true) ∧ 1 ≤ n ∧ n ≤ ps.length ∧
  ∀ (w wl wh l x : Addr) (mm : List Str) (ds : List (Str × Addr)) (H' : Hp), Same H H' → H w = none → H wl = none → H wh = none → H l = none → w ≠ wl → w ≠ wh → wl ≠ wh → H' w = some (.dK (w4 pa f wl wh)) → H' wl = some (.dK (asV V.ref [(f, l)])) → H' l = some (.lst [.ref x]) →
    H' wh = some (.dK (asV V.ref ds)) → ds.map (·.1) = ps → (∀ z ∈ ds, H' z.2 = some (.dK (asV V.int (held0 f z.1))) ∧ z.2 ≠ w ∧ z.2 ≠ wl ∧ z.2 ≠ wh) →
    LtAt (fun a => a ≠ w ∧ a ≠ wl ∧ a ≠ wh) CL H' x (ltFd f mm) → Wf (ltFd f mm) → (f :: mm).Nodup → mm.length ≤ 60 → (∀ z ∈ mm, z ∈ ps) → Q (.ref w) H'
section
variable {K : PySem.W.Frag} {C CL : Addr} {vs : List V} {H : Hp} {Q : VK} {E : XK} {σ : L2.St} {D : Ends}
/-- [d[x] for x in d] of counts -/
theorem lcCounts {l : List (Str × Int)} {d : Addr} {c i : Nat} (hd : H d = some (.dK (asV V.int l))) (hn : (l.map (·.1)).Nodup) (hl : l.length ≤ 100000) (hc : σ[c]? = some (some (.ref d)))
    (hw : ∀ x, wipe ((wipe σ [i]).set i (some x)) [i] = wipe σ [i]) (hi : ∀ x, ((wipe σ [i]).set i (some x))[i]? = some (some x)) (hc' : ∀ x, ((wipe σ [i]).set i (some x))[c]? = some (some (.ref d)))
    (q : ∀ D H', H D = none → Same H H' → H' D = some (.lst ((l.map (·.2)).map V.int)) → Q (.ref D) H') : tLockE (tLc (iKeys (tVar c)) (gName i) tYes (tDGet (tVar c) (tVar i)) [i]) σ H Q := by
  refine ⟨d, .dK (asV V.int l), hd, trivial, fun od => w_lc (w_var hc ⟨d, od, rfl, .inl ⟨asV V.int l, upd_same, fun D hD => ?_⟩⟩)⟩
  have nDd : D ≠ d := fun z => by rw [z, upd_same] at hD; cases hD
  have D0 : H D = none := by rw [upd_ne nDd] at hD; exact hD
  refine lc_it walk_keys (fun k G => (∀ b o, b ≠ d → H b = some o → G b = some o) ∧ G d = some (.frz od (.dK (asV V.int l))) ∧ G D = some (.lst (((l.take k).map (·.2)).map V.int))) ⟨fun b o n e => by rw [upd_ne (ne_of_none e D0), upd_ne n]; exact e, by rw [upd_ne nDd.symm, upd_same], upd_same⟩ (fun k G _ e => e.2.1) ?_ ?_
  · rintro k x G Gz hk ⟨kx, ed, eD⟩ ⟨rfl, ky, v, ekv, rfl⟩
    unfold asV at ekv
    rw [List.getElem?_map] at ekv
    obtain ⟨y, hy, e2⟩ := Option.map_eq_some_iff.mp ekv
    injection e2 with e2 _
    subst e2
    have et : l.take (k + 1) = l.take k ++ [y] := by rw [List.take_add_one, hy]; rfl
    have hg : getA l y.1 = some y.2 := getA_nd0 hn y (List.mem_of_getElem? hy)
    refine w_name ⟨hw _, w_yes (iteT_ (w_dget (w_var (hc' _) (w_var (hi _) ⟨d, .int y.2, rfl, .inl ⟨asV V.int l, Sum.inr y.1, .inr ⟨od, ed⟩, rfl, (valA_some V.int hg).symm⟩, _, eD, ?_, fun b o n e => ?_, ?_, ?_⟩))))⟩
    · rw [List.length_map, List.length_map, List.length_take]
      exact Nat.lt_of_le_of_lt (show _ ≤ 100000 by omega) (by decide)
    · rw [upd_ne (ne_of_none e D0)]
      exact kx b o n e
    · rw [upd_ne nDd.symm]
      exact ed
    · rw [upd_same, et, List.map_append, List.map_append]
      rfl
  · rintro G ⟨kx, ed, eD⟩
    rw [asV_len, List.take_length] at eD
    refine ⟨ed, q D _ D0 (fun b o e => ?_) (by rw [upd_ne nDd]; exact eD)⟩
    by_cases z : b = d
    · rw [z] at e ⊢
      rw [upd_same, ← hd]
      exact e.symm ▸ e
    · rw [upd_ne z]
      exact kx b o z e
/-- _law_row: slots 0:world 1:counts 2:name -/
def t__law_row (K : PySem.W.Frag) (C_Letter : Addr) : TS := (tRet (tSl (rSlL K) (tDGet2 (tDGet (tVar 0) (tC (.str "letters"))) (tVar 2) (tLst tNil)) tNoPart (tPart (tDGet2 (tVar 1) (tVar 2) (tC (.int 0))))))
theorem l__law_row (h : spRow K CL vs H Q E) : vs.length = 3 := by obtain ⟨w, c, pa, wl, wh, f, R, cs, nm, rfl, _⟩ := h; rfl
theorem r__law_row (LCL : IsC_Letter K CL) (h : spRow K CL vs H Q E) : t__law_row K CL { nx := fun _ H' => Q .non H', rt := Q } (start ["world", "counts", "name"] vs) H := by
  obtain ⟨w, c, pa, wl, wh, f, R, cs, nm, rfl, hW, hc, hcs, q⟩ := h
  obtain ⟨kvs, hk, wk⟩ := hW.kv
  unfold t__law_row
  refine w_ret (w_sl (w_dget2 (w_dget (w_var rfl (w_c ⟨w, .ref wl, rfl, wk.l ▸ DGet.k (k := Sum.inr (Str.ofString "letters")) hk, wl, rfl, .inl ⟨_, .inl hW.hr⟩, w_var rfl (w_lstV (w_nil ⟨sz (by simp), w_new fun e2 G2 f2 s2 e2e => ⟨_, DGet.k (k := Sum.inr nm) (s2 _ _ hW.hr), ?_⟩⟩))⟩)))))
  obtain ⟨ra, era, hra⟩ : ∃ ra, ((valV (asV V.ref (rowV R)) (Sum.inr nm)).getD (.ref e2)) = .ref ra ∧ G2 ra = some (.lst (lsV (rowsF R nm))) := by
    rcases rows_get R nm with ⟨h1, h2⟩ | ⟨x, hx, h1, h2⟩
    · rw [valA_none _ h1, h2]
      exact ⟨e2, rfl, e2e⟩
    · rw [valA_some _ h1, h2]
      exact ⟨x.l, rfl, s2 _ _ (hW.ls x hx)⟩
  rw [era]
  have hc2 := rd_same hc s2
  refine w_noPart (w_part (w_dget2 (w_var rfl ⟨c, rfl, .inl ⟨_, hc2⟩, w_var rfl (w_c ⟨_, .inl ⟨asV V.int cs, Sum.inr nm, hc2, rfl, rfl⟩, ?_⟩)⟩)))
  have ev : ((valV (asV V.int cs) (Sum.inr nm)).getD (.int 0)) = .int ((cntC cs nm : Nat) : Int) := by
    unfold cntC
    cases e : getA cs nm with
    | none => rw [valA_none _ e]; rfl
    | some z =>
      rw [valA_some _ e]
      have := hcs _ (getA_mem e)
      have this : 0 ≤ z := this
      show V.int z = V.int ((z.toNat : Nat) : Int)
      rw [Int.toNat_of_nonneg this]
  rw [ev]
  refine w_exi (w_slLV (SqL.of hra) fun p H3 f3 s3 e3 => ?_)
  rw [cutV_toN] at e3
  exact q p H3 (same_none s2 f3) (s2.trans s3) (by rw [e3]; unfold rowC lsV; rw [List.map_take])
/-- _law_after: slots 0:row 1:ref 2:index 3:letter -/
def t__law_after (K : PySem.W.Frag) (C_Letter : Addr) : TS := (tSeq (tAsg (tC (.int 0)) (gName 2))
  (tSeq (tFor (iList K (tVar 0)) (gName 3) (tIfS (tNot (tB (tMeth C_Letter "has_seen" (spSeenP K C_Letter) [] C8.E0 (tVar 3) (tCons (tVar 1) tNil)))) (tAsg (tOp qAdd (tVar 2) (tC (.int 1))) (gName 2)) tNext))
  (tRet (tVar 2))))
theorem l__law_after (h : spAfter K CL vs H Q E) : vs.length = 2 := by obtain ⟨t, r, a, n, ls, rfl, _⟩ := h; rfl
theorem r__law_after (LCL : IsC_Letter K CL) (h : spAfter K CL vs H Q E) : t__law_after K CL { nx := fun _ H' => Q .non H', rt := Q } (start ["row", "ref", "index", "letter"] vs) H := by
  obtain ⟨t, r, a, n, ls, rfl, ht, hr, hok, hlen, q⟩ := h
  unfold t__law_after
  refine w_seq (w_asg (w_c (w_name ?_)))
  with_reducible refine w_seq ?_
  refine w_for (w_iList (w_var rfl ⟨r, rfl, ⟨_, SqL.of hr⟩, ?_⟩))
  refine for_it (walk_list (xs := lsV ls)) (fun k σ G => (∃ u3, σ = [some (.ref r), some (.ref t), some (.int (countNot a n (ls.take k) : Nat)), u3]) ∧ G = H) ⟨⟨_, rfl⟩, rfl⟩ (fun _ _ _ _ e => by rw [e.2]; exact SqL.of hr) ?_ ?_
  · rintro k v σ Gz G hk ⟨⟨u3, rfl⟩, rfl⟩ ⟨rfl, hx⟩
    rw [List.getElem?_map] at hx
    obtain ⟨y, hy, rfl⟩ := Option.map_eq_some_iff.mp hx
    have hL := (hok y (List.mem_of_getElem? hy)).1
    obtain ⟨dx, d, sv, bv, hox, _⟩ := id hL
    have et : ls.take (k + 1) = ls.take k ++ [y] := by rw [List.take_add_one, hy]; rfl
    refine w_name (w_ifS (w_not (w_B (w_methV rfl hox rfl (w_cons (w_var rfl (w_nil ⟨y.1, t, y.2, a, n, rfl, hL, ht, w_exb ?_⟩)))))))
    cases hs : seenB a n y.2 with
    | true =>
      refine w_nt (w_next ⟨⟨some (.ref y.1), ?_⟩, rfl⟩)
      have e : countNot a n (ls.take (k + 1)) = countNot a n (ls.take k) := by
        unfold countNot
        rw [et, List.filter_append, List.filter_cons_of_neg (by simp [hs]), List.filter_nil, List.append_nil]
      rw [e]
      rfl
    | false =>
      refine w_nf (w_asg (w_op (w_var rfl (w_c (w_I0 (w_name ⟨⟨some (.ref y.1), ?_⟩, rfl⟩))))))
      have e : countNot a n (ls.take (k + 1)) = countNot a n (ls.take k) + 1 := by
        unfold countNot
        rw [et, List.filter_append, List.filter_cons_of_pos (by simp [hs]), List.filter_nil, List.length_append, List.length_singleton]
      rw [e]
      rfl
  · rintro σ G ⟨⟨u3, rfl⟩, rfl⟩
    rw [lsV_len, List.take_length]
    exact w_ret (w_var rfl q)
theorem w_fits {nm k : Str} {dc du : Addr} {came : List (Str × Addr × Lt)} {lim : List (Str × Int)} (h5 : σ[5]? = some (some (.str nm))) (h4 : σ[4]? = some (some (.ref dc))) (h6 : σ[6]? = some (some (.ref du))) (h2 : σ[2]? = some (some (.str k)))
    (hc : H dc = some (.dK (asV ltV came))) (hl : H du = some (.dK (asV V.int lim))) (q : Q (.bl (otherB came lim k nm)) H) : tAndV (tDIn (tVar 5) (tVar 4)) (tAndV (tDNotIn (tVar 5) (tVar 6)) (tOp rNe (tVar 5) (tVar 2))) σ H Q := by
  refine w_andV (w_dinW (w_var h5 (w_var h4 ⟨dc, _, rfl, DGet.k (k := Sum.inr nm) hc, ?_⟩)))
  rw [valA, Option.isSome_map]
  unfold otherB at q
  cases e : (getA came nm).isSome with
  | false =>
    rw [e] at q
    exact ⟨false, rfl, ite_f (by decide) q⟩
  | true =>
    rw [e] at q
    refine ⟨true, rfl, ite_t rfl (w_andV (w_dnotinW (w_var h5 (w_var h6 ⟨du, _, rfl, DGet.k (k := Sum.inr nm) hl, ?_⟩))))⟩
    rw [valA, Option.isSome_map]
    cases e2 : getA lim nm with
    | some l =>
      rw [e2] at q
      exact ⟨false, rfl, ite_f (by decide) q⟩
    | none =>
      rw [e2] at q
      exact ⟨true, rfl, ite_t rfl (w_op (w_var h5 (w_var h2 (w_neS q))))⟩
theorem w_noKind {S : TS} {t2 : TT} {kd z : Str} (h : σ[11]? = some (some (.str kd))) (n : kd ≠ z) (q : D.nx σ H) : tIfS (tAnd (tTest (tOp rEq (tVar 11) (tC (.str z)))) t2) S tNext D σ H :=
  w_ifS (w_and (w_test (w_op (w_var h (w_c (w_eqS (w_exb (ite_f (fun e => n (of_decide_eq_true e)) (ite_f (by decide) (w_next q)))))))))) 
theorem w_isKind {S : TS} {t2 : TT} {z : Str} (h : σ[11]? = some (some (.str z))) (q : t2 σ H fun b H' => if b = true then S D σ H' else tNext D σ H') : tIfS (tAnd (tTest (tOp rEq (tVar 11) (tC (.str z)))) t2) S tNext D σ H :=
  w_ifS (w_and (w_test (w_op (w_var h (w_c (w_eqS (w_exb (ite_t (decide_eq_true rfl) q)))))))) 
/-- _law_roll: slots 0:world 1:counts 2:keeper 3:first 4:came 5:name 6:cuts 7:row 8:index 9:turn 10:letter 11:kind 12:fits -/
def t__law_roll (K : PySem.W.Frag) (C_Letter : Addr) : TS := (tSeq (tAsg (tDGet (tVar 0) (tC (.str "founder"))) (gName 2))
  (tSeq (tAsg (tOp (rIxL K) (tDGet (tDGet (tVar 0) (tC (.str "letters"))) (tVar 2)) (tC (.int 0))) (gName 3))
  (tSeq (tAsg (tDisp (((tVar 2), (tVar 3)) :: [])) (gName 4))
  (tSeq (tFor (iTup K (tOp (rIxT K) (tFld K (tVar 3) "body") (tC (.int 2)))) (gName 5) (sDPut (tVar 4) (tVar 5) (tVar 3)))
  (tSeq (tAsg tDNewK (gName 6))
  (tSeq (tAsg (tCall (spRow K C_Letter) [] C8.E0 (tCons (tVar 0) (tCons (tVar 1) (tCons (tVar 2) tNil)))) (gName 7))
  (tSeq (tAsg (tC (.int 1)) (gName 8))
  (tSeq (tFor (iRng1 (tCons (tOp qAdd (tC (.int 1)) (tCB (rSum K) (tCons (tLockE (tLc (iKeys (tVar 1)) (gName 5) tYes (tDGet (tVar 1) (tVar 5)) [5])) tNil))) tNil)) (gName 9) (tSeq (tIfS (tTest (tOp qGe (tVar 8) (tCB (qLenSeq K) (tCons (tVar 7) tNil)))) tBreak tNext)
  (tSeq (tAsg (tOp (rIxL K) (tVar 7) (tVar 8)) (gName 10))
  (tSeq (tAsg (tOp qAdd (tVar 8) (tC (.int 1))) (gName 8))
  (tSeq (tAsg (tOp (rIxT K) (tFld K (tVar 10) "body") (tC (.int 0))) (gName 11))
  (tSeq (tIfS (tTest (tOp (rIn K true) (tVar 11) (tTup (tCons (tC (.str "add")) (tCons (tC (.str "cut")) (tCons (tC (.str "hand")) tNil)))))) tCont tNext)
  (tSeq (tAsg (tOp (rIxT K) (tFld K (tVar 10) "body") (tC (.int 1))) (gName 5))
  (tSeq (tAsg (tAndV (tDIn (tVar 5) (tVar 4)) (tAndV (tDNotIn (tVar 5) (tVar 6)) (tOp rNe (tVar 5) (tVar 2)))) (gName 12))
  (tSeq (tIfS (tAnd (tTest (tOp rEq (tVar 11) (tC (.str "add")))) (tB (tDNotIn (tVar 5) (tVar 4)))) (sDPut (tVar 4) (tVar 5) (tVar 10)) tNext)
  (tSeq (tIfS (tAnd (tTest (tOp rEq (tVar 11) (tC (.str "cut")))) (tB (tVar 12))) (sDPut (tVar 6) (tVar 5) (tMeth C_Letter "count" (spCount K C_Letter) [] C8.E0 (tVar 10) (tCons (tVar 5) tNil))) tNext)
  (tIfS (tAnd (tTest (tOp rEq (tVar 11) (tC (.str "hand")))) (tB (tVar 12))) (tSeq (tAsg (tVar 5) (gName 2))
  (tSeq (tAsg (tCall (spRow K C_Letter) [] C8.E0 (tCons (tVar 0) (tCons (tVar 1) (tCons (tVar 2) tNil)))) (gName 7))
  (tAsg (tCall (spAfter K C_Letter) [] C8.E0 (tCons (tVar 7) (tCons (tProp C_Letter (spRefP K C_Letter) [] C8.E0 (tVar 10)) tNil))) (gName 8)))) tNext)))))))))))
  (tRet (tLst (tCons (tVar 4) (tCons (tVar 6) (tCons (tVar 2) tNil)))))))))))))
theorem l__law_roll (h : spLawRoll K CL vs H Q E) : vs.length = 2 := by obtain ⟨w, c, pa, wl, wh, f, R, cs, y0, t, ms, rfl, _⟩ := h; rfl
theorem r__law_roll (LCL : IsC_Letter K CL) (h : spLawRoll K CL vs H Q E) : t__law_roll K CL { nx := fun _ H' => Q .non H', rt := Q } (start ["world", "counts", "keeper", "first", "came", "name", "cuts", "row", "index", "turn", "letter", "kind", "fits"] vs) H := by
  obtain ⟨w, c, pa, wl, wh, f, R, cs, y0, t, ms, rfl, hW, hc, hcs, hcn, hcl, hsum, h0, hb0, hnd, hms, q⟩ := h
  obtain ⟨kvs, hk, wk⟩ := hW.kv
  obtain ⟨x0, hx0, hg0, hr0⟩ : ∃ x ∈ R, getA (rowV R) f = some x.l ∧ rowsF R f = x.ls := by
    rcases rows_get R f with ⟨_, e⟩ | h
    · rw [e] at h0
      exact nomatch h0
    · exact h
  have hrow0 := (hW.rows.ls x0 hx0).1
  rw [← hr0] at hrow0
  have hL0 := ((rows_ok hW.rows f).ok y0 (List.mem_of_getElem? h0)).1
  unfold t__law_roll
  refine w_seq (w_asg (w_dget (w_var rfl (w_c ⟨w, .str f, rfl, wk.f ▸ DGet.k (k := Sum.inr (Str.ofString "founder")) hk, w_name ?_⟩))))
  with_reducible refine w_seq ?_
  refine w_asg (w_op (w_dget (w_dget (w_var rfl (w_c ⟨w, .ref wl, rfl, wk.l ▸ DGet.k (k := Sum.inr (Str.ofString "letters")) hk, w_var rfl ⟨wl, .ref x0.l, rfl, valA_some V.ref hg0 ▸ DGet.k (k := Sum.inr f) hW.rows.hr, w_c (w_ixL (v := .ref y0.1) (SqL.of hrow0) (atI_nat (j := 0) (by rw [List.getElem?_map, h0]; rfl)) (w_name ?_))⟩⟩)))))
  obtain ⟨dx0, d0, sv0, bv0, hox0, _, _, _, hbv0⟩ := id hL0.1
  rw [hb0] at hbv0
  obtain ⟨bt0, xs0, rfl, hbt0, hxs0⟩ := bb_at hbv0
  obtain ⟨tm, hxe, htm⟩ : ∃ tm, xs0 = [.str t, .ref tm] ∧ H tm = some (.tup (ms.map V.str)) := by
    cases hxs0 with
    | cons h1 h2 =>
      cases h1
      cases h2 with
      | cons h3 h4 =>
        cases h4
        cases h3 with
        | @tup a xs _ _ ha hs => exact ⟨a, rfl, by rw [← dn_strs_inv hs]; exact ha⟩
  subst hxe
  with_reducible refine w_seq ?_
  refine w_asg (fun dc hdc => w_var rfl (w_var rfl ⟨upd_same, [(Sum.inr f, .ref y0.1)], rfl, (by show 1 ≤ 15; decide), ?_⟩))
  rw [show mergeK ([] : List (L2.Key × V)) [(Sum.inr f, .ref y0.1)] = [(Sum.inr f, .ref y0.1)] from rfl, upd_upd]
  obtain ⟨G1, eG1, s1, e1⟩ := newT (o := .dK [(Sum.inr f, V.ref y0.1)]) hdc
  rw [← eG1]
  refine w_name ?_
  with_reducible refine w_seq ?_
  refine w_for (w_iTup (w_op (w_fldV rfl (s1 _ _ hox0) LCL.cl LCL.n_body lfs_body (w_c (w_ixT (SqT.of (s1 _ _ hbt0)) (atI_nat (j := 2) rfl) ⟨tm, rfl, ⟨_, SqT.of (s1 _ _ htm)⟩, ?_⟩)))))
  refine for_it (walk_tup (xs := ms.map V.str)) (fun k σ G => (∃ u5, σ = [some (.ref w), some (.ref c), some (.str f), some (.ref y0.1), some (.ref dc), u5, none, none, none, none, none, none, none]) ∧ (∀ b o, b ≠ dc → G1 b = some o → G b = some o) ∧ G dc = some (.dK (asV ltV ((f :: ms.take k).map fun nm => (nm, y0))))) ⟨⟨_, rfl⟩, fun _ _ _ e => e, e1⟩ (fun _ _ _ _ e => SqT.of (e.2.1 _ _ (ne_of_none htm hdc) (s1 _ _ htm))) ?_ ?_
  · rintro k v σ Gz G hk' ⟨⟨u5, rfl⟩, kx, eD⟩ ⟨rfl, hx⟩
    rw [List.getElem?_map] at hx
    obtain ⟨m, hm, rfl⟩ := Option.map_eq_some_iff.mp hx
    refine w_name (w_dput (w_var rfl (w_var rfl (w_var rfl (dputK (k := Sum.inr m) eD ?_ fun G2 k2 e2 => ⟨⟨_, rfl⟩, fun b o n e => k2 _ _ n (kx b o n e), ?_⟩)))))
    · rw [asV_len, List.length_map, List.length_cons, List.length_take]
      omega
    · rw [putA_new (a := y0) (getA_none.mpr ?_) rfl] at e2
      · rw [e2, List.take_add_one, hm, List.map_cons, List.map_cons, List.map_append]
        rfl
      · rw [List.map_map]
        intro z
        have z : m ∈ f :: ms.take k := by
          obtain ⟨w, hw, e⟩ := List.mem_map.mp z
          have e : w = m := e
          exact e ▸ hw
        rcases List.mem_cons.mp z with z | z
        · exact (List.nodup_cons.mp hnd).1 (z ▸ List.mem_of_getElem? hm)
        · obtain ⟨j, hj⟩ := List.mem_iff_getElem?.mp z
          rw [List.getElem?_take] at hj
          split at hj
          · have := (List.getElem?_inj (List.getElem?_eq_some_iff.mp hm).1 (List.nodup_cons.mp hnd).2).mp (hm.trans hj.symm)
            omega
          · exact nomatch hj
  rintro σ G2 ⟨⟨u5, rfl⟩, kx, eD⟩
  rw [List.length_map, List.take_length] at eD
  have s2 : Same H G2 := fun b o e => kx b o (ne_of_none e hdc) (s1 _ _ e)
  clear kx eG1 s1 e1
  with_reducible refine w_seq ?_
  refine w_asg (w_dnewK fun du G3 f3 s3 e3 => w_name ?_)
  have s23 := s2.trans s3
  have du0 : H du = none := same_none s2 f3
  have ncu : dc ≠ du := ne_of_none eD f3
  have eD3 := s3 _ _ eD
  with_reducible refine w_seq ?_
  refine w_asg (w_call (w_cons (w_var rfl (w_cons (w_var rfl (w_cons (w_var rfl (w_nil ⟨w, c, pa, wl, wh, f, R, cs, f, rfl, (hW.same s23).wr, .inl (s23 _ _ hc), hcs, fun ra0 G4 f4 s4 e4 => w_name ?_⟩))))))))
  have s24 := s23.trans s4
  have eD4 := s4 _ _ eD3
  have e34 := s4 _ _ e3
  clear s23 s2 s3 eD eD3 e3 f3
  with_reducible refine w_seq ?_
  refine w_asg (w_c (w_name ?_))
  -- the walk
  obtain ⟨s0, hs0⟩ : ∃ s0, s0 = initW f ms y0 (rowC R cs f) := ⟨_, rfl⟩
  obtain ⟨N, hN⟩ : ∃ N : Nat, N = 1 + (csum cs).toNat := ⟨_, rfl⟩
  have hsum0 : 0 ≤ (csum cs) := sum_nn fun z hz => by
    obtain ⟨y, hy, rfl⟩ := List.mem_map.mp hz
    exact hcs y hy
  rw [← hs0, ← hN] at q
  have fin : ∀ (s : Wk) (ra : Addr) (u5 u9 u10 u11 u12 : Option V) (G : Hp), s = literW (rowC R cs) N s0 → Same H G → G dc = some (.dK (asV ltV s.came)) → G du = some (.dK (asV V.int s.lim)) → WkOk CL H s →
      tRet (tLst (tCons (tVar 4) (tCons (tVar 6) (tCons (tVar 2) tNil)))) { nx := fun _ H' => Q .non H', rt := Q } [some (.ref w), some (.ref c), some (.str s.k), some (.ref y0.1), some (.ref dc), u5, some (.ref du), some (.ref ra), some (.int (s.at_ : Nat)), u9, u10, u11, u12] G := by
    intro s ra u5 u9 u10 u11 u12 G h1 h2 h3 h4 h5
    refine w_ret (w_lstV (w_cons (w_var rfl (w_cons (w_var rfl (w_cons (w_var rfl (w_nil ⟨sz (by simp), w_new fun p G' f' s' e' => ?_⟩))))))))
    exact q p dc du s G' (h2.trans s') hdc du0 ncu e' (s' _ _ h3) (s' _ _ h4) h1 fun y hy => h5.1 y hy
  with_reducible refine w_seq ?_
  refine w_for (w_iRng1 (w_cons (w_op (w_c (w_cb (w_cons (lcCounts (s24 _ _ hc) hcn (by omega) rfl (fun _ => rfl) (fun _ => rfl) (fun _ => rfl) fun D5 G5 f5 s5 e5 => w_nil ⟨D5, cs.map (·.2), rfl, SqL.of e5, w_I0 (w_nil ?_)⟩)))))))
  have eN : (1 : Int) + (cs.map fun z => z.2).sum = (N : Int) := by
    show 1 + csum cs = _
    omega
  rw [eN]
  have s25 := s24.trans s5
  refine w_rng (by omega) (by omega) (fun i σ G => ∃ (s : Wk) (ra : Addr) (u5 u9 u10 u11 u12 : Option V), s = literW (rowC R cs) i s0 ∧ σ = [some (.ref w), some (.ref c), some (.str s.k), some (.ref y0.1), some (.ref dc), u5, some (.ref du), some (.ref ra), some (.int (s.at_ : Nat)), u9, u10, u11, u12] ∧
    Same H G ∧ G dc = some (.dK (asV ltV s.came)) ∧ G du = some (.dK (asV V.int s.lim)) ∧ G ra = some (.lst (lsV s.row)) ∧ WkOk CL H s ∧ s.came.length ≤ 101 + i ∧ s.lim.length ≤ i)
    ⟨s0, ra0, _, _, _, _, _, rfl, by rw [hs0]; rfl, s25, by rw [hs0]; exact s5 _ _ eD4, by rw [hs0]; exact s5 _ _ e34, by rw [hs0]; exact s5 _ _ e4, ?_, ?_, by rw [hs0]; exact Nat.le_refl _⟩ ?_ ?_
  · rw [hs0]
    refine ⟨fun y hy => ?_, rowC_ok hW.rows cs f⟩
    obtain ⟨nm, _, rfl⟩ := List.mem_map.mp hy
    exact hL0
  · rw [hs0]
    show ((f :: ms).map fun nm => (nm, y0)).length ≤ 101
    rw [List.length_map, List.length_cons]
    omega
  · rintro i σ G hi ⟨s, ra, u5, u9, u10, u11, u12, hs, rfl, sG, gc0, gl0, gr, hok, hcl', hll⟩
    have hi : i < N := by omega
    have hi2 : i ≤ 5001 := by omega
    refine w_name ?_
    with_reducible refine w_seq ?_
    refine w_ifS (w_test (w_op (w_var rfl (w_cb (w_cons (w_var rfl (w_nil (w_lenL (SqL.of gr) (w_I0 (w_exb (w_ite (fun hlt => ?_) (fun hlt => w_next ?_))))))))))))
    · rw [lsV_len] at hlt
      refine w_brk (fin s ra _ _ _ _ _ G ?_ sG gc0 gl0 hok)
      have := lstay hs (by omega) (N - i)
      rw [show i + (N - i) = N by omega] at this
      exact this.symm
    rw [lsV_len] at hlt
    have hlt : s.at_ < s.row.length := by omega
    obtain ⟨y, hy⟩ : ∃ y, s.row[s.at_]? = some y := ⟨_, List.getElem?_eq_getElem hlt⟩
    obtain ⟨hyL, hyB⟩ := hok.2.ok y (List.mem_of_getElem? hy)
    have hnext : literW (rowC R cs) (i + 1) s0 = lactW (rowC R cs) s y (bbOfR y.2.b) := by
      show lstepW _ (literW _ i s0) = _
      rw [← hs]
      unfold lstepW
      rw [hy]
    have eat : ((s.at_ : Nat) : Int) + 1 = ((s.at_ + 1 : Nat) : Int) := by omega
    with_reducible refine w_seq ?_
    refine w_asg (w_op (w_var rfl (w_var rfl (w_ixL (v := .ref y.1) (SqL.of gr) (atI_nat (by rw [List.getElem?_map, hy]; rfl)) (w_name ?_)))))
    with_reducible refine w_seq ?_
    refine w_asg (w_op (w_var rfl (w_c (w_I0 (w_name ?_)))))
    rw [eat]
    obtain ⟨dxy, dy, svy, bty, hox, hbd, xs, hbt, hxs⟩ := bb_act (hyL.1.same sG) hyB
    generalize hb : bbOfR y.2.b = b at hbd hbt hxs hnext
    with_reducible refine w_seq ?_
    refine w_asg (w_op (w_fldV rfl hox LCL.cl LCL.n_body lfs_body (w_c (w_ixT (SqT.of hbt) (atI_nat (j := 0) rfl) (w_name ?_)))))
    have done : ∀ (s' : Wk) (ra' : Addr) (u5 u9 u10 u11 u12 : Option V) (G' : Hp), lactW (rowC R cs) s y b = s' → Same H G' → G' dc = some (.dK (asV ltV s'.came)) → G' du = some (.dK (asV V.int s'.lim)) → G' ra' = some (.lst (lsV s'.row)) → WkOk CL H s' → s'.came.length ≤ 101 + (i + 1) → s'.lim.length ≤ i + 1 →
        ∃ (s : Wk) (ra : Addr) (v5 v9 v10 v11 v12 : Option V), s = literW (rowC R cs) (i + 1) s0 ∧ ([some (.ref w), some (.ref c), some (.str s'.k), some (.ref y0.1), some (.ref dc), u5, some (.ref du), some (.ref ra'), some (.int (s'.at_ : Nat)), u9, u10, u11, u12] : L2.St) = [some (.ref w), some (.ref c), some (.str s.k), some (.ref y0.1), some (.ref dc), v5, some (.ref du), some (.ref ra), some (.int (s.at_ : Nat)), v9, v10, v11, v12] ∧
          Same H G' ∧ G' dc = some (.dK (asV ltV s.came)) ∧ G' du = some (.dK (asV V.int s.lim)) ∧ G' ra = some (.lst (lsV s.row)) ∧ WkOk CL H s ∧ s.came.length ≤ 101 + (i + 1) ∧ s.lim.length ≤ i + 1 :=
      fun s' ra' u5 u9 u10 u11 u12 G' e1 e3 e4 e5 e6 e7 e8 e9 => ⟨s', ra', u5, u9, u10, u11, u12, by rw [hnext]; exact e1.symm, rfl, e3, e4, e5, e6, e7, e8, e9⟩
    with_reducible refine w_seq ?_
    refine w_ifS (w_test (w_op (w_var rfl (w_tupV (w_cons (w_c (w_cons (w_c (w_cons (w_c (w_nil ⟨sz (by simp), w_new fun t6 G6 f6 s6 e6 => w_inT (SqT.of e6) rfl rfl (w_exb ?_)⟩)))))))))))
    rw [show inV (.str b.kind) [V.str (Str.ofString "add"), V.str (Str.ofString "cut"), V.str (Str.ofString "hand")] = actB b from inV_strs b.kind [Str.ofString "add", Str.ofString "cut", Str.ofString "hand"]]
    have sA := sG.trans s6
    have c6 := s6 _ _ gc0
    have l6 := s6 _ _ gl0
    have r6 := s6 _ _ gr
    have o6 := s6 _ _ hox
    cases hab : actB b with
    | false =>
      refine ite_t rfl (w_cont ?_)
      refine done { s with at_ := s.at_ + 1 } ra _ _ _ _ _ G6 ?_ sA c6 l6 r6 hok (by show s.came.length ≤ _; omega) (by show s.lim.length ≤ _; omega)
      cases b with
      | act kd nm hkd =>
        unfold actB at hab
        have z := of_decide_eq_false hab
        exact absurd (by rcases hkd with h | h | h <;> (show kd ∈ _; rw [h]; simp)) z
      | _ => rfl
    | true =>
    refine ite_f (by decide) (w_next ?_)
    obtain ⟨kd, nm, hkd, rfl⟩ := act_of hab
    obtain rfl : xs = [.str nm] := by
      cases hxs with
      | cons h1 h2 =>
        cases h1
        cases h2
        rfl
    with_reducible refine w_seq ?_
    refine w_asg (w_op (w_fldV rfl o6 LCL.cl LCL.n_body lfs_body (w_c (w_ixT (SqT.of (s6 _ _ hbt)) (atI_nat (j := 1) rfl) (w_name ?_)))))
    with_reducible refine w_seq ?_
    refine w_asg (w_fits rfl rfl rfl rfl c6 l6 (w_name ?_))
    have hskip : ∀ G', Same G6 G' → lactW (rowC R cs) s y (.act kd nm hkd) = { s with at_ := s.at_ + 1 } → ∀ (u5 u9 u10 u11 u12 : Option V), _ := fun G' s' e u5 u9 u10 u11 u12 => done { s with at_ := s.at_ + 1 } ra u5 u9 u10 u11 u12 G' e (sA.trans s') (s' _ _ c6) (s' _ _ l6) (s' _ _ r6) hok (by show s.came.length ≤ _; omega) (by show s.lim.length ≤ _; omega)
    rcases id hkd with h1 | h1 | h1
    · -- add
      have ha : lactW (rowC R cs) s y (.act kd nm hkd) = { s with came := putNew s.came nm y, at_ := s.at_ + 1 } := if_pos h1
      have hokA : WkOk CL H { s with came := putNew s.came nm y, at_ := s.at_ + 1 } := ⟨fun z hz => (putNew_mem hz).elim (hok.1 z) fun e => by rw [e]; exact hyL, hok.2⟩
      have hlA : (putNew s.came nm y).length ≤ 101 + (i + 1) := Nat.le_trans (putNew_len _ _ _) (by omega)
      have n2 : kd ≠ Str.ofString "cut" := by rw [h1]; decide +kernel
      have n3 : kd ≠ Str.ofString "hand" := by rw [h1]; decide +kernel
      have rest : ∀ G', Same H G' → G' dc = some (.dK (asV ltV (putNew s.came nm y))) → G' du = some (.dK (asV V.int s.lim)) → G' ra = some (.lst (lsV s.row)) → _ := fun G' h1 h2 h3 h4 => done { s with came := putNew s.came nm y, at_ := s.at_ + 1 } ra (some (.str nm)) (some (.int (i : Int))) (some (.ref y.1)) (some (.str kd)) (some (.bl (otherB s.came s.lim s.k nm))) G' ha h1 h2 h3 h4 hokA hlA (by show s.lim.length ≤ _; omega)
      subst h1
      with_reducible refine w_seq ?_
      refine w_isKind rfl (w_B (w_dnotinW (w_var rfl (w_var rfl ⟨dc, _, rfl, DGet.k (k := Sum.inr nm) c6, w_exb ?_⟩))))
      rw [valA, Option.isSome_map]
      cases e : getA s.came nm with
      | some z =>
        refine ite_f (by simp) (w_next ?_)
        have hp : putNew s.came nm y = s.came := if_pos (by rw [e]; rfl)
        rw [hp] at rest
        with_reducible refine w_seq ?_
        exact w_noKind rfl n2 (w_noKind rfl n3 (rest G6 sA c6 l6 r6))
      | none =>
        have hp : putNew s.came nm y = s.came ++ [(nm, y)] := if_neg (by rw [e]; decide)
        refine ite_t rfl (w_dput (w_var rfl (w_var rfl (w_var rfl (dputK (k := Sum.inr nm) c6 (by rw [asV_len]; omega) fun G7 k7 e7 => ?_)))))
        rw [putA_new (a := y) e rfl] at e7
        rw [hp] at rest
        with_reducible refine w_seq ?_
        exact w_noKind rfl n2 (w_noKind rfl n3 (rest G7 (Same.kp0 sA k7 hdc) e7 (k7 _ _ ncu.symm l6) (k7 _ _ (ne_kind r6 c6 fun z => by cases z) r6)))
    · -- cut
      have n1 : kd ≠ Str.ofString "add" := by rw [h1]; decide +kernel
      have n3 : kd ≠ Str.ofString "hand" := by rw [h1]; decide +kernel
      with_reducible refine w_seq ?_
      refine w_noKind rfl n1 ?_
      cases ho : otherB s.came s.lim s.k nm with
      | false =>
        have ha : lactW (rowC R cs) s y (.act kd nm hkd) = { s with at_ := s.at_ + 1 } := (if_neg n1).trans (if_neg (by rw [ho]; decide))
        subst h1
        with_reducible refine w_seq ?_
        exact w_isKind rfl (w_B (w_var rfl (w_exb (ite_f (by decide) (w_next (w_noKind rfl n3 (hskip G6 (Same.refl _) ha _ _ _ _ _)))))))
      | true =>
        have ha : lactW (rowC R cs) s y (.act kd nm hkd) = { s with lim := s.lim ++ [(nm, cnt y.2.ps nm)], at_ := s.at_ + 1 } := (if_neg n1).trans ((if_pos ho).trans (if_pos h1))
        have hnl : getA s.lim nm = none := by
          unfold otherB at ho
          rw [Bool.and_eq_true, Bool.and_eq_true] at ho
          exact Option.isNone_iff_eq_none.mp ho.2.1
        subst h1
        with_reducible refine w_seq ?_
        refine w_isKind rfl (w_B (w_var rfl (w_exb (ite_t rfl ?_))))
        refine w_dput (w_methV rfl o6 rfl (w_cons (w_var rfl (w_nil ⟨y.1, nm, y.2, rfl, hyL.1.same sA, w_var rfl (w_var rfl (dputK (k := Sum.inr nm) l6 (by rw [asV_len]; omega) fun G7 k7 e7 => ?_))⟩))))
        rw [putA_new (a := cnt y.2.ps nm) hnl rfl] at e7
        refine w_noKind rfl n3 (done { s with lim := s.lim ++ [(nm, cnt y.2.ps nm)], at_ := s.at_ + 1 } ra _ _ _ _ _ G7 ha (Same.kp0 sA k7 du0) (k7 _ _ ncu c6) e7 (k7 _ _ (ne_kind r6 l6 fun z => by cases z) r6) hok (by show s.came.length ≤ _; omega) ?_)
        show (s.lim ++ [_]).length ≤ _
        rw [List.length_append, List.length_singleton]
        omega
    · -- hand
      have n1 : kd ≠ Str.ofString "add" := by rw [h1]; decide +kernel
      have n2 : kd ≠ Str.ofString "cut" := by rw [h1]; decide +kernel
      with_reducible refine w_seq ?_
      refine w_noKind rfl n1 ?_
      with_reducible refine w_seq ?_
      refine w_noKind rfl n2 ?_
      cases ho : otherB s.came s.lim s.k nm with
      | false =>
        have ha : lactW (rowC R cs) s y (.act kd nm hkd) = { s with at_ := s.at_ + 1 } := (if_neg n1).trans (if_neg (by rw [ho]; decide))
        subst h1
        exact w_isKind rfl (w_B (w_var rfl (w_exb (ite_f (by decide) (w_next (hskip G6 (Same.refl _) ha _ _ _ _ _))))))
      | true =>
        have ha : lactW (rowC R cs) s y (.act kd nm hkd) = { s with k := nm, row := rowC R cs nm, at_ := countNot y.2.a y.2.n (rowC R cs nm) } := (if_neg n1).trans ((if_pos ho).trans (if_neg n2))
        have hRn := rowC_ok hW.rows cs nm
        subst h1
        refine w_isKind rfl (w_B (w_var rfl (w_exb (ite_t rfl ?_))))
        with_reducible refine w_seq ?_
        refine w_asg (w_var rfl (w_name ?_))
        with_reducible refine w_seq ?_
        refine w_asg (w_call (w_cons (w_var rfl (w_cons (w_var rfl (w_cons (w_var rfl (w_nil ⟨w, c, pa, wl, wh, f, R, cs, nm, rfl, (hW.same sA).wr, .inl (sA _ _ hc), hcs, fun ra' G7 f7 s7 e7 => w_name ?_⟩))))))))
        have sB := sA.trans s7
        refine w_asg (w_call (w_cons (w_var rfl (w_cons (w_propV rfl (s7 _ _ o6) ⟨y.1, y.2, rfl, hyL.1.same sB, fun t8 G8 _ s8 e8 => w_nil ⟨t8, ra', y.2.a, y.2.n, rowC R cs nm, rfl, e8, s8 _ _ e7, fun z hz => (hRn.ok z hz).1.same (sB.trans s8), hRn.len, w_name ?_⟩⟩)))))
        exact done { s with k := nm, row := rowC R cs nm, at_ := countNot y.2.a y.2.n (rowC R cs nm) } ra' _ _ _ _ _ G8 ha (sB.trans s8) (s8 _ _ (s7 _ _ c6)) (s8 _ _ (s7 _ _ l6)) (s8 _ _ e7) ⟨hok.1, hRn⟩ (by show s.came.length ≤ _; omega) (by show s.lim.length ≤ _; omega)
  · rintro σ G ⟨s, ra, u5, u9, u10, u11, u12, hs, rfl, sG, gc0, gl0, gr, hok, _, _⟩
    rw [Int.toNat_natCast] at hs
    exact fin s ra _ _ _ _ _ G hs sG gc0 gl0 hok
/-- _law_new_world: slots 0:people 1:many 2:first 3:world 4:name -/
def t__law_new_world (K : PySem.W.Frag) (C_Letter : Addr) : TS := (tSeq (tAsg (tCall (spFounding K C_Letter) [] C8.E0 (tCons (tOp (rIxL K) (tVar 0) (tC (.int 0))) (tCons (tSl (rSlL K) (tVar 0) (tPart (tC (.int 1))) (tPart (tVar 1))) tNil))) (gName 2))
  (tSeq (tAsg (tDisp (((tC (.str "people")), (tVar 0)) :: (((tC (.str "founder")), (tOp (rIxL K) (tVar 0) (tC (.int 0)))) :: (((tC (.str "letters")), (tDisp (((tOp (rIxL K) (tVar 0) (tC (.int 0))), (tLst (tCons (tVar 2) tNil))) :: []))) :: (((tC (.str "held")), tDNewK) :: []))))) (gName 3))
  (tSeq (tFor (iList K (tVar 0)) (gName 4) (sDPut (tDGet (tVar 3) (tC (.str "held"))) (tVar 4) tDNewK))
  (tSeq (sDPut (tDGet (tVar 3) (tC (.str "held"))) (tOp (rIxL K) (tVar 0) (tC (.int 0))) (tDisp (((tOp (rIxL K) (tVar 0) (tC (.int 0))), (tC (.int 1))) :: [])))
  (tRet (tVar 3))))))
theorem l__law_new_world (h : spNewWorld K CL vs H Q E) : vs.length = 2 := by obtain ⟨pa, n, ps, f, rfl, _⟩ := h; rfl
theorem r__law_new_world (LCL : IsC_Letter K CL) (h : spNewWorld K CL vs H Q E) : t__law_new_world K CL { nx := fun _ H' => Q .non H', rt := Q } (start ["people", "many", "first", "world", "name"] vs) H := by
  obtain ⟨pa, n, ps, f, rfl, hpa, hf, hnd, hpl, hasc, hn1, hn2, q⟩ := h
  have hf' : atI (ps.map V.str) 0 = some (.str f) := atI_nat (j := 0) (by rw [List.getElem?_map, hf]; rfl)
  have hfm := List.mem_of_getElem? hf
  unfold t__law_new_world
  refine w_seq (w_asg (w_call (w_cons (w_op (w_var rfl (w_c (w_ixL (SqL.of hpa) hf' (w_cons (w_sl (w_var rfl (w_part (w_c (w_exi (w_part (w_var rfl (w_exi ?_))))))))))))))))
  refine w_slLV (SqL.of hpa) fun l4 G1 f1 s1 e1 => ?_
  rw [show (1 : Int) = ((1 : Nat) : Int) from rfl, cutV_mid (by rw [List.length_map]; omega) (by omega), ← List.map_drop, ← List.map_take] at e1
  have hmn : (f :: (ps.drop 1).take (n - 1)).Nodup ∧ ∀ x ∈ (ps.drop 1).take (n - 1), x ∈ ps := by
    cases ps with
    | nil => exact nomatch hf
    | cons x r =>
      have hf : x = f := Option.some.inj hf
      subst hf
      rw [List.nodup_cons] at hnd
      exact ⟨List.nodup_cons.mpr ⟨fun z => hnd.1 (List.mem_of_mem_take z), hnd.2.sublist (List.take_sublist _ _)⟩, fun y hy => List.mem_cons_of_mem _ (List.mem_of_mem_take hy)⟩
  obtain ⟨hmn, hmm⟩ := hmn
  have hml : ((ps.drop 1).take (n - 1)).length ≤ 60 := by rw [List.length_take, List.length_drop]; omega
  generalize (ps.drop 1).take (n - 1) = ms at e1 hmn hmm hml
  refine w_nil ⟨f, l4, ms, rfl, e1, hml, hasc f hfm, fun x hx => hasc x (hmm x hx), fun x G2 f2 s2 hx => w_name ?_⟩
  have hmn' : (f :: sortF ms).Nodup := by
    rw [List.nodup_cons] at hmn ⊢
    exact ⟨fun z => hmn.1 (sortF_mem.mp z), (sortF_perm ms).nodup_iff.mpr hmn.2⟩
  have hml' : (sortF ms).length ≤ 60 := by rw [sortF_len]; exact hml
  have hmm' : ∀ z ∈ sortF ms, z ∈ ps := fun z hz => hmm z (sortF_mem.mp hz)
  generalize sortF ms = mm at hmn' hml' hmm' hx
  clear hmn hmm hml e1 f1
  have s12 := s1.trans s2
  have hpa2 := s12 _ _ hpa
  obtain ⟨dxx, dcx, svx, bvx, hx1, _, hx3, hx4⟩ := hx.1 Any (fun _ _ => trivial)
  have hwf := hx.2
  clear hx
  have s12' := s12
  with_reducible refine w_seq ?_
  refine w_asg (fun w hw => ?_)
  obtain ⟨G3, eG3, s3, e3⟩ := newT (o := .dK []) hw
  rw [← eG3]
  refine w_c (w_var rfl (w_c (w_op (w_var rfl (w_c (w_ixL (v := .str f) (SqL.of (s3 _ _ hpa2)) hf' (w_c (fun wl hwl => ?_))))))))
  obtain ⟨G4, eG4, s4, e4⟩ := newT (o := .dK []) hwl
  rw [← eG4]
  have hpa4 := s4 _ _ (s3 _ _ hpa2)
  refine w_op (w_var rfl (w_c (w_ixL (v := .str f) (SqL.of hpa4) hf' (w_lstV (w_cons (w_var rfl (w_nil ⟨sz (by simp), w_new fun l G5 f5 s5 e5 => ⟨s5 _ _ e4, [(Sum.inr f, .ref l)], rfl, (by show 1 ≤ 15; decide), ?_⟩⟩)))))))
  rw [show mergeK ([] : List (L2.Key × V)) [(Sum.inr f, .ref l)] = asV V.ref [(f, l)] from rfl]
  have nlw : l ≠ wl := (ne_of_none e4 f5).symm
  have k6 : Kp wl G5 (upd G5 wl (.dK (asV V.ref [(f, l)]))) := Kp.refl.updp
  have e6 : upd G5 wl (.dK (asV V.ref [(f, l)])) wl = some (.dK (asV V.ref [(f, l)])) := upd_same
  generalize upd G5 wl (.dK (asV V.ref [(f, l)])) = G6 at k6 e6
  have s36 : Same G3 G6 := fun b o e => k6 _ _ (ne_of_none e hwl) (s5 _ _ (s4 _ _ e))
  have l6 := k6 _ _ nlw e5
  have w6 := s36 _ _ e3
  refine w_c (w_dnewK fun wh G7 f7 s7 e7 => ⟨s7 _ _ w6, w4 pa f wl wh, rfl, (by show 4 ≤ 15; decide), ?_⟩)
  rw [show mergeK ([] : List (L2.Key × V)) (w4 pa f wl wh) = w4 pa f wl wh from rfl]
  have nwl : w ≠ wl := ne_of_none e3 hwl
  have nwh : w ≠ wh := ne_of_none w6 f7
  have nlh : wl ≠ wh := ne_of_none e6 f7
  have k8 : Kp w G7 (upd G7 w (.dK (w4 pa f wl wh))) := Kp.refl.updp
  have e8 : upd G7 w (.dK (w4 pa f wl wh)) w = some (.dK (w4 pa f wl wh)) := upd_same
  generalize upd G7 w (.dK (w4 pa f wl wh)) = G8 at k8 e8
  have s28 : Same G2 G8 := fun b o e => k8 _ _ (ne_of_none e hw) (s7 _ _ (s36 _ _ (s3 _ _ e)))
  have wl8 := k8 _ _ nwl.symm (s7 _ _ e6)
  have l8 := k8 _ _ (ne_kind (s7 _ _ l6) (s7 _ _ w6) fun z => by cases z) (s7 _ _ l6)
  have wh8 := k8 _ _ nwh.symm e7
  have hwl2 : G2 wl = none := same_none s3 hwl
  have hl2 : G2 l = none := same_none (s3.trans s4) f5
  have hwh2 : G2 wh = none := same_none (s3.trans s36) f7
  have hlt : LtAt (fun a => a ≠ w ∧ a ≠ wl ∧ a ≠ wh) CL G8 x (ltFd f mm) := LtAt.same ⟨dxx, dcx, svx, bvx, hx1, ⟨ne_of_none hx3 hw, ne_of_none hx3 hwl2, ne_of_none hx3 hwh2⟩, hx3, hx4⟩ s28
  have hpa8 := s28 _ _ hpa2
  have fin : ∀ G ds, (∀ b o, b ≠ wh → G8 b = some o → G b = some o) → G wh = some (.dK (asV V.ref ds)) → ds.map (·.1) = ps → (∀ z ∈ ds, G z.2 = some (.dK (asV V.int (held0 f z.1))) ∧ z.2 ≠ w ∧ z.2 ≠ wl ∧ z.2 ≠ wh) → Q (.ref w) G := by
    intro G ds kx hds1 hds2 hds3
    refine q w wl wh l x mm ds G (fun b o e => kx _ _ (fun z => ?_) (s28 _ _ (s12 _ _ e))) (same_none s12 hw) (same_none s12 hwl2) (same_none s12 hwh2) (same_none s12 hl2) nwl nwh nlh (kx _ _ nwh e8) (kx _ _ nlh wl8) (kx _ _ (ne_kind l8 wh8 fun z => by cases z) l8) hds1 hds2 hds3 ?_ hwf hmn' hml' hmm'
    · rw [z, same_none s12 hwh2] at e
      cases e
    · obtain ⟨dxx, dcx, svx, bvx, h1, h2, h3, h4⟩ := hlt
      have tk : Tk G8 G := ⟨fun b xs e => kx _ _ (ne_kind e wh8 fun z => by cases z) e, fun b o xs e => kx _ _ (ne_kind e wh8 fun z => by cases z) e⟩
      exact ⟨dxx, dcx, svx, bvx, kx _ _ (ne_kind h1 wh8 fun z => by cases z) h1, h2, kx _ _ h2.2.2 h3, h4.1.tk tk, dn_tk tk hwf.pb h4.2⟩
  clear hx1 hx3 hx4 s28 l6 w6 e7 e6 e5 e4 e3 k8 k6 eG3 eG4 s36
  refine w_name ?_
  with_reducible refine w_seq ?_
  refine w_for (w_iList (w_var rfl ⟨pa, rfl, ⟨_, SqL.of hpa8⟩, ?_⟩))
  have npah : pa ≠ wh := ne_kind hpa8 wh8 fun z => by cases z
  have hheld : ∀ G : Hp, G w = some (.dK (w4 pa f wl wh)) → DGet G w (.str (Str.ofString "held")) (some (.ref wh)) := fun G e => (show valV (w4 pa f wl wh) (Sum.inr (Str.ofString "held")) = some (.ref wh) by rfl) ▸ DGet.k (k := Sum.inr (Str.ofString "held")) e
  refine for_it (walk_list (xs := ps.map V.str)) (fun k σ G => (∃ u4, σ = [some (.ref pa), some (.int (n : Nat)), some (.ref x), some (.ref w), u4]) ∧ (∀ b o, b ≠ wh → G8 b = some o → G b = some o) ∧ ∃ ds : List (Str × Addr), G wh = some (.dK (asV V.ref ds)) ∧ ds.map (·.1) = ps.take k ∧ ∀ z ∈ ds, G z.2 = some (.dK []) ∧ z.2 ≠ w ∧ z.2 ≠ wl ∧ z.2 ≠ wh) ⟨⟨_, rfl⟩, fun _ _ _ e => e, [], wh8, rfl, fun z hz => (nomatch hz)⟩ (fun _ _ _ _ e => SqL.of (e.2.1 _ _ npah hpa8)) ?_ ?_
  · rintro k v σ Gz G hk ⟨⟨u4, rfl⟩, kx, ds, ek, hkl, hdz⟩ ⟨rfl, hxk⟩
    rw [List.getElem?_map] at hxk
    obtain ⟨nm, hnm, rfl⟩ := Option.map_eq_some_iff.mp hxk
    rw [List.length_map] at hk
    have hdl : ds.length ≤ k := by
      have := congrArg List.length hkl
      rw [List.length_map, List.length_take] at this
      omega
    refine w_name (w_dput (w_dnewK fun d1 G9 f9 s9 e9 => w_dget (w_var rfl (w_c ⟨w, .ref wh, rfl, hheld _ (s9 _ _ (kx _ _ nwh e8)), w_var rfl (dputK (k := Sum.inr nm) (s9 _ _ ek) (by rw [asV_len]; omega) fun G10 k10 e10 => ⟨⟨_, rfl⟩, fun b o nb e => k10 _ _ nb (s9 _ _ (kx _ _ nb e)), ds ++ [(nm, d1)], ?_, ?_, fun z hz => ?_⟩)⟩))))
    · rw [e10, putA_new (a := d1) (getA_none.mpr ?_) rfl]
      rw [hkl]
      intro z
      obtain ⟨j, hj⟩ := List.mem_iff_getElem?.mp z
      rw [List.getElem?_take] at hj
      split at hj
      · have := (List.getElem?_inj (List.getElem?_eq_some_iff.mp hnm).1 hnd).mp (hnm.trans hj.symm)
        omega
      · exact nomatch hj
    · rw [List.map_append, hkl, List.take_add_one, hnm]
      rfl
    · rcases List.mem_append.mp hz with hz | hz
      · obtain ⟨h1, h2⟩ := hdz z hz
        exact ⟨k10 _ _ h2.2.2 (s9 _ _ h1), h2⟩
      · rw [List.mem_singleton.mp hz]
        have n3 : d1 ≠ wh := (ne_of_none ek f9).symm
        exact ⟨k10 _ _ n3 e9, (ne_of_none (kx _ _ nwh e8) f9).symm, (ne_of_none (kx _ _ nlh wl8) f9).symm, n3⟩
  rintro σ G ⟨⟨u4, rfl⟩, kx, ds, ek, hkl, hdz⟩
  rw [List.length_map, List.take_length] at hkl
  have hdl : ds.length ≤ 60 := by
    have := congrArg List.length hkl
    rw [List.length_map] at this
    omega
  have hpaG := kx _ _ npah hpa8
  with_reducible refine w_seq ?_
  refine w_dput (fun d1 hd1 => ?_)
  obtain ⟨G9, eG9, s9, e9⟩ := newT (o := .dK []) hd1
  rw [← eG9]
  refine w_op (w_var rfl (w_c (w_ixL (v := .str f) (SqL.of (s9 _ _ hpaG)) hf' (w_c ⟨e9, [(Sum.inr f, .int 1)], rfl, (by show 1 ≤ 15; decide), ?_⟩))))
  rw [eG9, show mergeK ([] : List (L2.Key × V)) [(Sum.inr f, .int 1)] = [(Sum.inr f, .int 1)] from rfl, upd_upd]
  obtain ⟨G10, eG10, s10, e10⟩ := newT (o := .dK [(Sum.inr f, V.int 1)]) hd1
  rw [← eG10]
  refine w_dget (w_var rfl (w_c ⟨w, .ref wh, rfl, hheld _ (s10 _ _ (kx _ _ nwh e8)), w_op (w_var rfl (w_c (w_ixL (v := .str f) (SqL.of (s10 _ _ hpaG)) hf' (dputK (k := Sum.inr f) (s10 _ _ ek) (by rw [asV_len]; omega) fun G11 k11 e11 => ?_))))⟩))
  rw [putA_old (g := V.ref) (a := d1) (by rw [hkl]; exact hfm)] at e11
  have n3 : d1 ≠ wh := (ne_of_none ek hd1).symm
  refine w_ret (w_var rfl (fin G11 _ (fun b o nb e => k11 _ _ nb (s10 _ _ (kx _ _ nb e))) e11 ?_ fun z hz => ?_))
  · rw [List.map_map, ← hkl]
    refine List.map_congr_left fun z _ => ?_
    show (if z.1 = f then (z.1, d1) else z).1 = z.1
    split <;> rfl
  · obtain ⟨z0, hz0, rfl⟩ := List.mem_map.mp hz
    obtain ⟨h1, h2⟩ := hdz z0 hz0
    by_cases e : z0.1 = f
    · rw [if_pos e]
      refine ⟨?_, (ne_of_none (kx _ _ nwh e8) hd1).symm, (ne_of_none (kx _ _ nlh wl8) hd1).symm, n3⟩
      show G11 d1 = some (.dK (asV V.int (held0 f z0.1)))
      unfold held0
      rw [if_pos e]
      exact k11 _ _ n3 e10
    · rw [if_neg e]
      refine ⟨?_, h2⟩
      unfold held0
      rw [if_neg e]
      exact k11 _ _ h2.2.2 (s10 _ _ h1)
end

/-! ### the walk over the rows of a room ends, and the law's walk is the program's -/
def MonoL (ls : List (Addr × Lt)) : Prop := ∀ (i j : Nat) (y z : Addr × Lt), i < j → ls[i]? = some y → ls[j]? = some z → y.2.s < z.2.s ∧ ∀ b, cnt y.2.ps b ≤ cnt z.2.ps b
theorem MonoL.tail {y : Addr × Lt} {r : List (Addr × Lt)} (h : MonoL (y :: r)) : MonoL r := fun i j a b hij h1 h2 => h (i + 1) (j + 1) a b (by omega) h1 h2
theorem countNot_first {a : Str} {n : Int} : ∀ {ls : List (Addr × Lt)}, MonoL ls → countNot a n ls = firstSeen a n ls
  | [], _ => rfl
  | y :: r, h => by
    have ih := countNot_first (a := a) (n := n) h.tail
    unfold countNot at ih ⊢
    rw [firstSeen]
    cases hs : seenB a n y.2 with
    | false =>
      rw [List.filter_cons_of_pos (by simp [hs]), List.length_cons, ih]
      rfl
    | true =>
      rw [List.filter_cons_of_neg (by simp [hs]), if_pos rfl, List.length_eq_zero_iff, List.filter_eq_nil_iff]
      intro z hz
      obtain ⟨j, hj⟩ := List.mem_iff_getElem?.mp hz
      have := (h 0 (j + 1) y z (by omega) rfl hj).2 a
      unfold seenB at hs ⊢
      have hs := of_decide_eq_true hs
      rw [decide_eq_true (show n ≤ cnt z.2.ps a by omega)]
      decide
theorem firstSeen_is {a : Str} {n : Int} : ∀ {ls : List (Addr × Lt)} {z : Addr × Lt}, ls[firstSeen a n ls]? = some z → n ≤ cnt z.2.ps a
  | [], z, h => by simp at h
  | y :: r, z, h => by
    rw [firstSeen] at h
    by_cases hs : seenB a n y.2 = true
    · rw [if_pos hs] at h
      have e : y = z := Option.some.inj h
      rw [← e]
      exact of_decide_eq_true hs
    · rw [if_neg hs] at h
      exact firstSeen_is (ls := r) h
/-- rows of letters: their numbers, their stamps, and that a letter is younger than what it has seen -/
structure RowsW (rf : Str → List (Addr × Lt)) : Prop where
  num : ∀ (a : Str) (i : Nat) (y : Addr × Lt), (rf a)[i]? = some y → y.2.a = a ∧ y.2.n = (i : Int) + 1
  inc : ∀ a, MonoL (rf a)
  see : ∀ (a b : Str) (z : Addr × Lt), a ≠ b → z ∈ rf a → ∀ (i : Nat) (y : Addr × Lt), (rf b)[i]? = some y → (i : Int) + 1 ≤ cnt z.2.ps b → y.2.s < z.2.s
/-- whole rows: nobody has seen more than there is -/
structure RowsInv (rf : Str → List (Addr × Lt)) : Prop extends RowsW rf where
  top : ∀ (a b : Str) (z : Addr × Lt), a ≠ b → z ∈ rf a → cnt z.2.ps b ≤ ((rf b).length : Int)
/-- beginnings of rows -/
theorem RowsW.take {rf : Str → List (Addr × Lt)} (h : RowsW rf) (c : Str → Nat) : RowsW fun a => (rf a).take (c a) := by
  have get : ∀ (a : Str) (i : Nat) (y : Addr × Lt), ((rf a).take (c a))[i]? = some y → (rf a)[i]? = some y := fun a i y hy => by
    rw [List.getElem?_take] at hy
    split at hy
    · exact hy
    · exact nomatch hy
  exact ⟨fun a i y hy => h.num a i y (get a i y hy), fun a i j y z hij h1 h2 => h.inc a i j y z hij (get a i y h1) (get a j z h2), fun a b z hab hz i y hy hi => h.see a b z hab (List.mem_of_mem_take hz) i y (get b i y hy) hi⟩
theorem lact_act {rf : Str → List (Addr × Lt)} (h : ∀ a, MonoL (rf a)) (s : Wk) (y : Addr × Lt) (b : Bb) : lactW rf s y b = actW rf s y b := by
  cases b with
  | act kd nm hk =>
    unfold lactW actW
    dsimp only
    rw [countNot_first (h nm)]
  | say t => rfl
  | reply a n t => rfl
  | edit a n t => rfl
  | recall a n => rfl
  | mark a n w => rfl
  | title t => rfl
  | seen => rfl
  | found t ds => rfl
theorem liter_iter {rf : Str → List (Addr × Lt)} (h : ∀ a, MonoL (rf a)) (s : Wk) : ∀ n, literW rf n s = iterW rf n s
  | 0 => rfl
  | n + 1 => by
    rw [iterW_succ, ← liter_iter h s n]
    show lstepW rf _ = _
    unfold lstepW stepW
    cases (literW rf n s).row[(literW rf n s).at_]? with
    | none => rfl
    | some y => exact lact_act h _ _ _
/-- how many of the letters are older -/
def older (all : List (Addr × Lt)) (t : Int) : Nat := (all.filter fun y => decide (y.2.s < t)).length
theorem older_le {all : List (Addr × Lt)} {t : Int} : older all t ≤ all.length := List.length_filter_le _ _
theorem older_lt {t u : Int} (h : t < u) : ∀ {all : List (Addr × Lt)} {y : Addr × Lt}, y ∈ all → y.2.s = t → older all t + 1 ≤ older all u
  | x :: r, y, hy, e => by
    have mono : ∀ l : List (Addr × Lt), older l t ≤ older l u := by
      intro l
      induction l with
      | nil => exact Nat.le_refl _
      | cons z l ih =>
        unfold older at ih ⊢
        by_cases h1 : z.2.s < t
        · rw [List.filter_cons_of_pos (by simp [h1]), List.filter_cons_of_pos (by simp; omega)]
          exact Nat.succ_le_succ ih
        · rw [List.filter_cons_of_neg (by simp [h1])]
          by_cases h2 : z.2.s < u
          · rw [List.filter_cons_of_pos (by simp [h2])]
            exact Nat.le_succ_of_le ih
          · rw [List.filter_cons_of_neg (by simp [h2])]
            exact ih
    rcases List.mem_cons.mp hy with rfl | hy
    · have := mono r
      unfold older at this ⊢
      rw [List.filter_cons_of_neg (by simp [e]), List.filter_cons_of_pos (by simp [e, h])]
      exact Nat.succ_le_succ this
    · have ih := older_lt h hy e
      unfold older at ih ⊢
      by_cases h1 : x.2.s < t
      · rw [List.filter_cons_of_pos (by simp [h1]), List.filter_cons_of_pos (by simp; omega)]
        exact Nat.succ_le_succ ih
      · rw [List.filter_cons_of_neg (by simp [h1])]
        by_cases h2 : x.2.s < u
        · rw [List.filter_cons_of_pos (by simp [h2])]
          exact Nat.le_succ_of_le ih
        · rw [List.filter_cons_of_neg (by simp [h2])]
          exact ih
theorem step_next {rf : Str → List (Addr × Lt)} (h : RowsW rf) {s : Wk} {y : Addr × Lt} (hr : s.row = rf s.k) (hy : s.row[s.at_]? = some y) : (stepW rf s).row = rf (stepW rf s).k ∧ ∀ z, (stepW rf s).row[(stepW rf s).at_]? = some z → y.2.s < z.2.s := by
  have e : stepW rf s = actW rf s y (bbOfR y.2.b) := by
    unfold stepW
    rw [hy]
  rw [e]
  have hy' := hy
  rw [hr] at hy'
  have skip : ∀ s' : Wk, s'.row = s.row → s'.k = s.k → s'.at_ = s.at_ + 1 → s'.row = rf s'.k ∧ ∀ z, s'.row[s'.at_]? = some z → y.2.s < z.2.s := by
    intro s' e1 e2 e3
    rw [e1, e2, e3]
    refine ⟨hr, fun z hz => ?_⟩
    rw [hr] at hz
    exact (h.inc s.k s.at_ (s.at_ + 1) y z (by omega) hy' hz).1
  cases bbOfR y.2.b with
  | act kd nm hk =>
    unfold actW
    dsimp only
    by_cases h1 : kd = Str.ofString "add"
    · rw [if_pos h1]
      exact skip _ rfl rfl rfl
    · rw [if_neg h1]
      by_cases h2 : otherB s.came s.lim s.k nm = true
      · rw [if_pos h2]
        by_cases h3 : kd = Str.ofString "cut"
        · rw [if_pos h3]
          exact skip _ rfl rfl rfl
        · rw [if_neg h3]
          refine ⟨rfl, fun z hz => ?_⟩
          have hne : nm ≠ s.k := by
            unfold otherB at h2
            rw [Bool.and_eq_true, Bool.and_eq_true] at h2
            exact of_decide_eq_true h2.2.2
          obtain ⟨ea, en⟩ := h.num _ _ _ hy'
          have hz : (rf nm)[firstSeen y.2.a y.2.n (rf nm)]? = some z := hz
          have hs := firstSeen_is hz
          rw [ea, en] at hs
          exact h.see nm s.k z hne (List.mem_of_getElem? hz) s.at_ y hy' hs
      · rw [if_neg h2]
        exact skip _ rfl rfl rfl
  | say t => exact skip _ rfl rfl rfl
  | reply a n t => exact skip _ rfl rfl rfl
  | edit a n t => exact skip _ rfl rfl rfl
  | recall a n => exact skip _ rfl rfl rfl
  | mark a n w => exact skip _ rfl rfl rfl
  | title t => exact skip _ rfl rfl rfl
  | seen => exact skip _ rfl rfl rfl
  | found t ds => exact skip _ rfl rfl rfl
theorem walk_ends {rf : Str → List (Addr × Lt)} (h : RowsW rf) {all : List (Addr × Lt)} (ha : ∀ a, ∀ y ∈ rf a, y ∈ all) {s0 : Wk} (h0 : s0.row = rf s0.k) : ∀ i, (iterW rf i s0).row = rf (iterW rf i s0).k ∧ ((iterW rf i s0).row.length ≤ (iterW rf i s0).at_ ∨ ∃ y, (iterW rf i s0).row[(iterW rf i s0).at_]? = some y ∧ i ≤ older all y.2.s)
  | 0 => ⟨h0, by
    show s0.row.length ≤ s0.at_ ∨ ∃ y, s0.row[s0.at_]? = some y ∧ 0 ≤ older all y.2.s
    rcases Nat.lt_or_ge s0.at_ s0.row.length with e | e
    · exact .inr ⟨_, List.getElem?_eq_getElem e, Nat.zero_le _⟩
    · exact .inl e⟩
  | i + 1 => by
    obtain ⟨hr, hd⟩ := walk_ends h ha h0 i
    rw [iterW_succ]
    generalize iterW rf i s0 = s at hr hd
    rcases hd with hd | ⟨y, hy, ho⟩
    · have : stepW rf s = s := by
        unfold stepW
        rw [List.getElem?_eq_none hd]
      rw [this]
      exact ⟨hr, .inl hd⟩
    · obtain ⟨h1, h2⟩ := step_next h hr hy
      refine ⟨h1, ?_⟩
      rcases Nat.lt_or_ge (stepW rf s).at_ (stepW rf s).row.length with e | e
      · refine .inr ⟨_, List.getElem?_eq_getElem e, ?_⟩
        have hlt := h2 _ (List.getElem?_eq_getElem e)
        have hym : y ∈ all := ha s.k y (by rw [← hr]; exact List.mem_of_getElem? hy)
        have := older_lt hlt hym rfl
        omega
      · exact .inl e
theorem walk_end {rf : Str → List (Addr × Lt)} (h : RowsW rf) {all : List (Addr × Lt)} (ha : ∀ a, ∀ y ∈ rf a, y ∈ all) {s0 : Wk} (h0 : s0.row = rf s0.k) : (iterW rf (1 + all.length) s0).row.length ≤ (iterW rf (1 + all.length) s0).at_ := by
  rcases (walk_ends h ha h0 (1 + all.length)).2 with e | ⟨y, _, ho⟩
  · exact e
  · have := older_le (all := all) (t := y.2.s)
    omega
/-- one more letter, younger than what it has seen and than those of its author -/
theorem RowsInv.push2 {rf : Str → List (Addr × Lt)} (h : RowsInv rf) {au : Str} {x : Addr} {L : Lt} (hs : ∀ y ∈ rf au, y.2.s < L.s) (ha : L.a = au) (hn : L.n = ((rf au).length : Int) + 1) (hv : ∀ b, b ≠ au → ∀ (i : Nat) (y : Addr × Lt), (rf b)[i]? = some y → (i : Int) + 1 ≤ cnt L.ps b → y.2.s < L.s)
    (hc : ∀ b, b ≠ au → cnt L.ps b ≤ ((rf b).length : Int)) (hm : ∀ y, (rf au).getLast? = some y → ∀ b, cnt y.2.ps b ≤ cnt L.ps b) : RowsInv fun a => if a = au then rf au ++ [(x, L)] else rf a := by
  have mono : ∀ y ∈ rf au, ∀ b, cnt y.2.ps b ≤ cnt L.ps b := fun y hy b => by
    obtain ⟨i, hi⟩ := List.mem_iff_getElem?.mp hy
    have hil := (List.getElem?_eq_some_iff.mp hi).1
    obtain ⟨z, hz⟩ : ∃ z, (rf au)[(rf au).length - 1]? = some z := ⟨_, List.getElem?_eq_getElem (by omega)⟩
    have hzL := hm z (by rw [List.getLast?_eq_getElem?]; exact hz) b
    rcases Nat.lt_or_ge i ((rf au).length - 1) with e | e
    · have := (h.inc au i _ y z e hi hz).2 b
      omega
    · have : i = (rf au).length - 1 := by omega
      rw [this, hz] at hi
      rw [← Option.some.inj hi]
      exact hzL
  have both : ∀ (a b : Str) (z : Addr × Lt), a ≠ b → (z ∈ if a = au then rf au ++ [(x, L)] else rf a) → cnt z.2.ps b ≤ (((if b = au then rf au ++ [(x, L)] else rf b).length : Nat) : Int) ∧ ∀ (i : Nat) (y : Addr × Lt), (if b = au then rf au ++ [(x, L)] else rf b)[i]? = some y → (i : Int) + 1 ≤ cnt z.2.ps b → y.2.s < z.2.s := by
    intro a b z hab hz
    by_cases e : a = au
    · rw [if_pos e] at hz
      have hb : b ≠ au := fun z => hab (e.trans z.symm)
      rw [if_neg hb]
      rcases List.mem_append.mp hz with hz | hz
      · exact ⟨h.top au b z (fun z => hb z.symm) hz, h.see au b z (fun z => hb z.symm) hz⟩
      · rw [List.mem_singleton.mp hz]
        exact ⟨hc b hb, hv b hb⟩
    · rw [if_neg e] at hz
      by_cases eb : b = au
      · rw [if_pos eb]
        have h1 := h.top a au z e hz
        have h2 := h.see a au z e hz
        rw [eb]
        refine ⟨by rw [List.length_append, List.length_singleton]; omega, fun i y hy hi => ?_⟩
        have hil : i < (rf au).length := by omega
        rw [List.getElem?_append_left hil] at hy
        exact h2 i y hy hi
      · rw [if_neg eb]
        exact ⟨h.top a b z hab hz, h.see a b z hab hz⟩
  refine ⟨⟨fun a i y hy => ?_, fun a => ?_, fun a b z hab hz => (both a b z hab hz).2⟩, fun a b z hab hz => (both a b z hab hz).1⟩
  · by_cases e : a = au
    · rw [if_pos e] at hy
      rcases Nat.lt_or_ge i (rf au).length with hi | hi
      · rw [List.getElem?_append_left hi] at hy
        rw [e]
        exact h.num au i y hy
      · rw [List.getElem?_append_right hi] at hy
        have h0 : i - (rf au).length = 0 := by
          rcases Nat.eq_zero_or_pos (i - (rf au).length) with z | z
          · exact z
          · rw [List.getElem?_eq_none (by show 1 ≤ _; omega)] at hy
            exact nomatch hy
        rw [h0] at hy
        have e2 : (x, L) = y := Option.some.inj hy
        rw [← e2, e]
        exact ⟨ha, by show L.n = _; rw [hn]; omega⟩
    · rw [if_neg e] at hy
      exact h.num a i y hy
  · by_cases e : a = au
    · rw [if_pos e]
      intro i j y z hij h1 h2
      rcases Nat.lt_or_ge j (rf au).length with hj | hj
      · rw [List.getElem?_append_left hj] at h2
        rw [List.getElem?_append_left (by omega)] at h1
        exact h.inc au i j y z hij h1 h2
      · rw [List.getElem?_append_right hj] at h2
        have h0 : j - (rf au).length = 0 := by
          rcases Nat.eq_zero_or_pos (j - (rf au).length) with z | z
          · exact z
          · rw [List.getElem?_eq_none (by show 1 ≤ _; omega)] at h2
            exact nomatch h2
        rw [h0] at h2
        have e2 : (x, L) = z := Option.some.inj h2
        rw [List.getElem?_append_left (by omega)] at h1
        have hy := List.mem_of_getElem? h1
        rw [← e2]
        exact ⟨hs y hy, mono y hy⟩
    · rw [if_neg e]
      exact h.inc a
/-- one more letter, younger than all -/
theorem RowsInv.push {rf : Str → List (Addr × Lt)} (h : RowsInv rf) {au : Str} {x : Addr} {L : Lt} {s : Int} (hs : ∀ a, ∀ y ∈ rf a, y.2.s ≤ s) (ha : L.a = au) (hn : L.n = ((rf au).length : Int) + 1) (hL : s < L.s)
    (hc : ∀ b, b ≠ au → cnt L.ps b ≤ ((rf b).length : Int)) (hm : ∀ y, (rf au).getLast? = some y → ∀ b, cnt y.2.ps b ≤ cnt L.ps b) : RowsInv fun a => if a = au then rf au ++ [(x, L)] else rf a :=
  h.push2 (fun y hy => by have := hs au y hy; omega) ha hn (fun b _ i y hy _ => by have := hs b y (List.mem_of_getElem? hy); omega) hc hm

/-! ### rows, counts of rows, their sorted pairs -/
theorem rowsF_nil {R : List Rw} {a : Str} (h : a ∉ R.map (·.nm)) : rowsF R a = [] := by
  unfold rowsF
  have e : (R.find? fun x : Rw => decide (x.nm = a)) = none := List.find?_eq_none.mpr fun (x : Rw) hx e => h ((of_decide_eq_true (p := x.nm = a) e) ▸ List.mem_map_of_mem (f := fun x : Rw => x.nm) hx)
  rw [e]
  rfl
theorem rowsF_mem {R : List Rw} (hn : (R.map (·.nm)).Nodup) {x : Rw} (hx : x ∈ R) : rowsF R x.nm = x.ls := by
  induction R with
  | nil => exact nomatch hx
  | cons y r ih =>
    rw [List.map_cons, List.nodup_cons] at hn
    unfold rowsF at ih ⊢
    rw [List.find?_cons]
    rcases List.mem_cons.mp hx with rfl | hx
    · rw [decide_eq_true rfl]
      rfl
    · rw [decide_eq_false (show ¬ y.nm = x.nm from fun e => hn.1 (e ▸ List.mem_map_of_mem (f := fun x : Rw => x.nm) hx))]
      exact ih hn.2 hx
theorem rowsF_in {R : List Rw} {a : Str} {y : Addr × Lt} (h : y ∈ rowsF R a) : ∃ x ∈ R, x.nm = a ∧ y ∈ x.ls := by
  unfold rowsF at h
  cases e : R.find? fun x => decide (x.nm = a) with
  | none =>
    rw [e] at h
    exact nomatch h
  | some x =>
    rw [e] at h
    exact ⟨x, List.mem_of_find?_eq_some e, of_decide_eq_true (List.find?_some (p := fun x : Rw => decide (x.nm = a)) e), h⟩
def lenC (R : List Rw) : List (Str × Int) := R.map fun x => (x.nm, (x.ls.length : Int))
theorem lenC_nm (R : List Rw) : (lenC R).map (·.1) = R.map (·.nm) := by
  unfold lenC
  rw [List.map_map]
  rfl
theorem lenC_get (R : List Rw) (a : Str) : (getA (lenC R) a).getD 0 = ((rowsF R a).length : Int) := by
  induction R with
  | nil => rfl
  | cons x r ih =>
    by_cases e : x.nm = a
    · have h1 : getA (lenC (x :: r)) a = some (x.ls.length : Int) := getA_pos (y := (x.nm, (x.ls.length : Int))) (l := lenC r) e
      have h2 : rowsF (x :: r) a = x.ls := by
        unfold rowsF
        rw [List.find?_cons, decide_eq_true e]
        rfl
      rw [h1, h2]
      rfl
    · have h1 : getA (lenC (x :: r)) a = getA (lenC r) a := getA_neg (y := (x.nm, (x.ls.length : Int))) (l := lenC r) e
      have h2 : rowsF (x :: r) a = rowsF r a := by
        unfold rowsF
        rw [List.find?_cons, decide_eq_false e]
      rw [h1, h2]
      exact ih
theorem di_asV {l : List (Str × Int)} (hn : (l.map (·.1)).Nodup) : DI (asV V.int l) (l.map (·.1)) (fun b => (getA l b).getD 0) := by
  refine ⟨?_, hn, fun a => ?_⟩
  · unfold asV
    rw [List.map_map, List.map_map]
    rfl
  · rw [valA]
    by_cases h : a ∈ l.map (·.1)
    · rw [if_pos h]
      cases e : getA l a with
      | none => exact absurd h (getA_none.mp e)
      | some z => rfl
    · rw [if_neg h, getA_none.mpr h]
      rfl
theorem valV_drop {κ : Type} [DecidableEq κ] (k j : κ) : ∀ kvs : List (κ × V), valV (L2.dropK kvs k) j = if j = k then none else valV kvs j
  | [] => by
    show (none : Option V) = _
    split <;> rfl
  | p :: r => by
    have ih := valV_drop k j r
    unfold L2.dropK at ih ⊢
    by_cases e : p.1 = k
    · rw [List.filter_cons_of_neg (by simp [e]), ih]
      by_cases h : j = k
      · rw [if_pos h, if_pos h]
      · rw [if_neg h, if_neg h, valV_neg fun z => h (z.symm.trans e)]
    · rw [List.filter_cons_of_pos (by simp [e])]
      by_cases h2 : p.1 = j
      · rw [valV_pos h2, valV_pos h2, if_neg fun z => e (h2.trans z)]
      · rw [valV_neg h2, valV_neg h2]
        exact ih
theorem DI.drop {cs : List (L2.Key × V)} {ks : List Str} {f : Str → Int} (h : DI cs ks f) (a : Str) : DI (L2.dropK cs (Sum.inr a)) (ks.filter fun b => decide (b ≠ a)) f := by
  refine ⟨?_, h.nd.sublist List.filter_sublist, fun b => ?_⟩
  · have e : (cs.map (·.1)).filter (fun k => decide (k ≠ Sum.inr a)) = (ks.map Sum.inr).filter (fun k => decide (k ≠ (Sum.inr a : L2.Key))) := by rw [h.keys]
    rw [List.filter_map, List.filter_map] at e
    unfold L2.dropK
    refine e.trans ?_
    congr 1
    refine List.filter_congr fun x _ => ?_
    simp only [Function.comp_apply, ne_eq, Sum.inr.injEq]
  · rw [valV_drop, h.val]
    by_cases e : b = a
    · rw [if_pos (congrArg Sum.inr e), if_neg (by simp [e])]
    · rw [if_neg fun z => e (Sum.inr.inj z)]
      by_cases m : b ∈ ks
      · rw [if_pos m, if_pos (List.mem_filter.mpr ⟨m, by simp [e]⟩)]
      · rw [if_neg m, if_neg fun z => m (List.mem_filter.mp z).1]
theorem cnt_pairs (f : Str → Int) (b : Str) : ∀ ys : List Str, cnt (ys.map fun y => (y, f y)) b = if b ∈ ys then f b else 0
  | [] => rfl
  | y :: r => by
    have ih := cnt_pairs f b r
    unfold cnt at ih ⊢
    rw [List.map_cons, List.find?_cons]
    by_cases e : y = b
    · rw [decide_eq_true (show (y, f y).1 = b from e), if_pos (by simp [e]), e]
    · rw [decide_eq_false (show ¬ (y, f y).1 = b from e), ih]
      by_cases m : b ∈ r
      · rw [if_pos m, if_pos (List.mem_cons_of_mem _ m)]
      · rw [if_neg m, if_neg fun z => (List.mem_cons.mp z).elim (fun z => e z.symm) m]
section
variable {K : PySem.W.Frag} {C CL : Addr} {vs : List V} {H : Hp} {Q : VK} {E : XK} {σ : L2.St} {D : Ends}
/-- tuple([(name, counts[name]) for name in sorted(counts)]) -/
theorem w_seenOfZ {c i : Nat} {a : Addr} {cs : List (L2.Key × V)} {ks : List Str} {f : Str → Int} (hc0 : σ[c]? = some (some (.ref a))) (ha : H a = some (.dK cs)) (di : DI cs ks f) (hk : ks.length ≤ 63)
    (hw : ∀ x, wipe ((wipe σ [i]).set i (some x)) [i] = wipe σ [i]) (hi : ∀ x, ((wipe σ [i]).set i (some x))[i]? = some (some x)) (hc : ∀ x, ((wipe σ [i]).set i (some x))[c]? = some (some (.ref a)))
    (q : ∀ l ps H', Same H H' → Sv H' (.ref l) ps → (ps.map (·.1)).Nodup → ps.length ≤ 63 → (∀ p ∈ ps, p.1 ∈ ks) → (∀ b, cnt ps b = cv ks f b) → Q (.ref l) H') :
    tCB (Wp.qTupleOfZ K) (tCons (tLc (iList K (tCB Wp.qSortedD (tCons (tVar c) tNil))) (gName i) tYes (tTup (tCons (tVar i) (tCons (tDGet (tVar c) (tVar i)) tNil))) [i]) tNil) σ H Q := by
  refine w_cb (w_cons (w_lc (w_iList (w_cb (w_cons (w_var hc0 (w_nil ⟨a, cs, ks, rfl, .inl ha, di.keys, by omega, fun ys q0 perm srt hq0 => ?_⟩)))))))
  obtain ⟨G6, eG6, s6, e6⟩ := newT (o := .lst (ys.map V.str)) hq0
  rw [← eG6]
  refine ⟨q0, rfl, ⟨_, SqL.of e6⟩, fun D hD => ?_⟩
  have hyl : ys.length ≤ 63 := by rw [perm.length_eq]; exact hk
  refine lc_it (walk_list (xs := ys.map V.str)) (fun k G' => Same G6 G' ∧ ∃ ts, G' D = some (.lst ts) ∧ ts.length ≤ k ∧ DnAll Any G' ts ((ys.take k).map fun y => pairD (y, f y))) ⟨Same.upd (Same.refl G6) hD, [], upd_same, Nat.le_refl _, .nil⟩ (fun k G' _ e => SqL.of (e.1 _ _ e6)) ?_ ?_
  · rintro k x G7 G7' hk' ⟨s7, ts, eD, hts, dts⟩ ⟨rfl, hx⟩
    rw [List.getElem?_map] at hx
    obtain ⟨y, hy, rfl⟩ := Option.map_eq_some_iff.mp hx
    have hym : y ∈ ks := perm.mem_iff.mp (List.mem_of_getElem? hy)
    have hk7 := s7 _ _ (s6 _ _ ha)
    have et : ys.take (k + 1) = ys.take k ++ [y] := by rw [List.take_add_one, hy]; rfl
    have hkk : k < 64 := by
      rw [List.length_map] at hk'
      omega
    refine w_name ⟨hw _, w_yes (iteT_ ?_)⟩
    refine w_tupV (w_cons (w_var (hi _) (w_cons (w_dget (w_var (hc _) (w_var (hi _) ⟨a, .int (f y), rfl, by rw [← di.has hym]; exact DGet.k (k := Sum.inr y) hk7, w_nil ⟨sz (by simp), w_new fun t G8 t0 s8 et8 => ⟨ts, s8 _ _ eD, ?_, ?_, _, upd_same, ?_, ?_⟩⟩⟩))))))
    · exact Nat.lt_of_le_of_lt (show ts.length ≤ 64 by omega) (by decide)
    · exact fun b o e2 => by
        rw [upd_ne (ne_of_none e2 hD)]
        exact s8 _ _ (s7 _ _ e2)
    · rw [List.length_append, List.length_singleton]
      omega
    · have tk : Tk G8 (upd G8 D (.lst (ts ++ [V.ref t]))) := Tk.kpL Kp.refl.updp (s8 _ _ eD)
      rw [et, List.map_append]
      refine DnAll.app (dnall_tk tk (plainAll_of fun d hd => ?_) (dts.same s8)) (.cons (.tup trivial (tk _ _ et8) (.cons (.str _) (.cons (.int _) .nil))) .nil)
      obtain ⟨y', _, rfl⟩ := List.mem_map.mp hd
      rfl
  rintro G7 ⟨s7, ts, eD, hts, dts⟩
  rw [show (ys.map V.str).length = ys.length from List.length_map _, List.take_length] at dts
  refine w_nil (w_tupleOfZ eD fun l G8 f8 s8 e8 => ?_)
  refine q l (ys.map fun y => (y, f y)) G8 ((s6.trans s7).trans s8) ⟨l, ts, rfl, e8, ?_⟩ ?_ (by rw [List.length_map]; exact hyl) (fun p hp => ?_) fun b => ?_
  · rw [List.map_map]
    exact dts.same s8
  · rw [List.map_map, show ((fun x : Str × Int => x.1) ∘ fun y => (y, f y)) = id from rfl, List.map_id]
    exact perm.nodup_iff.mpr di.nd
  · obtain ⟨y, hy, rfl⟩ := List.mem_map.mp hp
    exact perm.mem_iff.mp hy
  · rw [cnt_pairs]
    unfold cv
    by_cases m : b ∈ ks
    · rw [if_pos m, if_pos (perm.mem_iff.mpr m)]
    · rw [if_neg m, if_neg fun z => m (perm.mem_iff.mp z)]
/-- for name in world["letters"]: counts[name] = len(world["letters"][name]) -/
theorem w_lens {iw ic iN : Nat} {w wl c : Addr} {kvs : List (L2.Key × V)} {R : List Rw} (h0 : ∃ u, σ = σ.set iN u) (hN : ∀ u, (σ.set iN u)[iN]? = some u) (hw : ∀ u, (σ.set iN u)[iw]? = some (some (.ref w))) (hc : ∀ u, (σ.set iN u)[ic]? = some (some (.ref c)))
    (hk : H w = some (.dK kvs)) (wk : valV kvs (Sum.inr (Str.ofString "letters")) = some (.ref wl)) (nwl : w ≠ wl) (hl : H wl = some (.dK (asV V.ref (rowV R)))) (hls : ∀ x ∈ R, H x.l = some (.lst (lsV x.ls))) (hnd : (R.map (·.nm)).Nodup) (hR : R.length ≤ 1000)
    (hcs : H c = some (.dK [])) (ncl : c ≠ wl) (ncw : c ≠ w) (q : ∀ u G, Kp c H G → G c = some (.dK (asV V.int (lenC R))) → D.nx (σ.set iN u) G) :
    tLock (tFor (iKeys (tDGet (tVar iw) (tC (.str "letters")))) (gName iN) (sDPut (tVar ic) (tVar iN) (tCB (qLenSeq K) (tCons (tDGet (tDGet (tVar iw) (tC (.str "letters"))) (tVar iN)) tNil)))) D σ H := by
  obtain ⟨u0, hu0⟩ := h0
  have hget : ∀ G : Hp, G w = some (.dK kvs) → DGet G w (.str (Str.ofString "letters")) (some (.ref wl)) := fun G e => wk ▸ DGet.k (k := Sum.inr (Str.ofString "letters")) e
  refine ⟨wl, .dK (asV V.ref (rowV R)), hl, trivial, fun od => ?_⟩
  refine w_for (w_dget (w_var (by rw [hu0]; exact hw _) (w_c ⟨w, .ref wl, rfl, hget _ (by rw [upd_ne nwl]; exact hk), wl, od, rfl, .inl ⟨_, upd_same, ?_⟩⟩)))
  refine for_it walk_keys (fun k σ' G => (∃ u, σ' = σ.set iN u) ∧ (∀ b o, b ≠ wl → b ≠ c → H b = some o → G b = some o) ∧ G wl = some (.frz od (.dK (asV V.ref (rowV R)))) ∧ G c = some (.dK (asV V.int (lenC (R.take k))))) ⟨⟨u0, hu0⟩, fun b o n1 n2 e => by rw [upd_ne n1]; exact e, upd_same, by rw [upd_ne ncl]; exact hcs⟩ (fun _ _ _ _ e => e.2.2.1) ?_ ?_
  · rintro k x σ' G Gz hk' ⟨⟨u, rfl⟩, kx, ed, ec⟩ ⟨rfl, ky, v, ekv, rfl⟩
    unfold asV rowV at ekv
    rw [List.map_map, List.getElem?_map] at ekv
    obtain ⟨y, hy, e2⟩ := Option.map_eq_some_iff.mp ekv
    injection e2 with e2 e3
    subst e2
    have hym := List.mem_of_getElem? hy
    have hg : getA (rowV R) y.nm = some y.l := by
      have hn' : ((rowV R).map (·.1)).Nodup := by
        unfold rowV
        rw [List.map_map]
        exact hnd
      exact getA_nd0 hn' (y.nm, y.l) (List.mem_map_of_mem (f := fun x : Rw => (x.nm, x.l)) hym)
    have eS : ∀ z, (σ.set iN u).set iN (some z) = σ.set iN (some z) := fun z => List.set_set ..
    refine w_name ?_
    show sDPut _ _ _ _ ((σ.set iN u).set iN (some (.str y.nm))) _
    rw [eS]
    have nlc : y.l ≠ c := ne_kind (hls y hym) hcs fun z => by cases z
    have nlw : y.l ≠ wl := ne_kind (hls y hym) hl fun z => by cases z
    refine w_dput (w_cb (w_cons (w_dget (w_dget (w_var (hw _) (w_c ⟨w, .ref wl, rfl, hget _ (kx _ _ nwl ncw.symm hk), w_var (hN _) ⟨wl, .ref y.l, rfl, .inl ⟨_, Sum.inr y.nm, .inr ⟨od, ed⟩, rfl, (valA_some V.ref hg).symm⟩, w_nil (w_lenL (SqL.of (kx _ _ nlw nlc (hls y hym))) (w_var (hc _) (w_var (hN _) (dputK (k := Sum.inr y.nm) ec (by rw [asV_len]; unfold lenC; rw [List.length_map, List.length_take]; omega) fun G2 k2 e2 => ⟨⟨_, rfl⟩, fun b o n1 n2 e => k2 _ _ n2 (kx b o n1 n2 e), k2 _ _ ncl.symm ed, ?_⟩))))⟩⟩))))))
    rw [lsV_len, putA_new (a := (y.ls.length : Int)) (getA_none.mpr ?_) rfl] at e2
    · rw [e2, List.take_add_one, hy]
      unfold lenC
      rw [List.map_append]
      rfl
    · rw [lenC_nm]
      intro z
      rw [List.map_take] at z
      obtain ⟨j, hj⟩ := List.mem_iff_getElem?.mp z
      rw [List.getElem?_take] at hj
      split at hj
      · have h1 : (R.map (·.nm))[k]? = some y.nm := by rw [List.getElem?_map, hy]; rfl
        have := (List.getElem?_inj (List.getElem?_eq_some_iff.mp h1).1 hnd).mp (h1.trans hj.symm)
        omega
      · exact nomatch hj
  · rintro σ' G ⟨⟨u, rfl⟩, kx, ed, ec⟩
    rw [asV_len, show (rowV R).length = R.length from List.length_map _, List.take_length] at ec
    refine ⟨ed, q u _ (fun b o n e => ?_) (by rw [upd_ne ncl]; exact ec)⟩
    by_cases z : b = wl
    · rw [z] at e ⊢
      rw [upd_same, ← hl]
      exact e.symm ▸ e
    · rw [upd_ne z]
      exact kx b o z n e
end

/-! ### one more letter in a row; what a walk keeps -/
def pushR (R : List Rw) (au : Str) (z : Addr × Lt) : List Rw := R.map fun x => if x.nm = au then ⟨x.nm, x.l, x.ls ++ [z]⟩ else x
theorem pushR_nm (R : List Rw) (au : Str) (z : Addr × Lt) : (pushR R au z).map (·.nm) = R.map (·.nm) := by
  unfold pushR
  rw [List.map_map]
  refine List.map_congr_left fun x _ => ?_
  show (if x.nm = au then (⟨x.nm, x.l, x.ls ++ [z]⟩ : Rw) else x).nm = x.nm
  split <;> rfl
theorem pushR_v (R : List Rw) (au : Str) (z : Addr × Lt) : rowV (pushR R au z) = rowV R := by
  unfold rowV pushR
  rw [List.map_map]
  refine List.map_congr_left fun x _ => ?_
  show ((if x.nm = au then (⟨x.nm, x.l, x.ls ++ [z]⟩ : Rw) else x).nm, (if x.nm = au then (⟨x.nm, x.l, x.ls ++ [z]⟩ : Rw) else x).l) = _
  split <;> rfl
theorem pushR_in {R : List Rw} {au : Str} {z : Addr × Lt} {x : Rw} (h : x ∈ pushR R au z) : ∃ x0 ∈ R, x.nm = x0.nm ∧ x.l = x0.l ∧ ((x0.nm = au ∧ x.ls = x0.ls ++ [z]) ∨ (x0.nm ≠ au ∧ x = x0)) := by
  obtain ⟨x0, h0, rfl⟩ := List.mem_map.mp h
  refine ⟨x0, h0, ?_⟩
  by_cases e : x0.nm = au
  · rw [if_pos e]
    exact ⟨rfl, rfl, .inl ⟨e, rfl⟩⟩
  · rw [if_neg e]
    exact ⟨rfl, rfl, .inr ⟨e, rfl⟩⟩
theorem rowsF_push {R : List Rw} {au : Str} {z : Addr × Lt} (h : au ∈ R.map (·.nm)) : rowsF (pushR R au z) = fun a => if a = au then rowsF R au ++ [z] else rowsF R a := by
  funext a
  induction R with
  | nil => exact nomatch h
  | cons x r ih =>
    have hc : ∀ (y : Rw) (l : List Rw) (b : Str), rowsF (y :: l) b = if y.nm = b then y.ls else rowsF l b := fun y l b => by
      unfold rowsF
      rw [List.find?_cons]
      by_cases e : y.nm = b
      · rw [decide_eq_true e, if_pos e]
        rfl
      · rw [decide_eq_false e, if_neg e]
    have hp : pushR (x :: r) au z = (if x.nm = au then ⟨x.nm, x.l, x.ls ++ [z]⟩ else x) :: pushR r au z := rfl
    rw [hp, hc, hc, hc]
    by_cases e : x.nm = au
    · rw [if_pos e, if_pos e]
      by_cases ea : a = au
      · rw [if_pos ea, if_pos (show x.nm = a by rw [e, ea])]
      · rw [if_neg ea, if_neg (show ¬ x.nm = a from fun t => ea (t.symm.trans e)), if_neg (fun t => ea (t.symm.trans e))]
        by_cases hr : au ∈ r.map (·.nm)
        · rw [ih hr, if_neg ea]
        · have : pushR r au z = r := by
            unfold pushR
            conv => rhs; rw [← List.map_id r]
            refine List.map_congr_left fun y hy => ?_
            rw [if_neg (show ¬ y.nm = au from fun t => hr (t ▸ List.mem_map_of_mem (f := fun x : Rw => x.nm) hy))]
            rfl
          rw [this]
    · rw [if_neg e, if_neg e]
      have hr : au ∈ r.map (·.nm) := (List.mem_cons.mp h).resolve_left fun t => e t.symm
      have ih := ih hr
      by_cases ea : a = au
      · rw [if_pos ea] at ih ⊢
        rw [if_neg (show ¬ x.nm = a from fun t => e (t.trans ea)), ih]
      · rw [if_neg ea] at ih ⊢
        rw [ih]
theorem rowsF_new {R : List Rw} {au : Str} {l : Addr} (h : au ∉ R.map (·.nm)) : rowsF (R ++ [⟨au, l, []⟩]) = rowsF R := by
  funext a
  unfold rowsF
  rw [List.find?_append]
  cases e : R.find? fun x : Rw => decide (x.nm = a) with
  | some x => rfl
  | none =>
    rw [Option.none_or, List.find?_cons]
    by_cases ea : au = a
    · rw [decide_eq_true (show (⟨au, l, []⟩ : Rw).nm = a from ea)]
      rfl
    · rw [decide_eq_false (show ¬ (⟨au, l, []⟩ : Rw).nm = a from ea)]
      rfl
theorem Fm.mono {ok : Addr → Prop} {p : Addr} {H H' : Hp} (f : Fm (Off p) H H') (h : ∀ a, ok a → a ≠ p) : Fm ok H H' := ⟨f.1, f.2.1, fun b kvs e o => f.2.2 b kvs e (h b o)⟩
theorem lay_inv2 {a b : Str} (h : Lay 3 (.tuple [.str a, .str b])) : PyData.strOk b = true := by
  have h1 := h.1
  rw [PyData.canLay0, PyData.canLayAll0, PyData.canLayAll0, PyData.canLay0, PyData.canLay0] at h1
  rw [Bool.and_eq_true, Bool.and_eq_true] at h1
  exact h1.2.1
structure WInv (n : Nat) (s : Wk) : Prop where
  nm : ∀ z ∈ s.came, PyData.strOk z.1 = true
  lm : ∀ z ∈ s.lim, PyData.strOk z.1 = true
  nd : (s.lim.map (·.1)).Nodup
  l1 : s.came.length ≤ n
  l2 : s.lim.length ≤ n
theorem step_inv {rf : Str → List (Addr × Lt)} {n : Nat} {s : Wk} (hrow : ∀ y ∈ s.row, Wf y.2 ∧ ∃ B : Bb, y.2.b = B.toD) (h : WInv n s) : WInv (n + 1) (stepW rf s) := by
  have up : ∀ s' : Wk, s'.came = s.came → s'.lim = s.lim → WInv (n + 1) s' := fun s' e1 e2 => ⟨by rw [e1]; exact h.nm, by rw [e2]; exact h.lm, by rw [e2]; exact h.nd, by rw [e1]; exact Nat.le_succ_of_le h.l1, by rw [e2]; exact Nat.le_succ_of_le h.l2⟩
  unfold stepW
  cases hy : s.row[s.at_]? with
  | none => exact up s rfl rfl
  | some y =>
    obtain ⟨hw, hB⟩ := hrow y (List.mem_of_getElem? hy)
    have hb := bbOfR_toD hB
    show WInv (n + 1) (actW rf s y (bbOfR y.2.b))
    generalize bbOfR y.2.b = b at hb
    cases b with
    | act kd nm hk =>
      have hnm : PyData.strOk nm = true := lay_inv2 (a := kd) (by rw [← show (Bb.act kd nm hk).toD = .tuple [.str kd, .str nm] from rfl, ← hb]; exact hw.lb)
      unfold actW
      dsimp only
      by_cases h1 : kd = Str.ofString "add"
      · rw [if_pos h1]
        refine ⟨fun z hz => ?_, h.lm, h.nd, ?_, Nat.le_succ_of_le h.l2⟩
        · rcases putNew_mem hz with hz | hz
          · exact h.nm z hz
          · rw [hz]
            exact hnm
        · exact Nat.le_trans (putNew_len _ _ _) (Nat.succ_le_succ h.l1)
      · rw [if_neg h1]
        by_cases h2 : otherB s.came s.lim s.k nm = true
        · rw [if_pos h2]
          by_cases h3 : kd = Str.ofString "cut"
          · rw [if_pos h3]
            unfold otherB at h2
            rw [Bool.and_eq_true, Bool.and_eq_true] at h2
            have hn := getA_none.mp (Option.isNone_iff_eq_none.mp h2.2.1)
            refine ⟨h.nm, fun z hz => ?_, ?_, Nat.le_succ_of_le h.l1, ?_⟩
            · rcases List.mem_append.mp hz with hz | hz
              · exact h.lm z hz
              · rw [List.mem_singleton.mp hz]
                exact hnm
            · show ((s.lim ++ [(nm, cnt y.2.ps nm)]).map (·.1)).Nodup
              rw [List.map_append, List.nodup_append]
              refine ⟨h.nd, by simp, fun x hx y hy z => ?_⟩
              rw [List.mem_singleton.mp hy] at z
              have z : x = nm := z
              exact hn (by rw [← z]; exact hx)
            · show (s.lim ++ [_]).length ≤ _
              rw [List.length_append, List.length_singleton]
              exact Nat.succ_le_succ h.l2
          · rw [if_neg h3]
            exact up _ rfl rfl
        · rw [if_neg h2]
          exact up _ rfl rfl
    | say t => exact up _ rfl rfl
    | reply a n t => exact up _ rfl rfl
    | edit a n t => exact up _ rfl rfl
    | recall a n => exact up _ rfl rfl
    | mark a n w => exact up _ rfl rfl
    | title t => exact up _ rfl rfl
    | seen => exact up _ rfl rfl
    | found t ds => exact up _ rfl rfl
theorem iter_row {rf : Str → List (Addr × Lt)} (h : RowsW rf) {s0 : Wk} (h0 : s0.row = rf s0.k) : ∀ i, (iterW rf i s0).row = rf (iterW rf i s0).k
  | 0 => h0
  | i + 1 => by
    have ih := iter_row h h0 i
    rw [iterW_succ]
    generalize iterW rf i s0 = s at ih
    cases hy : s.row[s.at_]? with
    | none =>
      have : stepW rf s = s := by
        unfold stepW
        rw [hy]
      rw [this]
      exact ih
    | some y => exact (step_next h ih hy).1
theorem iter_inv {rf : Str → List (Addr × Lt)} (h : RowsW rf) (hrf : ∀ a, ∀ y ∈ rf a, Wf y.2 ∧ ∃ B : Bb, y.2.b = B.toD) {s0 : Wk} (h0 : s0.row = rf s0.k) {n : Nat} (hi : WInv n s0) : ∀ i, WInv (n + i) (iterW rf i s0)
  | 0 => hi
  | i + 1 => by
    rw [iterW_succ]
    refine step_inv (fun y hy => ?_) (iter_inv h hrf h0 hi i)
    rw [iter_row h h0 i] at hy
    exact hrf _ y hy
theorem rowsF_eq {R R' : List Rw} (h : R'.map (fun x => (x.nm, x.ls)) = R.map (fun x => (x.nm, x.ls))) : rowsF R' = rowsF R := by
  have key : ∀ (l : List Rw) (a : Str), rowsF l a = (((l.map fun x => (x.nm, x.ls)).find? fun z => decide (z.1 = a)).map (·.2)).getD [] := by
    intro l a
    unfold rowsF
    induction l with
    | nil => rfl
    | cons x r ih =>
      rw [List.map_cons, List.find?_cons, List.find?_cons]
      by_cases e : x.nm = a
      · rw [decide_eq_true e]
        rfl
      · rw [decide_eq_false e]
        exact ih
  funext a
  rw [key, key, h]
theorem lay_strsK {l : List Str} (h : ∀ n ∈ l, PyData.strOk n = true) : SeqAt.shaped (.list (l.map .str)) = true := (lay_list (k := 0) fun d hd => by
  obtain ⟨x, hx, rfl⟩ := List.mem_map.mp hd
  exact ⟨by rw [PyData.canLay0]; exact h x hx, by rw [PyData.depth]; exact Nat.zero_le _⟩).shaped

/-! ### worlds with what each person holds -/
def gC (cs : List (Str × Int)) (b : Str) : Int := (getA cs b).getD 0
theorem gC_cnt (cs : List (Str × Int)) (b : Str) : cnt cs b = gC cs b := by
  unfold cnt gC getA
  cases cs.find? (fun p => decide (p.1 = b)) <;> rfl
theorem gC_none {cs : List (Str × Int)} {b : Str} (h : b ∉ cs.map (·.1)) : gC cs b = 0 := by
  unfold gC
  rw [getA_none.mpr h]
  rfl
theorem gC_mem {cs : List (Str × Int)} (h : (cs.map (·.1)).Nodup) {z : Str × Int} (hz : z ∈ cs) : gC cs z.1 = z.2 := by
  unfold gC
  rw [getA_nd0 h z hz]
  rfl
theorem gC_key {cs : List (Str × Int)} {b : Str} (h : b ∈ cs.map (·.1)) : (b, gC cs b) ∈ cs := by
  unfold gC
  cases e : getA cs b with
  | none => exact absurd h (getA_none.mp e)
  | some v => exact getA_mem e
def setA (cs : List (Str × Int)) (a : Str) (v : Int) : List (Str × Int) := if (getA cs a).isSome = true then cs.map (fun z => if z.1 = a then (z.1, v) else z) else cs ++ [(a, v)]
theorem setA_asV (cs : List (Str × Int)) (a : Str) (v : Int) : putK (asV V.int cs) (Sum.inr a) (.int v) = asV V.int (setA cs a v) := by
  unfold setA
  by_cases h : (getA cs a).isSome = true
  · rw [if_pos h]
    have hn : ((asV V.int cs).any fun kv => decide (kv.1 = Sum.inr a)) = true := by
      rw [valV_any, valA, Option.isSome_map, h]
    unfold putK
    rw [if_pos hn]
    unfold asV
    rw [List.map_map, List.map_map]
    refine List.map_congr_left fun z _ => ?_
    show (if (Sum.inr z.1 : L2.Key) = Sum.inr a then (Sum.inr z.1, V.int v) else (Sum.inr z.1, V.int z.2)) = (Sum.inr (if z.1 = a then (z.1, v) else z).1, V.int (if z.1 = a then (z.1, v) else z).2)
    by_cases e : z.1 = a
    · rw [if_pos e, if_pos (congrArg Sum.inr e)]
    · rw [if_neg e, if_neg fun t => e (Sum.inr.inj t)]
  · rw [if_neg h]
    exact putA_new (Option.not_isSome_iff_eq_none.mp h) rfl
theorem gC_cons (z : Str × Int) (l : List (Str × Int)) (b : Str) : gC (z :: l) b = if z.1 = b then z.2 else gC l b := by
  unfold gC
  by_cases e : z.1 = b
  · rw [getA_pos e, if_pos e]
    rfl
  · rw [getA_neg e, if_neg e]
theorem gC_set (cs : List (Str × Int)) (a : Str) (v : Int) (b : Str) : gC (setA cs a v) b = if b = a then v else gC cs b := by
  unfold setA
  by_cases h : (getA cs a).isSome = true
  · rw [if_pos h]
    rw [getA_some] at h
    replace h := of_decide_eq_true h
    induction cs with
    | nil => exact nomatch h
    | cons z r ih =>
      rw [List.map_cons, gC_cons, gC_cons]
      by_cases e : z.1 = a
      · rw [if_pos e]
        by_cases eb : b = a
        · rw [if_pos eb, if_pos (show z.1 = b by rw [e, eb])]
        · rw [if_neg eb, if_neg (show ¬ z.1 = b from fun t => eb (t.symm.trans e)), if_neg (show ¬ z.1 = b from fun t => eb (t.symm.trans e))]
          by_cases hr : a ∈ r.map (·.1)
          · rw [ih hr, if_neg eb]
          · have : (r.map fun z : Str × Int => if z.1 = a then (z.1, v) else z) = r := by
              conv => rhs; rw [← List.map_id r]
              refine List.map_congr_left fun y hy => ?_
              rw [if_neg (show ¬ y.1 = a from fun t => hr (t ▸ List.mem_map_of_mem (f := fun x : Str × Int => x.1) hy))]
              rfl
            rw [this]
      · rw [if_neg e]
        have hr : a ∈ r.map (·.1) := (List.mem_cons.mp h).resolve_left fun t => e t.symm
        rw [ih hr]
        by_cases eb : b = a
        · rw [if_pos eb, if_neg (show ¬ z.1 = b from fun t => e (t.trans eb)), if_pos eb]
        · rw [if_neg eb, if_neg eb]
  · rw [if_neg h]
    rw [getA_some] at h
    have h : a ∉ cs.map (·.1) := fun z => h (decide_eq_true z)
    unfold gC
    rw [getA_app]
    by_cases eb : b = a
    · rw [if_pos eb, eb, getA_none.mpr h, Option.none_or, getA_pos rfl]
      rfl
    · rw [if_neg eb]
      rw [show getA [(a, v)] b = none from (getA_neg (fun t => eb t.symm)).trans (getA_nil b), Option.or_none]
theorem setA_nm (cs : List (Str × Int)) (a : Str) (v : Int) : (setA cs a v).map (·.1) = if (getA cs a).isSome = true then cs.map (·.1) else cs.map (·.1) ++ [a] := by
  unfold setA
  by_cases h : (getA cs a).isSome = true
  · rw [if_pos h, if_pos h, List.map_map]
    refine List.map_congr_left fun z _ => ?_
    show (if z.1 = a then (z.1, v) else z).1 = z.1
    split <;> rfl
  · rw [if_neg h, if_neg h, List.map_append]
    rfl
theorem setA_nd {cs : List (Str × Int)} (h : (cs.map (·.1)).Nodup) (a : Str) (v : Int) : ((setA cs a v).map (·.1)).Nodup := by
  rw [setA_nm]
  by_cases e : (getA cs a).isSome = true
  · rw [if_pos e]
    exact h
  · rw [if_neg e]
    rw [getA_some] at e
    rw [List.nodup_append]
    refine ⟨h, by simp, fun x hx y hy z => ?_⟩
    rw [List.mem_singleton.mp hy] at z
    exact e (decide_eq_true (z ▸ hx : a ∈ cs.map (·.1)))
theorem setA_mem {cs : List (Str × Int)} {a b : Str} {v : Int} : b ∈ (setA cs a v).map (·.1) ↔ b ∈ cs.map (·.1) ∨ b = a := by
  rw [setA_nm]
  by_cases e : (getA cs a).isSome = true
  · rw [if_pos e]
    rw [getA_some] at e
    exact ⟨.inl, fun z => z.elim id fun z => z ▸ of_decide_eq_true e⟩
  · rw [if_neg e, List.mem_append, List.mem_singleton]
theorem setA_len (cs : List (Str × Int)) (a : Str) (v : Int) : (setA cs a v).length ≤ cs.length + 1 := by
  unfold setA
  split
  · rw [List.length_map]
    omega
  · rw [List.length_append, List.length_singleton]
    omega
theorem nodup_len : ∀ {l m : List Str}, l.Nodup → (∀ x ∈ l, x ∈ m) → l.length ≤ m.length
  | [], _, _, _ => Nat.zero_le _
  | x :: l, m, hn, hs => by
    rw [List.nodup_cons] at hn
    have hx := hs x (List.mem_cons_self ..)
    have h1 : l.length ≤ (m.erase x).length := nodup_len hn.2 fun y hy => (List.mem_erase_of_ne (fun e : y = x => hn.1 (e ▸ hy))).mpr (hs y (List.mem_cons_of_mem _ hy))
    rw [List.length_erase_of_mem hx] at h1
    have h2 := List.length_pos_of_mem hx
    rw [List.length_cons]
    omega
theorem csum_le {n : Nat} : ∀ {cs : List (Str × Int)}, (∀ z ∈ cs, z.2 ≤ n) → csum cs ≤ cs.length * n
  | [], _ => by
    show (0 : Int) ≤ ((0 : Nat) : Int) * n
    rw [Int.natCast_zero, Int.zero_mul]
    exact Int.le_refl _
  | z :: r, h => by
    have ih := csum_le (cs := r) fun y hy => h y (List.mem_cons_of_mem _ hy)
    have h1 := h z (List.mem_cons_self ..)
    unfold csum at ih ⊢
    rw [List.map_cons, List.sum_cons, List.length_cons]
    have : ((r.length + 1 : Nat) : Int) * (n : Int) = (r.length : Int) * n + n := by rw [Int.natCast_add, Int.add_mul]; simp
    omega
/-- counts of letters that there are -/
structure CsOk (rf : Str → List (Addr × Lt)) (f : Str) (cs : List (Str × Int)) : Prop where
  nd : (cs.map (·.1)).Nodup
  pos : ∀ z ∈ cs, 1 ≤ z.2
  hi : ∀ z ∈ cs, z.2 ≤ ((rf z.1).length : Int)
  fd : cs ≠ [] → 1 ≤ gC cs f
theorem CsOk.nn {rf : Str → List (Addr × Lt)} {f : Str} {cs : List (Str × Int)} (h : CsOk rf f cs) (b : Str) : 0 ≤ gC cs b := by
  by_cases m : b ∈ cs.map (·.1)
  · have := h.pos _ (gC_key m)
    show (0 : Int) ≤ gC cs b
    have this : 1 ≤ gC cs b := this
    omega
  · rw [gC_none m]
    exact Int.le_refl _
theorem CsOk.top {rf : Str → List (Addr × Lt)} {f : Str} {cs : List (Str × Int)} (h : CsOk rf f cs) (b : Str) : gC cs b ≤ ((rf b).length : Int) := by
  by_cases m : b ∈ cs.map (·.1)
  · exact h.hi _ (gC_key m)
  · rw [gC_none m]
    omega
theorem CsOk.grow {rf rf' : Str → List (Addr × Lt)} {f : Str} {cs : List (Str × Int)} (h : CsOk rf f cs) (g : ∀ a, (rf a).length ≤ (rf' a).length) : CsOk rf' f cs := ⟨h.nd, h.pos, fun z hz => by have := h.hi z hz; have := g z.1; omega, h.fd⟩
theorem CsOk.key {rf : Str → List (Addr × Lt)} {f : Str} {cs : List (Str × Int)} (h : CsOk rf f cs) {b : Str} (m : b ∈ cs.map (·.1)) : rf b ≠ [] := fun e => by
  have h1 := h.pos _ (gC_key m)
  have h2 := h.hi _ (gC_key m)
  have h1 : 1 ≤ gC cs b := h1
  have h2 : gC cs b ≤ ((rf b).length : Int) := h2
  rw [e] at h2
  have h2 : gC cs b ≤ 0 := h2
  omega
/-- what a person holds: all letters of its own, and what the last one of these has seen -/
structure HdOk (rf : Str → List (Addr × Lt)) (f nm : Str) (cs : List (Str × Int)) : Prop extends CsOk rf f cs where
  own : gC cs nm = ((rf nm).length : Int)
  mono : ∀ y, (rf nm).getLast? = some y → ∀ b, cnt y.2.ps b ≤ gC cs b
theorem HdOk.learn {rf : Str → List (Addr × Lt)} {f nm : Str} {cs cc cs' : List (Str × Int)} (h : HdOk rf f nm cs) (hc : CsOk rf f cc) (nd : (cs'.map (·.1)).Nodup) (hp : ∀ z ∈ cs', 1 ≤ z.2) (lo : ∀ b, gC cs b ≤ gC cs' b) (up : ∀ b, gC cs' b ≤ gC cs b ∨ gC cs' b ≤ gC cc b) (hf : 1 ≤ gC cs' f) : HdOk rf f nm cs' := by
  have top : ∀ b, gC cs' b ≤ ((rf b).length : Int) := fun b => by
    have h1 := h.toCsOk.top b
    have h2 := hc.top b
    rcases up b with e | e <;> omega
  refine ⟨⟨nd, hp, fun z hz => ?_, fun _ => hf⟩, ?_, fun y hy b => ?_⟩
  · rw [← gC_mem nd hz]
    exact top z.1
  · have h1 := top nm
    have h2 := lo nm
    rw [h.own] at h2
    omega
  · have := h.mono y hy b
    have := lo b
    omega
structure Hd where
  nm : Str
  d : Addr
  cs : List (Str × Int)
def hdV (Hs : List Hd) : List (Str × Addr) := Hs.map fun h => (h.nm, h.d)
theorem hdV_nm (Hs : List Hd) : (hdV Hs).map (·.1) = Hs.map (·.nm) := by
  unfold hdV
  rw [List.map_map]
  rfl
def setH (Hs : List Hd) (nm : Str) (d : Addr) (cs : List (Str × Int)) : List Hd := Hs.map fun h => if h.nm = nm then ⟨h.nm, d, cs⟩ else h
theorem setH_nm (Hs : List Hd) (nm : Str) (d : Addr) (cs : List (Str × Int)) : (setH Hs nm d cs).map (·.nm) = Hs.map (·.nm) := by
  unfold setH
  rw [List.map_map]
  refine List.map_congr_left fun h _ => ?_
  show (if h.nm = nm then (⟨h.nm, d, cs⟩ : Hd) else h).nm = h.nm
  split <;> rfl
theorem setH_v {Hs : List Hd} {nm : Str} (d : Addr) (cs : List (Str × Int)) (hm : nm ∈ Hs.map (·.nm)) : putK (asV V.ref (hdV Hs)) (Sum.inr nm) (.ref d) = asV V.ref (hdV (setH Hs nm d cs)) := by
  have hn : ((asV V.ref (hdV Hs)).any fun kv => decide (kv.1 = Sum.inr nm)) = true := by
    rw [valV_any, valA, Option.isSome_map, getA_some, hdV_nm]
    exact decide_eq_true hm
  unfold putK
  rw [if_pos hn]
  unfold asV hdV setH
  rw [List.map_map, List.map_map, List.map_map, List.map_map]
  refine List.map_congr_left fun z _ => ?_
  show (if (Sum.inr z.nm : L2.Key) = Sum.inr nm then (Sum.inr z.nm, V.ref d) else (Sum.inr z.nm, V.ref z.d)) = (Sum.inr (if z.nm = nm then (⟨z.nm, d, cs⟩ : Hd) else z).nm, V.ref (if z.nm = nm then (⟨z.nm, d, cs⟩ : Hd) else z).d)
  by_cases e : z.nm = nm
  · rw [if_pos e, if_pos (congrArg Sum.inr e)]
  · rw [if_neg e, if_neg fun t => e (Sum.inr.inj t)]
theorem setH_in {Hs : List Hd} {nm : Str} {d : Addr} {cs : List (Str × Int)} {h : Hd} (hh : h ∈ setH Hs nm d cs) : h = ⟨nm, d, cs⟩ ∨ (h ∈ Hs ∧ h.nm ≠ nm) := by
  obtain ⟨x, hx, rfl⟩ := List.mem_map.mp hh
  by_cases e : x.nm = nm
  · rw [if_pos e, e]
    exact .inl rfl
  · rw [if_neg e]
    exact .inr ⟨hx, e⟩
theorem hd_get {Hs : List Hd} (nd : (Hs.map (·.nm)).Nodup) {h : Hd} (hh : h ∈ Hs) : getA (hdV Hs) h.nm = some h.d :=
  getA_nd0 (by rw [hdV_nm]; exact nd) (h.nm, h.d) (List.mem_map_of_mem (f := fun h : Hd => (h.nm, h.d)) hh)
/-- dicts of letters stand off these -/
def Ok3 (wl wh : Addr) : Addr → Prop := fun a => a ≠ wl ∧ a ≠ wh
structure W3At (CL : Addr) (H : Hp) (w pa wl wh : Addr) (f : Str) (ps : List Str) (R : List Rw) (Hs : List Hd) : Prop where
  hw : H w = some (.dK (w4 pa f wl wh))
  hpa : H pa = some (.lst (ps.map V.str))
  hl : H wl = some (.dK (asV V.ref (rowV R)))
  ls : ∀ x ∈ R, H x.l = some (.lst (lsV x.ls))
  ok : ∀ x ∈ R, ∀ y ∈ x.ls, LtAt (Ok3 wl wh) CL H y.1 y.2 ∧ Wf y.2 ∧ ∃ B : Bb, y.2.b = B.toD
  hh : H wh = some (.dK (asV V.ref (hdV Hs)))
  hs : ∀ h ∈ Hs, H h.d = some (.dK (asV V.int h.cs)) ∧ h.d ≠ w ∧ h.d ≠ wl ∧ h.d ≠ wh
  nlh : wl ≠ wh
  nw : w ≠ wl ∧ w ≠ wh
  np : ∀ x ∈ R, x.l ≠ pa
structure W3Inv (f : Str) (ps : List Str) (R : List Rw) (Hs : List Hd) (n : Nat) : Prop where
  nd : (R.map (·.nm)).Nodup
  li : ∀ x ∈ R, ∀ y ∈ R, x.l = y.l → x.nm = y.nm
  inv : RowsInv (rowsF R)
  cs : ∀ a, ∀ y ∈ rowsF R a, CsOk (rowsF R) f y.2.ps ∧ y.2.ps ≠ []
  ne : ∀ x ∈ R, x.ls ≠ []
  len : ∀ x ∈ R, x.ls.length ≤ n
  nms : ∀ x ∈ R, x.nm ∈ ps
  pnd : ps.Nodup
  hn : Hs.map (·.nm) = ps
  hd : ∀ h ∈ Hs, HdOk (rowsF R) f h.nm h.cs
/-- what a step leaves -/
def W3Fr (wl wh p : Addr) (R : List Rw) (H H' : Hp) : Prop := ∀ b o, b ≠ p → b ≠ wl → b ≠ wh → (∀ x ∈ R, b ≠ x.l) → H b = some o → H' b = some o
section
variable {CL : Addr} {H H' : Hp} {w pa wl wh p : Addr} {f : Str} {ps : List Str} {R : List Rw} {Hs : List Hd} {n : Nat}
theorem w4_l : valV (w4 pa f wl wh) (Sum.inr (Str.ofString "letters")) = some (.ref wl) := by rfl
theorem w4_h : valV (w4 pa f wl wh) (Sum.inr (Str.ofString "held")) = some (.ref wh) := by rfl
theorem w4_p : valV (w4 pa f wl wh) (Sum.inr (Str.ofString "people")) = some (.ref pa) := by rfl
theorem w4_f : valV (w4 pa f wl wh) (Sum.inr (Str.ofString "founder")) = some (.str f) := by rfl
theorem w4_getL (h : H w = some (.dK (w4 pa f wl wh))) : DGet H w (.str (Str.ofString "letters")) (some (.ref wl)) := w4_l ▸ DGet.k (k := Sum.inr (Str.ofString "letters")) h
theorem w4_getH (h : H w = some (.dK (w4 pa f wl wh))) : DGet H w (.str (Str.ofString "held")) (some (.ref wh)) := w4_h ▸ DGet.k (k := Sum.inr (Str.ofString "held")) h
theorem w4_getP (h : H w = some (.dK (w4 pa f wl wh))) : DGet H w (.str (Str.ofString "people")) (some (.ref pa)) := w4_p ▸ DGet.k (k := Sum.inr (Str.ofString "people")) h
theorem w4_getF (h : H w = some (.dK (w4 pa f wl wh))) : DGet H w (.str (Str.ofString "founder")) (some (.str f)) := w4_f ▸ DGet.k (k := Sum.inr (Str.ofString "founder")) h
theorem rowV_nd (h : (R.map (·.nm)).Nodup) : ((rowV R).map (·.1)).Nodup := by
  unfold rowV
  rw [List.map_map]
  exact h
theorem row_get (h : (R.map (·.nm)).Nodup) {x : Rw} (hx : x ∈ R) : getA (rowV R) x.nm = some x.l := getA_nd0 (rowV_nd h) (x.nm, x.l) (List.mem_map_of_mem (f := fun x : Rw => (x.nm, x.l)) hx)
theorem row_of {a : Str} (h : rowsF R a ≠ []) : ∃ x ∈ R, x.nm = a := by
  by_cases m : a ∈ R.map (·.nm)
  · obtain ⟨x, hx, e⟩ := List.mem_map.mp m
    exact ⟨x, hx, e⟩
  · exact absurd (rowsF_nil m) h
theorem W3At.same (h : W3At CL H w pa wl wh f ps R Hs) (s : Same H H') : W3At CL H' w pa wl wh f ps R Hs :=
  ⟨s _ _ h.hw, s _ _ h.hpa, s _ _ h.hl, fun x hx => s _ _ (h.ls x hx), fun x hx y hy => ⟨(h.ok x hx y hy).1.same s, (h.ok x hx y hy).2⟩, s _ _ h.hh, fun x hx => ⟨s _ _ (h.hs x hx).1, (h.hs x hx).2⟩, h.nlh, h.nw, h.np⟩
theorem W3At.stm (h : W3At CL H w pa wl wh f ps R Hs) (k : Kp p H H') (s : Stm H p) : W3At CL H' w pa wl wh f ps R Hs :=
  ⟨k _ _ (stm_neD s h.hw) h.hw, k _ _ (stm_neS s h.hpa) h.hpa, k _ _ (stm_neD s h.hl) h.hl, fun x hx => k _ _ (stm_ne s (h.ls x hx)) (h.ls x hx), fun x hx y hy => ⟨(h.ok x hx y hy).1.fm (h.ok x hx y hy).2.1 (Fm.stm k s), (h.ok x hx y hy).2⟩, k _ _ (stm_neD s h.hh) h.hh, fun x hx => ⟨k _ _ (stm_neD s (h.hs x hx).1) (h.hs x hx).1, (h.hs x hx).2⟩, h.nlh, h.nw, h.np⟩
theorem W3At.rows (h : W3At CL H w pa wl wh f ps R Hs) (hl : ∀ x ∈ R, x.ls.length ≤ 5000) : RowsAt CL H wl R := ⟨h.hl, fun x hx => ⟨h.ls x hx, fun y hy => ⟨⟨(h.ok x hx y hy).1.any, (h.ok x hx y hy).2.1⟩, (h.ok x hx y hy).2.2⟩, hl x hx⟩⟩
theorem W3At.wo (h : W3At CL H w pa wl wh f ps R Hs) (hl : ∀ x ∈ R, x.ls.length ≤ 5000) : WoAt CL H w pa wl wh f R := ⟨⟨_, h.hw, w4_kv pa f wl wh []⟩, h.rows hl⟩
theorem W3Inv.row (h : W3Inv f ps R Hs n) (a : Str) : (rowsF R a).length ≤ n := by
  by_cases m : a ∈ R.map (·.nm)
  · obtain ⟨x, hx, e⟩ := List.mem_map.mp m
    have e : x.nm = a := e
    rw [← e, rowsF_mem h.nd hx]
    exact h.len x hx
  · rw [rowsF_nil m]
    exact Nat.zero_le _
theorem W3Inv.keys (h : W3Inv f ps R Hs n) {cs : List (Str × Int)} (hc : CsOk (rowsF R) f cs) {b : Str} (m : b ∈ cs.map (·.1)) : b ∈ ps := by
  obtain ⟨x, hx, rfl⟩ := row_of (hc.key m)
  exact h.nms x hx
theorem W3Inv.clen (h : W3Inv f ps R Hs n) {cs : List (Str × Int)} (hc : CsOk (rowsF R) f cs) : cs.length ≤ ps.length := by
  have := nodup_len hc.nd fun x hx => h.keys hc hx
  rw [List.length_map] at this
  exact this
theorem W3Inv.csum (h : W3Inv f ps R Hs n) {cs : List (Str × Int)} (hc : CsOk (rowsF R) f cs) : csum cs ≤ ps.length * n := by
  have h1 := csum_le (n := n) (cs := cs) fun z hz => by
    have := hc.hi z hz
    have := h.row z.1
    omega
  have h2 : cs.length * n ≤ ps.length * n := Nat.mul_le_mul_right _ (h.clen hc)
  omega
theorem W3Inv.hnd (h : W3Inv f ps R Hs n) : (Hs.map (·.nm)).Nodup := by
  rw [h.hn]
  exact h.pnd
theorem W3Inv.person (h : W3Inv f ps R Hs n) {a : Str} (m : a ∈ ps) : ∃ x ∈ Hs, x.nm = a := by
  rw [← h.hn] at m
  obtain ⟨x, hx, e⟩ := List.mem_map.mp m
  exact ⟨x, hx, e⟩
end
theorem gC_getD (cs : List (Str × Int)) (a : Str) : (valV (asV V.int cs) (Sum.inr a)).getD (.int 0) = .int (gC cs a) := by
  rw [valA]
  unfold gC
  cases getA cs a <;> rfl
theorem cv_gC (cs : List (Str × Int)) (b : Str) : cv (cs.map (·.1)) (fun b => (getA cs b).getD 0) b = gC cs b := by
  unfold cv
  by_cases m : b ∈ cs.map (·.1)
  · rw [if_pos m]
    rfl
  · rw [if_neg m, gC_none m]
theorem CsOk.put {rf rf' : Str → List (Addr × Lt)} {f nm : Str} {cs cs' : List (Str × Int)} {N : Int} (h : CsOk rf f cs) (hne : cs ≠ []) (nd : (cs'.map (·.1)).Nodup) (hk : ∀ b ∈ cs'.map (·.1), b ∈ cs.map (·.1) ∨ b = nm) (hv : ∀ b, gC cs' b = if b = nm then N else gC cs b) (hN : 1 ≤ N) (hN2 : N ≤ ((rf' nm).length : Int)) (g : ∀ a, (rf a).length ≤ (rf' a).length) : CsOk rf' f cs' := by
  refine ⟨nd, fun z hz => ?_, fun z hz => ?_, fun _ => ?_⟩
  · rw [← gC_mem nd hz, hv]
    by_cases e : z.1 = nm
    · rw [if_pos e]
      exact hN
    · rw [if_neg e]
      exact h.pos _ (gC_key ((hk _ (List.mem_map_of_mem hz)).resolve_right e))
  · rw [← gC_mem nd hz, hv]
    by_cases e : z.1 = nm
    · rw [if_pos e, e]
      exact hN2
    · rw [if_neg e]
      have := h.top z.1
      have := g z.1
      omega
  · rw [hv]
    by_cases e : f = nm
    · rw [if_pos e]
      exact hN
    · rw [if_neg e]
      exact h.fd hne

/-! ### a person writes a letter -/
/-- a row that is there, or a new one -/
structure Wrote (nm : Str) (R : List Rw) (Hs : List Hd) (h : Hd) (B : Bb) (x : Addr) (L : Lt) (R' : List Rw) (Hs' : List Hd) : Prop where
  rows : rowsF R' = fun a => if a = nm then rowsF R nm ++ [(x, L)] else rowsF R a
  a : L.a = nm
  b : L.b = B.toD
  ps : ∀ b, cnt L.ps b = if b = nm then L.n else gC h.cs b
  hs : ∃ d, Hs' = setH Hs nm d (setA h.cs nm L.n)
def spWrite (K : PySem.W.Frag) (CL : Addr) : Sp := fun vs H Q _ => ∃ (w pa wl wh bt : Addr) (f nm : Str) (ps : List Str) (R : List Rw) (Hs : List Hd) (n : Nat) (h : Hd) (B : Bb), vs = [.ref w, .str nm, .ref bt] ∧ W3At CL H w pa wl wh f ps R Hs ∧ W3Inv f ps R Hs n ∧ n ≤ 80 ∧ ps.length ≤ 60 ∧ (∀ x ∈ ps, ascii x = true) ∧ h ∈ Hs ∧ h.nm = nm ∧ h.cs ≠ [] ∧ Dn Any H (.ref bt) B.toD ∧ Lay 3 B.toD ∧ plainB B.toD = true ∧
  ∀ x L R' Hs' H', (∀ b o, b ≠ wl → b ≠ wh → (∀ x ∈ R, b ≠ x.l) → H b = some o → H' b = some o) → W3At CL H' w pa wl wh f ps R' Hs' → W3Inv f ps R' Hs' (n + 1) → Wrote nm R Hs h B x L R' Hs' → (∀ y ∈ R', H y.l = none ∨ ∃ z ∈ R, z.l = y.l) → Q (.ref x) H'
def stampOf (R : List Rw) (z : Str × Int) : Int := ((rowsF R z.1)[(z.2 - 1).toNat]?.map (·.2.s)).getD 0
theorem stamp_le {R : List Rw} (hI : RowsW (rowsF R)) {z : Str × Int} (h1 : 1 ≤ z.2) (h2 : z.2 ≤ ((rowsF R z.1).length : Int)) {i : Nat} {y : Addr × Lt} (hy : (rowsF R z.1)[i]? = some y) (hi : (i : Int) + 1 ≤ z.2) : y.2.s ≤ stampOf R z := by
  have hlt : (z.2 - 1).toNat < (rowsF R z.1).length := by omega
  have hg := List.getElem?_eq_getElem hlt
  have hs : stampOf R z = ((rowsF R z.1)[(z.2 - 1).toNat]).2.s := by
    unfold stampOf
    rw [hg]
    rfl
  rw [hs]
  rcases Nat.lt_or_ge i (z.2 - 1).toNat with e | e
  · have := (hI.inc z.1 i _ y _ e hy hg).1
    omega
  · have : i = (z.2 - 1).toNat := by omega
    rw [this, hg] at hy
    rw [Option.some.inj hy]
    exact Int.le_refl _
theorem W3Inv.write {f : Str} {ps : List Str} {R R1 : List Rw} {Hs : List Hd} {n : Nat} {h : Hd} {xr : Rw} {x c : Addr} {L : Lt} (hI : W3Inv f ps R Hs n) (hh : h ∈ Hs) (hne : h.cs ≠ []) (hnd1 : (R1.map (·.nm)).Nodup) (hR1 : rowsF R1 = rowsF R) (hxr : xr ∈ R1) (hxn : xr.nm = h.nm) (hli1 : ∀ x ∈ R1, ∀ y ∈ R1, x.l = y.l → x.nm = y.nm) (hm1 : ∀ x ∈ R1, x ∈ R ∨ (x = xr ∧ x.ls = []))
    (ha : L.a = h.nm) (hN : L.n = ((rowsF R h.nm).length : Int) + 1) (hPn : (L.ps.map (·.1)).Nodup) (hPm : ∀ p ∈ L.ps, p.1 ∈ h.cs.map (·.1) ∨ p.1 = h.nm) (hPc : ∀ b, cnt L.ps b = if b = h.nm then L.n else gC h.cs b) (hs : ∀ z ∈ h.cs, stampOf R z < L.s) : W3Inv f ps (pushR R1 h.nm (x, L)) (setH Hs h.nm c (setA h.cs h.nm L.n)) (n + 1) := by
  have hd := hI.hd h hh
  have hnm : h.nm ∈ ps := by
    rw [← hI.hn]
    exact List.mem_map_of_mem hh
  have hF : rowsF (pushR R1 h.nm (x, L)) = fun a => if a = h.nm then rowsF R h.nm ++ [(x, L)] else rowsF R a := by
    rw [rowsF_push (by rw [← hxn]; exact List.mem_map_of_mem (f := fun x : Rw => x.nm) hxr), hR1]
  have hFs : rowsF (pushR R1 h.nm (x, L)) h.nm = rowsF R h.nm ++ [(x, L)] := by
    rw [hF]
    exact if_pos rfl
  have hFo : ∀ a, a ≠ h.nm → rowsF (pushR R1 h.nm (x, L)) a = rowsF R a := fun a e => by
    rw [hF]
    exact if_neg e
  have hlau : (rowsF (pushR R1 h.nm (x, L)) h.nm).length = (rowsF R h.nm).length + 1 := by rw [hFs, List.length_append, List.length_singleton]
  have hlen : ∀ a, (rowsF R a).length ≤ (rowsF (pushR R1 h.nm (x, L)) a).length := fun a => by
    by_cases e : a = h.nm
    · rw [e, hlau]
      omega
    · rw [hFo a e]
      exact Nat.le_refl _
  have hin : ∀ a y, y ∈ rowsF (pushR R1 h.nm (x, L)) a → y ∈ rowsF R a ∨ (a = h.nm ∧ y = (x, L)) := fun a y hy => by
    by_cases e : a = h.nm
    · rw [e, hFs] at hy
      rcases List.mem_append.mp hy with hy | hy
      · exact .inl (e ▸ hy)
      · exact .inr ⟨e, List.mem_singleton.mp hy⟩
    · rw [hFo a e] at hy
      exact .inl hy
  have hcs := fun b => (gC_cnt L.ps b).symm.trans (hPc b)
  have hPS : CsOk (rowsF (pushR R1 h.nm (x, L))) f L.ps := hd.toCsOk.put hne hPn (fun b hb => by
    obtain ⟨p, hp, rfl⟩ := List.mem_map.mp hb
    exact hPm p hp) hcs (by omega) (by rw [hlau]; omega) hlen
  have hCS : CsOk (rowsF (pushR R1 h.nm (x, L))) f (setA h.cs h.nm L.n) := hd.toCsOk.put hne (setA_nd hd.nd _ _) (fun b hb => setA_mem.mp hb) (fun b => gC_set _ _ _ b) (by omega) (by rw [hlau]; omega) hlen
  have huq : ∀ x' ∈ R1, x'.nm = h.nm → x'.ls = xr.ls := fun x' hx' e => by
    have h2 := rowsF_mem hnd1 hx'
    rw [e, ← hxn, rowsF_mem hnd1 hxr] at h2
    exact h2.symm
  have hxl : xr.ls.length ≤ n := by
    rcases hm1 xr hxr with h3 | ⟨_, h3⟩
    · exact hI.len xr h3
    · rw [h3]
      exact Nat.zero_le _
  have hold : ∀ x' ∈ R1, x'.nm ≠ h.nm → x' ∈ R := fun x' hx' e => (hm1 x' hx').resolve_right fun z => e (by rw [z.1]; exact hxn)
  refine ⟨by rw [pushR_nm]; exact hnd1, fun x1 h1 y1 h2 e => ?_, ?_, fun a y hy => ?_, fun x' hx' => ?_, fun x' hx' => ?_, fun x' hx' => ?_, hI.pnd, by rw [setH_nm]; exact hI.hn, fun k hk => ?_⟩
  · obtain ⟨x0, hx0, en, el, _⟩ := pushR_in h1
    obtain ⟨y0, hy0, en2, el2, _⟩ := pushR_in h2
    rw [en, en2]
    exact hli1 x0 hx0 y0 hy0 (by rw [← el, ← el2]; exact e)
  · rw [hF]
    refine hI.inv.push2 (fun y hy => ?_) ha hN (fun b hb i y hy hi => ?_) (fun b hb => ?_) fun y hy b => ?_
    · obtain ⟨i, hi⟩ := List.mem_iff_getElem?.mp hy
      have hil := (List.getElem?_eq_some_iff.mp hi).1
      have hk : h.nm ∈ h.cs.map (·.1) := Classical.byContradiction fun z => by
        have := hd.own
        rw [gC_none z] at this
        omega
      have h1 := hs _ (gC_key hk)
      have h2 := stamp_le hI.inv.toRowsW (z := (h.nm, gC h.cs h.nm)) (hd.pos _ (gC_key hk)) (hd.hi _ (gC_key hk)) hi (by show (i : Int) + 1 ≤ gC h.cs h.nm; rw [hd.own]; omega)
      omega
    · rw [hPc, if_neg hb] at hi
      have hk : b ∈ h.cs.map (·.1) := Classical.byContradiction fun z => by
        rw [gC_none z] at hi
        omega
      have h1 := hs _ (gC_key hk)
      have h2 := stamp_le hI.inv.toRowsW (z := (b, gC h.cs b)) (hd.pos _ (gC_key hk)) (hd.hi _ (gC_key hk)) hy hi
      omega
    · rw [hPc, if_neg hb]
      exact hd.toCsOk.top b
    · have h1 := hd.mono y hy b
      rw [hPc]
      split
      · rename_i e
        rw [e, hd.own] at h1
        rw [e]
        omega
      · exact h1
  · rcases hin a y hy with h1 | ⟨_, h1⟩
    · exact ⟨(hI.cs a y h1).1.grow hlen, (hI.cs a y h1).2⟩
    · rw [h1]
      refine ⟨hPS, fun e => ?_⟩
      have h2 := hcs h.nm
      rw [if_pos rfl, show L.ps = [] from e] at h2
      have h2 : (0 : Int) = L.n := h2
      omega
  · obtain ⟨x0, hx0, en, el, h1 | h1⟩ := pushR_in hx'
    · rw [h1.2]
      simp
    · rw [h1.2]
      exact hI.ne x0 (hold x0 hx0 h1.1)
  · obtain ⟨x0, hx0, en, el, h1 | h1⟩ := pushR_in hx'
    · rw [h1.2, huq x0 hx0 h1.1, List.length_append, List.length_singleton]
      omega
    · rw [h1.2]
      exact Nat.le_succ_of_le (hI.len x0 (hold x0 hx0 h1.1))
  · obtain ⟨x0, hx0, en, el, h1 | h1⟩ := pushR_in hx'
    · rw [en, h1.1]
      exact hnm
    · rw [h1.2]
      exact hI.nms x0 (hold x0 hx0 h1.1)
  · rcases setH_in hk with rfl | ⟨h1, h2⟩
    · refine ⟨hCS, ?_, fun y hy b => ?_⟩
      · show gC (setA h.cs h.nm L.n) h.nm = _
        rw [gC_set, if_pos rfl, hlau, hN]
        omega
      · show cnt y.2.ps b ≤ gC (setA h.cs h.nm L.n) b
        have hy : (rowsF (pushR R1 h.nm (x, L)) h.nm).getLast? = some y := hy
        rw [hFs, List.getLast?_append] at hy
        have hy : (x, L) = y := Option.some.inj hy
        rw [← hy, gC_set]
        show cnt L.ps b ≤ _
        rw [hPc]
        exact Int.le_refl _
    · have h3 := hI.hd k h1
      refine ⟨h3.toCsOk.grow hlen, by rw [hFo _ h2]; exact h3.own, by rw [hFo _ h2]; exact h3.mono⟩
section
variable {K : PySem.W.Frag} {C CL : Addr} {vs : List V} {H : Hp} {Q : VK} {E : XK} {σ : L2.St} {D : Ends}
/-- [world["letters"][author][held[author] - 1].stamp for author in held] -/
theorem lcStamps {w pa wl wh d bt : Addr} {f nm : Str} {ps : List Str} {R : List Rw} {Hs : List Hd} {cs : List (Str × Int)} (LC : IsC_Letter K CL) (hW : W3At CL H w pa wl wh f ps R Hs) (hnd : (R.map (·.nm)).Nodup) (hd : H d = some (.dK (asV V.int cs))) (nd1 : d ≠ w) (nd2 : d ≠ wl) (hn : (cs.map (·.1)).Nodup) (hl : cs.length ≤ 1000) (hc : ∀ z ∈ cs, 1 ≤ z.2 ∧ z.2 ≤ ((rowsF R z.1).length : Int))
    (q : ∀ D G, H D = none → Same H G → G D = some (.lst ((cs.map (stampOf R)).map V.int)) → Q (.ref D) G) :
    tLockE (tLc (iKeys (tVar 3)) (gName 4) tYes (tFld K (tOp (rIxL K) (tDGet (tDGet (tVar 0) (tC (.str "letters"))) (tVar 4)) (tOp qSub (tDGet (tVar 3) (tVar 4)) (tC (.int 1)))) "stamp") [4]) [some (.ref w), some (.str nm), some (.ref bt), some (.ref d), none, none, none, none, none] H Q := by
  refine ⟨d, .dK (asV V.int cs), hd, trivial, fun od => w_lc (w_var rfl ⟨d, od, rfl, .inl ⟨asV V.int cs, upd_same, fun D hD => ?_⟩⟩)⟩
  have nDd : D ≠ d := fun z => by rw [z, upd_same] at hD; cases hD
  have D0 : H D = none := by rw [upd_ne nDd] at hD; exact hD
  refine lc_it walk_keys (fun k G => (∀ b o, b ≠ d → H b = some o → G b = some o) ∧ G d = some (.frz od (.dK (asV V.int cs))) ∧ G D = some (.lst (((cs.take k).map (stampOf R)).map V.int))) ⟨fun b o n e => by rw [upd_ne (ne_of_none e D0), upd_ne n]; exact e, by rw [upd_ne nDd.symm, upd_same], upd_same⟩ (fun k G _ e => e.2.1) ?_ ?_
  · rintro k x G Gz hk ⟨kx, ed, eD⟩ ⟨rfl, ky, v, ekv, rfl⟩
    unfold asV at ekv
    rw [List.getElem?_map] at ekv
    obtain ⟨z, hz, e2⟩ := Option.map_eq_some_iff.mp ekv
    injection e2 with e2 _
    subst e2
    have et : cs.take (k + 1) = cs.take k ++ [z] := by rw [List.take_add_one, hz]; rfl
    have hzm := List.mem_of_getElem? hz
    have hg : getA cs z.1 = some z.2 := getA_nd0 hn z hzm
    obtain ⟨h1, h2⟩ := hc z hzm
    have hne : rowsF R z.1 ≠ [] := fun e => by
      rw [e] at h2
      have h2 : z.2 ≤ 0 := h2
      omega
    obtain ⟨xr, hxr, hxn⟩ := row_of hne
    have hrx : rowsF R z.1 = xr.ls := by rw [← hxn]; exact rowsF_mem hnd hxr
    have hlt : (z.2 - 1).toNat < xr.ls.length := by rw [← hrx]; omega
    have hy := List.getElem?_eq_getElem hlt
    have hst : stampOf R z = (xr.ls[(z.2 - 1).toNat]).2.s := by
      unfold stampOf
      rw [hrx, hy]
      rfl
    obtain ⟨dx, dd, sv, bv, hox, _⟩ := (hW.ok xr hxr _ (List.getElem_mem hlt)).1
    have hx1 := hW.ls xr hxr
    have hgr : getA (rowV R) z.1 = some xr.l := by rw [← hxn]; exact row_get hnd hxr
    refine w_name ⟨rfl, w_yes (iteT_ ?_)⟩
    refine w_fld (w_op (w_dget (w_dget (w_var rfl (w_c ⟨w, .ref wl, rfl, w4_getL (kx _ _ nd1.symm hW.hw), w_var rfl ⟨wl, .ref xr.l, rfl, valA_some V.ref hgr ▸ DGet.k (k := Sum.inr z.1) (kx _ _ nd2.symm hW.hl), w_op (w_dget (w_var rfl (w_var rfl ⟨d, .int z.2, rfl, .inl ⟨asV V.int cs, Sum.inr z.1, .inr ⟨od, ed⟩, rfl, (valA_some V.int hg).symm⟩, w_c (w_I0 (w_ixL (v := .ref (xr.ls[(z.2 - 1).toNat]).1) (SqL.of (kx _ _ (ne_kind hx1 hd fun t => by cases t) hx1)) (atI_of (by omega) (by rw [List.getElem?_map, hy]; rfl)) ⟨_, CL, dx, _, _, rfl, kx _ _ (ne_kind hox hd fun t => by cases t) hox, LC.cl, LC.n_stamp, lfs_stamp, _, eD, ?_, fun b o n e => ?_, ?_, ?_⟩))⟩)))⟩⟩)))))
    · rw [List.length_map, List.length_map, List.length_take]
      exact Nat.lt_of_le_of_lt (show _ ≤ 1000 by omega) (by decide)
    · rw [upd_ne (ne_of_none e D0)]
      exact kx b o n e
    · rw [upd_ne nDd.symm]
      exact ed
    · rw [upd_same, et, List.map_append, List.map_append]
      show _ = some (HO.lst (_ ++ [V.int (stampOf R z)]))
      rw [hst]
  · rintro G ⟨kx, ed, eD⟩
    rw [asV_len, List.take_length] at eD
    refine ⟨ed, q D _ D0 (fun b o e => ?_) (by rw [upd_ne nDd]; exact eD)⟩
    by_cases z : b = d
    · rw [z] at e ⊢
      rw [upd_same, ← hd]
      exact e.symm ▸ e
    · rw [upd_ne z]
      exact kx b o z e
/-- _law_write: slots 0:world 1:name 2:body 3:held 4:author 5:top 6:counts 7:seen 8:letter -/
def t__law_write (K : PySem.W.Frag) (C_Letter : Addr) : TS := (tSeq (tAsg (tDGet (tDGet (tVar 0) (tC (.str "held"))) (tVar 1)) (gName 3))
  (tSeq (tAsg (tCB (rMax K) (tCons (tLockE (tLc (iKeys (tVar 3)) (gName 4) tYes (tFld K (tOp (rIxL K) (tDGet (tDGet (tVar 0) (tC (.str "letters"))) (tVar 4)) (tOp qSub (tDGet (tVar 3) (tVar 4)) (tC (.int 1)))) "stamp") [4])) tNil)) (gName 5))
  (tSeq (tAsg (tCB Wp.qDictD (tCons (tVar 3) tNil)) (gName 6))
  (tSeq (sDPut (tVar 6) (tVar 1) (tOp qAdd (tDGet2 (tVar 6) (tVar 1) (tC (.int 0))) (tC (.int 1))))
  (tSeq (tAsg (tCB (Wp.qTupleOfZ K) (tCons (tLc (iList K (tCB Wp.qSortedD (tCons (tVar 6) tNil))) (gName 4) tYes (tTup (tCons (tVar 4) (tCons (tDGet (tVar 6) (tVar 4)) tNil))) [4]) tNil)) (gName 7))
  (tSeq (tAsg (tMake C_Letter (spInit K C_Letter) [] C8.E0 (tCons (tVar 1) (tCons (tDGet (tVar 6) (tVar 1)) (tCons (tOp qAdd (tVar 5) (tC (.int 1))) (tCons (tVar 7) (tCons (tVar 2) tNil)))))) (gName 8))
  (tSeq (tIfS (tB (tDNotIn (tVar 1) (tDGet (tVar 0) (tC (.str "letters"))))) (sDPut (tDGet (tVar 0) (tC (.str "letters"))) (tVar 1) (tLst tNil)) tNext)
  (tSeq (tDrop (tBM K "list" rAppend (tDGet (tDGet (tVar 0) (tC (.str "letters"))) (tVar 1)) (tCons (tVar 8) tNil)))
  (tSeq (sDPut (tDGet (tVar 0) (tC (.str "held"))) (tVar 1) (tVar 6))
  (tRet (tVar 8)))))))))))
theorem l__law_write (h : spWrite K CL vs H Q E) : vs.length = 3 := by obtain ⟨w, pa, wl, wh, bt, f, nm, ps, R, Hs, n, h, B, rfl, _⟩ := h; rfl
theorem r__law_write (LCL : IsC_Letter K CL) (h : spWrite K CL vs H Q E) : t__law_write K CL { nx := fun _ H' => Q .non H', rt := Q } (start ["world", "name", "body", "held", "author", "top", "counts", "seen", "letter"] vs) H := by
  obtain ⟨w, pa, wl, wh, bt, f, _, ps, R, Hs, n, h, B, rfl, hW, hI, hn, hpl, hasc, hh, rfl, hne, hB, hBL, hBp, q⟩ := h
  have hd := hI.hd h hh
  have hnm : h.nm ∈ ps := by
    rw [← hI.hn]
    exact List.mem_map_of_mem hh
  obtain ⟨hhd, hd1, hd2, hd3⟩ := hW.hs h hh
  have hcl := hI.clen hd.toCsOk
  have hHl : Hs.length = ps.length := by rw [← hI.hn, List.length_map]
  unfold t__law_write
  refine w_seq (w_asg (w_dget (w_dget (w_var rfl (w_c ⟨w, .ref wh, rfl, w4_getH hW.hw, w_var rfl ⟨wh, .ref h.d, rfl, valA_some V.ref (hd_get hI.hnd hh) ▸ DGet.k (k := Sum.inr h.nm) hW.hh, w_name ?_⟩⟩)))))
  -- the greatest stamp
  with_reducible refine w_seq ?_
  refine w_asg (w_cb (w_cons (lcStamps LCL hW hI.nd hhd hd1 hd2 hd.nd (by omega) (fun z hz => ⟨hd.pos z hz, hd.hi z hz⟩) fun D0 G1 f1 s1 e1 => w_nil ⟨D0, h.cs.map (stampOf R), rfl, SqL.of e1, by rw [List.length_map]; exact List.length_pos_iff.mpr hne, fun top hm hle => w_name ?_⟩)))
  have hst : ∀ z ∈ h.cs, stampOf R z < top + 1 := fun z hz => by
    have := hle _ (List.mem_map_of_mem (f := stampOf R) hz)
    omega
  clear hm hle e1
  -- the counts
  with_reducible refine w_seq ?_
  refine w_asg (w_cb (w_cons (w_var rfl (w_nil (w_dictD (s1 _ _ hhd) fun c G2 f2 s2 e2 => w_name ?_)))))
  with_reducible refine w_seq ?_
  refine w_dput (w_op (w_dget2 (w_var rfl ⟨c, rfl, .inl ⟨_, .inl e2⟩, w_var rfl (w_c ⟨_, DGet.k (k := Sum.inr h.nm) e2, ?_⟩)⟩)))
  rw [gC_getD, hd.own]
  refine w_c (w_I0 (w_var rfl (w_var rfl (dputK (k := Sum.inr h.nm) e2 (by rw [asV_len]; omega) fun G3 k3 e3 => ?_))))
  obtain ⟨N, hN⟩ : ∃ N : Int, N = ((rowsF R h.nm).length : Int) + 1 := ⟨_, rfl⟩
  rw [← hN, setA_asV] at e3
  have nd' := setA_nd hd.nd h.nm N
  have s3 : Same H G3 := fun b o e => k3 _ _ (ne_of_none (s1 _ _ e) f2) (s2 _ _ (s1 _ _ e))
  have c0 : H c = none := same_none s1 f2
  clear e2 k3 s2 s1
  have hkl : ((setA h.cs h.nm N).map (·.1)).length ≤ 63 := by
    rw [List.length_map]
    have := setA_len h.cs h.nm N
    omega
  -- seen
  with_reducible refine w_seq ?_
  refine w_asg (w_seenOfZ rfl e3 (di_asV nd') hkl (fun _ => rfl) (fun _ => rfl) (fun _ => rfl) fun l PS G4 s4 dS hPn hPl hPm hPc => w_name ?_)
  have hPc : ∀ b, cnt PS b = if b = h.nm then N else gC h.cs b := fun b => by rw [hPc, cv_gC, gC_set]
  have hPm : ∀ p ∈ PS, p.1 ∈ h.cs.map (·.1) ∨ p.1 = h.nm := fun p hp => setA_mem.mp (hPm p hp)
  have e4 := s4 _ _ e3
  have hgN : getA (setA h.cs h.nm N) h.nm = some N := by
    have h1 : h.nm ∈ (setA h.cs h.nm N).map (·.1) := setA_mem.mpr (.inr rfl)
    have h2 := gC_set h.cs h.nm N h.nm
    rw [if_pos rfl] at h2
    unfold gC at h2
    cases e : getA (setA h.cs h.nm N) h.nm with
    | none => exact absurd h1 (getA_none.mp e)
    | some v =>
      rw [e] at h2
      rw [show v = N from h2]
  -- the letter
  with_reducible refine w_seq ?_
  refine w_asg (w_make (w_cons (w_var rfl (w_cons (w_dget (w_var rfl (w_var rfl ⟨c, .int N, rfl, valA_some V.int hgN ▸ DGet.k (k := Sum.inr h.nm) e4, w_cons (w_op (w_var rfl (w_c (w_I0 (w_cons (w_var rfl (w_cons (w_var rfl (w_nil fun x dx hx hdx ndx => ?_)))))))))⟩)))))))
  have s34 := s3.trans s4
  refine ⟨x, dx, h.nm, N, top + 1, PS, .ref l, .ref bt, rfl, upd_same, dS.same (Same.upd (Same.upd (Same.refl G4) hdx) hx), hPn, by omega, fun G5 dd hdd k5 e5 ed5 => ⟨rfl, w_name ?_⟩⟩
  have s5 : Same G4 G5 := same_made2 hx hdx k5
  have dd4 : G4 dd = none := none_mk2 hdd
  have sA := s34.trans s5
  obtain ⟨L, hLd⟩ : ∃ L : Lt, L = ⟨h.nm, N, top + 1, PS, B.toD⟩ := ⟨_, rfl⟩
  have hW5 := hW.same sA
  have c5 := s5 _ _ e4
  have dd0 : H dd = none := same_none s34 dd4
  have wL : Wf L := by
    rw [hLd]
    refine ⟨by show 1 ≤ N; omega, hPn, by show PS.length ≤ 100; omega, hasc h.nm hnm, fun p hp => hasc _ ?_, hBL, hBp⟩
    rcases hPm p hp with h1 | h1
    · exact hI.keys hd.toCsOk h1
    · rw [h1]
      exact hnm
  have hL5 : LtAt (Ok3 wl wh) CL G5 x L := by
    rw [hLd]
    exact ⟨dx, dd, .ref l, .ref bt, e5, ⟨(ne_of_none (s34 _ _ hW.hl) dd4).symm, (ne_of_none (s34 _ _ hW.hh) dd4).symm⟩, ed5, dS.same s5, hB.same sA⟩
  have hLa : L.a = h.nm := by rw [hLd]
  have hLn : L.n = N := by rw [hLd]
  have hLs : L.s = top + 1 := by rw [hLd]
  have hLp : L.ps = PS := by rw [hLd]
  have hLb : L.b = B.toD := by rw [hLd]
  clear hLd k5 hdd e5 ed5 hx hdx ndx dS e4 s34 s4
  -- the row
  with_reducible refine w_seq ?_
  refine w_ifCut (Mid := fun σ' G => ∃ (R1 : List Rw) (xr : Rw), σ' = [some (.ref w), some (.str h.nm), some (.ref bt), some (.ref h.d), none, some (.int top), some (.ref c), some (.ref l), some (.ref x)] ∧ (∀ b o, b ≠ wl → G5 b = some o → G b = some o) ∧ G wl = some (.dK (asV V.ref (rowV R1))) ∧ xr ∈ R1 ∧ xr.nm = h.nm ∧ (R1.map (·.nm)).Nodup ∧ rowsF R1 = rowsF R ∧ G xr.l = some (.lst (lsV xr.ls)) ∧ ∀ x ∈ R1, x ∈ R ∨ (x = xr ∧ x.ls = [] ∧ G5 x.l = none)) ?_ ?_
  rotate_left
  · intro Rk hRk
    refine w_ifS (w_B (w_dnotinW (w_var rfl (w_dget (w_var rfl (w_c ⟨w, .ref wl, rfl, w4_getL hW5.hw, wl, _, rfl, DGet.k (k := Sum.inr h.nm) hW5.hl, w_exb ?_⟩))))))
    rw [valA, Option.isSome_map, getA_some]
    by_cases m : h.nm ∈ R.map (·.nm)
    · have m' : h.nm ∈ (rowV R).map (·.1) := by
        unfold rowV
        rw [List.map_map]
        exact m
      obtain ⟨xr, hxr, hxn⟩ := List.mem_map.mp m
      exact ite_f (by simp [m']) (w_next (hRk _ _ ⟨R, xr, rfl, fun _ _ _ e => e, hW5.hl, hxr, hxn, hI.nd, rfl, hW5.ls xr hxr, fun _ h => .inl h⟩))
    · have m' : h.nm ∉ (rowV R).map (·.1) := by
        unfold rowV
        rw [List.map_map]
        exact m
      refine ite_t (by simp [m']) (w_dput (w_lstV (w_nil ⟨sz (by simp), w_new fun l6 G6 f6 s6 e6 => w_dget (w_var rfl (w_c ⟨w, .ref wl, rfl, w4_getL (s6 _ _ hW5.hw), w_var rfl (dputK (k := Sum.inr h.nm) (s6 _ _ hW5.hl) ?_ fun G7 k7 e7 => ?_)⟩))⟩)))
      · rw [asV_len]
        unfold rowV
        rw [List.length_map]
        have := nodup_len hI.nd fun a ha => by
          obtain ⟨x0, hx0, e0⟩ := List.mem_map.mp ha
          exact e0 ▸ hI.nms x0 hx0
        rw [List.length_map] at this
        omega
      rw [putA_new (a := l6) (getA_none.mpr m') rfl] at e7
      refine hRk _ _ ⟨R ++ [⟨h.nm, l6, []⟩], ⟨h.nm, l6, []⟩, rfl, fun b o n1 e => k7 _ _ n1 (s6 _ _ e), ?_, List.mem_append_right _ (List.mem_singleton.mpr rfl), rfl, ?_, rowsF_new m, k7 _ _ (ne_of_none hW5.hl f6).symm e6, fun x hx => ?_⟩
      · rw [e7]
        unfold rowV
        rw [List.map_append]
        rfl
      · rw [List.map_append, List.nodup_append]
        refine ⟨hI.nd, by simp, fun a ha b hb z => ?_⟩
        rw [List.mem_singleton.mp hb] at z
        have z : a = h.nm := z
        exact m (z ▸ ha)
      · rcases List.mem_append.mp hx with hx | hx
        · exact .inl hx
        · rw [List.mem_singleton.mp hx]
          exact .inr ⟨rfl, rfl, f6⟩
  rintro σ' G6 ⟨R1, xr, rfl, k6, hl6, hxr, hxn, hnd1, hR1, hlx, hR1m⟩
  have hw6 := k6 _ _ hW.nw.1 hW5.hw
  have nlx : wl ≠ xr.l := (ne_kind hlx hl6 fun z => by cases z).symm
  have hgm : ∀ x ∈ R1, getA (rowV R1) x.nm = some x.l := fun x hx => row_get hnd1 hx
  have hg : getA (rowV R1) h.nm = some xr.l := by
    rw [← hxn]
    exact hgm xr hxr
  have huq : ∀ x ∈ R1, x.nm = h.nm → x.l = xr.l ∧ x.ls = xr.ls := fun x hx e => by
    have h1 := hgm x hx
    rw [e, hg] at h1
    have h2 := rowsF_mem hnd1 hx
    rw [e, ← hxn, rowsF_mem hnd1 hxr] at h2
    exact ⟨(Option.some.inj h1).symm, h2.symm⟩
  have hold : ∀ x ∈ R1, x.nm ≠ h.nm → x ∈ R := fun x hx e => (hR1m x hx).resolve_right fun z => e (by rw [z.1]; exact hxn)
  have hxll : xr.ls.length ≤ 80 := by
    rcases hR1m xr hxr with h1 | ⟨_, h1, _⟩
    · have := hI.len xr h1
      omega
    · rw [h1]
      exact Nat.zero_le _
  refine w_drop (w_bm (w_dget (w_dget (w_var rfl (w_c ⟨w, .ref wl, rfl, w4_getL hw6, w_var rfl ⟨wl, .ref xr.l, rfl, valA_some V.ref hg ▸ DGet.k (k := Sum.inr h.nm) hl6, w_tyL hlx (w_cons (w_var rfl (w_nil (w_appV hlx (by rw [lsV_len]; omega) fun G7 k7 e7 => ?_))))⟩⟩)))))
  -- what the person holds
  have hw7 := k7 _ _ (ne_kind hw6 hlx fun z => by cases z) hw6
  have hh6 := k6 _ _ hW.nlh.symm hW5.hh
  have hh7 := k7 _ _ (ne_kind hh6 hlx fun z => by cases z) hh6
  with_reducible refine w_seq ?_
  refine w_dput (w_var rfl (w_dget (w_var rfl (w_c ⟨w, .ref wh, rfl, w4_getH hw7, w_var rfl (dputK (k := Sum.inr h.nm) hh7 (by rw [asV_len]; unfold hdV; rw [List.length_map]; omega) fun G8 k8 e8 => ?_)⟩))))
  rw [setH_v (nm := h.nm) c (setA h.cs h.nm N) (List.mem_map_of_mem hh)] at e8
  refine w_ret (w_var rfl ?_)
  have kA : ∀ b o, b ≠ wl → b ≠ wh → b ≠ xr.l → G5 b = some o → G8 b = some o := fun b o n1 n2 n3 e => k8 _ _ n2 (k7 _ _ n3 (k6 _ _ n1 e))
  have hxo : ∀ b o, (∀ y ∈ R, b ≠ y.l) → G5 b = some o → b ≠ xr.l := fun b o n4 e => by
    rcases hR1m xr hxr with h1 | ⟨_, _, h1⟩
    · exact n4 xr h1
    · exact ne_of_none e h1
  have fm : Fm (Ok3 wl wh) G5 G8 := ((Fm.mono (Fm.kpD k6 hW5.hl) fun a o => o.1).trans (Fm.kpL k7 hlx)).trans (Fm.mono (Fm.kpD k8 hh7) fun a o => o.2)
  have hLh : LtAt (Ok3 wl wh) CL G8 x L := hL5.fm wL fm
  have eh' : G8 xr.l = some (.lst (lsV (xr.ls ++ [(x, L)]))) := by
    have nh : xr.l ≠ wh := ne_kind hlx hh6 fun z => by cases z
    rw [k8 _ _ nh e7]
    unfold lsV
    rw [List.map_append]
    rfl
  have nwx : ∀ (b : Addr) (kvs : List (L2.Key × V)), G5 b = some (.dK kvs) → b ≠ wl → b ≠ xr.l := fun b kvs e n1 => ne_kind (k6 _ _ n1 e) hlx fun z => by cases z
  have hl8 : G8 wl = some (.dK (asV V.ref (rowV R1))) := k8 _ _ hW.nlh (k7 _ _ nlx hl6)
  have nlk : ∀ x0 ∈ R, x0.l ≠ wl ∧ x0.l ≠ wh := fun x0 hx0 => ⟨ne_kind (hW.ls x0 hx0) hW.hl (fun z => by cases z), ne_kind (hW.ls x0 hx0) hW.hh (fun z => by cases z)⟩
  have hnew : ∀ x0 ∈ R1, x0 ∈ R ∨ H x0.l = none := fun x0 hx0 => by
    rcases hR1m x0 hx0 with h1 | ⟨_, _, h1⟩
    · exact .inl h1
    · exact .inr (same_none sA h1)
  have hli1 : ∀ x0 ∈ R1, ∀ y0 ∈ R1, x0.l = y0.l → x0.nm = y0.nm := fun x0 hx0 y0 hy0 e => by
    rcases hR1m x0 hx0 with h3 | ⟨h3, _, h4⟩
    · rcases hR1m y0 hy0 with h5 | ⟨h5, _, h6⟩
      · exact hI.li x0 h3 y0 h5 e
      · rw [← e, hW5.ls x0 h3] at h6
        exact nomatch h6
    · rcases hR1m y0 hy0 with h5 | ⟨h5, _, h6⟩
      · rw [e, hW5.ls y0 h5] at h4
        exact nomatch h4
      · rw [h3, h5]
  have hpn : ∀ x0 ∈ R1, x0.l ≠ pa := fun x0 hx0 => by
    rcases hR1m x0 hx0 with h1 | ⟨_, _, h1⟩
    · exact hW.np x0 h1
    · exact (ne_of_none hW5.hpa h1).symm
  have hN' : L.n = ((rowsF R h.nm).length : Int) + 1 := by rw [hLn, hN]
  refine q x L (pushR R1 h.nm (x, L)) (setH Hs h.nm c (setA h.cs h.nm L.n)) G8 (fun b o n1 n2 n3 e => kA b o n1 n2 (hxo b o n3 (sA _ _ e)) (sA _ _ e)) ⟨?_, ?_, by rw [pushR_v]; exact hl8, fun x' hx' => ?_, fun x' hx' y hy => ?_, by rw [hLn]; exact e8, fun k hk => ?_, hW.nlh, hW.nw, fun x' hx' => ?_⟩
    (hI.write hh hne hnd1 hR1 hxr hxn hli1 (fun x0 hx0 => (hR1m x0 hx0).imp id fun z => ⟨z.1, z.2.1⟩) hLa hN' (by rw [hLp]; exact hPn) (by rw [hLp]; exact hPm) (by rw [hLp, hLn]; exact hPc) (by rw [hLs]; exact hst))
    ⟨by rw [rowsF_push (by rw [← hxn]; exact List.mem_map_of_mem (f := fun x : Rw => x.nm) hxr), hR1], hLa, hLb, by rw [hLp, hLn]; exact hPc, c, rfl⟩ fun x' hx' => ?_
  · exact kA _ _ hW.nw.1 hW.nw.2 (nwx _ _ hW5.hw hW.nw.1) hW5.hw
  · have n1 : pa ≠ wl := ne_kind hW5.hpa hW5.hl fun z => by cases z
    exact kA _ _ n1 (ne_kind hW5.hpa hW5.hh fun z => by cases z) (hpn xr hxr).symm hW5.hpa
  · obtain ⟨x0, hx0, en, el, h1 | h1⟩ := pushR_in hx'
    · obtain ⟨h2, h3⟩ := huq x0 hx0 h1.1
      rw [el, h2, h1.2, h3]
      exact eh'
    · rw [h1.2]
      have hR := hold x0 hx0 h1.1
      exact kA _ _ (nlk x0 hR).1 (nlk x0 hR).2 (fun z => h1.1 ((hli1 x0 hx0 xr hxr z).trans hxn)) (hW5.ls x0 hR)
  · have old : ∀ x0 ∈ R, y ∈ x0.ls → LtAt (Ok3 wl wh) CL G8 y.1 y.2 ∧ Wf y.2 ∧ ∃ B : Bb, y.2.b = B.toD := fun x0 h0 hy => by
      obtain ⟨h1, h2, h3⟩ := hW5.ok x0 h0 y hy
      exact ⟨h1.fm h2 fm, h2, h3⟩
    obtain ⟨x0, hx0, en, el, h1 | h1⟩ := pushR_in hx'
    · obtain ⟨h2, h3⟩ := huq x0 hx0 h1.1
      rw [h1.2, h3] at hy
      rcases List.mem_append.mp hy with hy | hy
      · rcases hR1m xr hxr with h4 | ⟨_, h4, _⟩
        · exact old xr h4 hy
        · rw [h4] at hy
          exact nomatch hy
      · rw [List.mem_singleton.mp hy]
        exact ⟨hLh, wL, B, hLb⟩
    · rw [h1.2] at hy
      exact old x0 (hold x0 hx0 h1.1) hy
  · rcases setH_in hk with rfl | ⟨h1, _⟩
    · have nc : ∀ b, H b ≠ none → c ≠ b := fun b e z => e (z ▸ c0)
      have n1 := nc wl (by rw [hW.hl]; exact fun z => nomatch z)
      have n2 := nc wh (by rw [hW.hh]; exact fun z => nomatch z)
      refine ⟨?_, nc w (by rw [hW.hw]; exact fun z => nomatch z), n1, n2⟩
      show G8 c = some (.dK (asV V.int (setA h.cs h.nm L.n)))
      rw [hLn]
      exact kA _ _ n1 n2 (nwx _ _ c5 n1) c5
    · obtain ⟨e, n1, n2, n3⟩ := hW5.hs k h1
      exact ⟨kA _ _ n2 n3 (nwx _ _ e n2) e, n1, n2, n3⟩
  · obtain ⟨x0, hx0, en, el, _⟩ := pushR_in hx'
    rw [el]
    exact hpn x0 hx0
  · obtain ⟨x0, hx0, en, el, _⟩ := pushR_in hx'
    rw [el]
    rcases hnew x0 hx0 with h1 | h1
    · exact .inr ⟨x0, h1, rfl⟩
    · exact .inl h1
end

/-! ### a person learns letters -/
theorem gC_filter : ∀ {l : List (Str × Int)}, (l.map (·.1)).Nodup → (∀ z ∈ l, 0 ≤ z.2) → ∀ b, gC (l.filter fun z => decide (0 < z.2)) b = gC l b
  | [], _, _, _ => rfl
  | z :: r, hn, h0, b => by
    rw [List.map_cons, List.nodup_cons] at hn
    have ih := gC_filter hn.2 (fun y hy => h0 y (List.mem_cons_of_mem _ hy)) b
    rw [gC_cons]
    by_cases e : 0 < z.2
    · rw [List.filter_cons_of_pos (by simp [e]), gC_cons, ih]
    · rw [List.filter_cons_of_neg (by simp [e]), ih]
      by_cases eb : z.1 = b
      · rw [if_pos eb, ← eb, gC_none hn.1]
        have := h0 z (List.mem_cons_self ..)
        omega
      · rw [if_neg eb]
theorem csum_rows {R : List Rw} {m : List (Str × Int)} : ∀ {l : List (Str × Int)}, (∀ z ∈ l, ((rowC R m z.1).length : Int) = z.2) → ((l.flatMap fun z => rowC R m z.1).length : Int) = csum l
  | [], _ => rfl
  | z :: r, h => by
    have ih := csum_rows (l := r) fun y hy => h y (List.mem_cons_of_mem _ hy)
    have h1 := h z (List.mem_cons_self ..)
    unfold csum at ih ⊢
    rw [List.flatMap_cons, List.length_append, List.map_cons, List.sum_cons, ← ih, ← h1]
    omega
theorem rowC_len {R : List Rw} {m : List (Str × Int)} (nd : (m.map (·.1)).Nodup) {z : Str × Int} (hz : z ∈ m) (h0 : 0 ≤ z.2) (h1 : z.2 ≤ ((rowsF R z.1).length : Int)) : ((rowC R m z.1).length : Int) = z.2 := by
  unfold rowC cntC
  have := gC_mem nd hz
  unfold gC at this
  rw [this, List.length_take]
  omega
theorem rowC_out {R : List Rw} {m : List (Str × Int)} {a : Str} (h : a ∉ m.map (·.1)) : rowC R m a = [] := by
  unfold rowC cntC
  rw [getA_none.mpr h]
  rfl
theorem rowC_W {R : List Rw} (hI : RowsW (rowsF R)) (m : List (Str × Int)) : RowsW (rowC R m) := hI.take (cntC m)
theorem walkEnd {R : List Rw} {m : List (Str × Int)} (hI : RowsW (rowsF R)) (nd : (m.map (·.1)).Nodup) (h0 : ∀ z ∈ m, 0 ≤ z.2) (h1 : ∀ z ∈ m, z.2 ≤ ((rowsF R z.1).length : Int)) {s0 : Wk} (hs : s0.row = rowC R m s0.k) :
    (iterW (rowC R m) (1 + (csum m).toNat) s0).row.length ≤ (iterW (rowC R m) (1 + (csum m).toNat) s0).at_ := by
  have hc := csum_rows (R := R) (m := m) (l := m) fun z hz => rowC_len nd hz (h0 z hz) (h1 z hz)
  have hl : (m.flatMap fun z => rowC R m z.1).length = (csum m).toNat := by omega
  rw [← hl]
  refine walk_end (rowC_W hI m) (fun a y hy => ?_) hs
  by_cases k : a ∈ m.map (·.1)
  · obtain ⟨z, hz, rfl⟩ := List.mem_map.mp k
    exact List.mem_flatMap.mpr ⟨z, hz, hy⟩
  · rw [rowC_out k] at hy
    exact nomatch hy
/-- limits are counts of letters of the rows -/
theorem iter_lims {rf : Str → List (Addr × Lt)} (h : RowsW rf) {P : Str × Int → Prop} (hP : ∀ a, ∀ y ∈ rf a, ∀ nm, P (nm, cnt y.2.ps nm)) {s0 : Wk} (h0 : s0.row = rf s0.k) (hl : ∀ z ∈ s0.lim, P z) : ∀ i, ∀ z ∈ (iterW rf i s0).lim, P z
  | 0 => hl
  | i + 1 => by
    have ih := iter_lims h hP h0 hl i
    have hr := iter_row h h0 i
    rw [iterW_succ]
    generalize iterW rf i s0 = s at ih hr
    unfold stepW
    cases hy : s.row[s.at_]? with
    | none => exact ih
    | some y =>
      show ∀ z ∈ (actW rf s y (bbOfR y.2.b)).lim, P z
      rw [hr] at hy
      cases bbOfR y.2.b with
      | act kd nm hk =>
        unfold actW
        dsimp only
        split
        · exact ih
        · split
          · split
            · intro z hz
              rcases List.mem_append.mp hz with hz | hz
              · exact ih z hz
              · rw [List.mem_singleton.mp hz]
                exact hP _ y (List.mem_of_getElem? hy) nm
            · exact ih
          · exact ih
      | say t => exact ih
      | reply a n t => exact ih
      | edit a n t => exact ih
      | recall a n => exact ih
      | mark a n w => exact ih
      | title t => exact ih
      | seen => exact ih
      | found t ds => exact ih
/-- the founding letter of a room -/
structure Fd (R : List Rw) (f : Str) (t : Str) (ms : List Str) (y0 : Addr × Lt) : Prop where
  r0 : (rowsF R f)[0]? = some y0
  b : y0.2.b = (Bb.found t (ms.map .str)).toD
  nd : (f :: ms).Nodup
  len : ms.length ≤ 60
  asc : ∀ x ∈ f :: ms, ascii x = true
def mxC (cs cc : List (Str × Int)) (b : Str) : Int := max (gC cs b) (gC cc b)
/-- the walk of a roll over the letters that are counted so -/
noncomputable def walkR (R : List Rw) (f : Str) (ms : List Str) (y0 : Addr × Lt) (m : List (Str × Int)) : Wk := iterW (rowC R m) (1 + (csum m).toNat) (initW f ms y0 (rowC R m f))
structure Learnt (R : List Rw) (f : Str) (ms : List Str) (y0 : Addr × Lt) (Hs : List Hd) (h : Hd) (cc : List (Str × Int)) (Hs' : List Hd) : Prop where
  ex : ∃ m : List (Str × Int), (m.map (·.1)).Nodup ∧ (∀ z ∈ m, 1 ≤ z.2) ∧ (∀ b, gC m b = mxC h.cs cc b) ∧
    ((getA (walkR R f ms y0 m).came h.nm = none ∧ Hs' = Hs) ∨ ((getA (walkR R f ms y0 m).came h.nm).isSome = true ∧ ∃ d cs', Hs' = setH Hs h.nm d cs' ∧ ∀ b, gC cs' b = match getA (walkR R f ms y0 m).lim b with | none => mxC h.cs cc b | some l => max (gC h.cs b) (min (mxC h.cs cc b) l)))
def spLearn (K : PySem.W.Frag) (CL : Addr) : Sp := fun vs H Q _ => ∃ (w pa wl wh c : Addr) (f nm t : Str) (ps ms : List Str) (y0 : Addr × Lt) (R : List Rw) (Hs : List Hd) (n : Nat) (h : Hd) (cc : List (Str × Int)), vs = [.ref w, .str nm, .ref c] ∧ W3At CL H w pa wl wh f ps R Hs ∧ W3Inv f ps R Hs n ∧ n ≤ 80 ∧ ps.length ≤ 60 ∧ Fd R f t ms y0 ∧ h ∈ Hs ∧ h.nm = nm ∧ H c = some (.dK (asV V.int cc)) ∧ c ≠ w ∧ c ≠ wl ∧ c ≠ wh ∧ CsOk (rowsF R) f cc ∧ cc ≠ [] ∧
  ∀ Hs' H', (∀ b o, b ≠ wh → H b = some o → H' b = some o) → W3At CL H' w pa wl wh f ps R Hs' → W3Inv f ps R Hs' n → Learnt R f ms y0 Hs h cc Hs' → Q .non H'
theorem W3Inv.setH {f : Str} {ps : List Str} {R : List Rw} {Hs : List Hd} {n : Nat} {h : Hd} {d : Addr} {cs' : List (Str × Int)} (hI : W3Inv f ps R Hs n) (h1 : HdOk (rowsF R) f h.nm cs') : W3Inv f ps R (setH Hs h.nm d cs') n :=
  ⟨hI.nd, hI.li, hI.inv, hI.cs, hI.ne, hI.len, hI.nms, hI.pnd, by rw [setH_nm]; exact hI.hn, fun k hk => by
    rcases setH_in hk with rfl | ⟨h2, _⟩
    · exact h1
    · exact hI.hd k h2⟩
/-- what two counts come to -/
structure Mrg (cs cc m : List (Str × Int)) (k : Nat) : Prop where
  nd : (m.map (·.1)).Nodup
  sub : ∀ b ∈ m.map (·.1), b ∈ cs.map (·.1) ∨ b ∈ (cc.take k).map (·.1)
  sup : ∀ b ∈ cs.map (·.1), b ∈ m.map (·.1)
  sup2 : ∀ b ∈ (cc.take k).map (·.1), b ∈ m.map (·.1)
  val : ∀ b, gC m b = if b ∈ (cc.take k).map (·.1) then mxC cs cc b else gC cs b
  len : m.length ≤ cs.length + k
theorem Mrg.zero (cs cc : List (Str × Int)) (h : (cs.map (·.1)).Nodup) : Mrg cs cc cs 0 := ⟨h, fun _ => .inl, fun _ h => h, fun _ h => (nomatch h), fun _ => rfl, Nat.le_refl _⟩
theorem take_fresh {cc : List (Str × Int)} (hc : (cc.map (·.1)).Nodup) {k : Nat} {z : Str × Int} (hz : cc[k]? = some z) : z.1 ∉ (cc.take k).map (·.1) := by
  rw [List.map_take]
  intro e
  obtain ⟨j, hj⟩ := List.mem_iff_getElem?.mp e
  rw [List.getElem?_take] at hj
  split at hj
  · have h1 : (cc.map (·.1))[k]? = some z.1 := by rw [List.getElem?_map, hz]; rfl
    have := (List.getElem?_inj (List.getElem?_eq_some_iff.mp h1).1 hc).mp (h1.trans hj.symm)
    omega
  · exact nomatch hj
theorem take_more {cc : List (Str × Int)} {k : Nat} {z : Str × Int} (hz : cc[k]? = some z) (b : Str) : b ∈ (cc.take (k + 1)).map (·.1) ↔ b ∈ (cc.take k).map (·.1) ∨ b = z.1 := by
  rw [List.take_add_one, hz, List.map_append, List.mem_append]
  exact or_congr Iff.rfl List.mem_singleton
theorem Mrg.next {cs cc m : List (Str × Int)} {k : Nat} (h : Mrg cs cc m k) (hc : (cc.map (·.1)).Nodup) {z : Str × Int} (hz : cc[k]? = some z) : Mrg cs cc (setA m z.1 (mxC cs cc z.1)) (k + 1) := by
  refine ⟨setA_nd h.nd _ _, fun b hb => ?_, fun b hb => setA_mem.mpr (.inl (h.sup b hb)), fun b hb => ?_, fun b => ?_, ?_⟩
  · rw [take_more hz]
    rcases setA_mem.mp hb with e | e
    · rcases h.sub b e with e | e
      · exact .inl e
      · exact .inr (.inl e)
    · exact .inr (.inr e)
  · rw [take_more hz] at hb
    exact setA_mem.mpr (hb.imp (h.sup2 b) id)
  · rw [gC_set, h.val]
    by_cases e : b = z.1
    · rw [if_pos e, if_pos ((take_more hz b).mpr (.inr e)), e]
    · rw [if_neg e]
      by_cases m : b ∈ (cc.take k).map (·.1)
      · rw [if_pos m, if_pos ((take_more hz b).mpr (.inl m))]
      · rw [if_neg m, if_neg fun t => ((take_more hz b).mp t).elim m e]
  · have := setA_len m z.1 (mxC cs cc z.1)
    have := h.len
    omega
/-- the limits taken -/
structure Lmt (cs m m2 lim : List (Str × Int)) (k : Nat) : Prop where
  nm : m2.map (·.1) = m.map (·.1)
  val : ∀ b, gC m2 b = if b ∈ (lim.take k).map (·.1) ∧ b ∈ m.map (·.1) then max (gC cs b) (min (gC m b) (gC lim b)) else gC m b
theorem Lmt.zero (cs m lim : List (Str × Int)) : Lmt cs m m lim 0 := ⟨rfl, fun b => by rw [if_neg fun z => nomatch z.1]⟩
theorem Lmt.skip {cs m m2 lim : List (Str × Int)} {k : Nat} (h : Lmt cs m m2 lim k) {z : Str × Int} (hz : lim[k]? = some z) (hn : z.1 ∉ m.map (·.1)) : Lmt cs m m2 lim (k + 1) := ⟨h.nm, fun b => by
  rw [h.val]
  by_cases e : b ∈ (lim.take k).map (·.1) ∧ b ∈ m.map (·.1)
  · rw [if_pos e, if_pos ⟨(take_more hz b).mpr (.inl e.1), e.2⟩]
  · rw [if_neg e, if_neg fun t => ((take_more hz b).mp t.1).elim (fun u => e ⟨u, t.2⟩) fun u => hn (u ▸ t.2)]⟩
theorem Lmt.next {cs m m2 lim : List (Str × Int)} {k : Nat} (h : Lmt cs m m2 lim k) {z : Str × Int} (hz : lim[k]? = some z) (hn : z.1 ∈ m.map (·.1)) : Lmt cs m (setA m2 z.1 (max (gC cs z.1) (min (gC m z.1) (gC lim z.1)))) lim (k + 1) := by
  have hg : (getA m2 z.1).isSome = true := by
    rw [getA_some, h.nm]
    exact decide_eq_true hn
  refine ⟨by rw [setA_nm, if_pos hg]; exact h.nm, fun b => ?_⟩
  rw [gC_set, h.val]
  by_cases e : b = z.1
  · rw [if_pos e, if_pos ⟨(take_more hz b).mpr (.inr e), e ▸ hn⟩, e]
  · rw [if_neg e]
    by_cases m' : b ∈ (lim.take k).map (·.1) ∧ b ∈ m.map (·.1)
    · rw [if_pos m', if_pos ⟨(take_more hz b).mpr (.inl m'.1), m'.2⟩]
    · rw [if_neg m', if_neg fun t => ((take_more hz b).mp t.1).elim (fun u => m' ⟨u, t.2⟩) e]
theorem max_if (i j : Int) : (if j > i then j else i) = max i j := by
  split <;> omega
theorem min_if (i j : Int) : (if j < i then j else i) = min i j := by
  split <;> omega
section
variable {K : PySem.W.Frag} {C CL : Addr} {vs : List V} {H : Hp} {Q : VK} {E : XK} {σ : L2.St} {D : Ends}
theorem initW_row (f : Str) (ms : List Str) (y0 : Addr × Lt) (rf : Str → List (Addr × Lt)) : (initW f ms y0 (rf f)).row = rf (initW f ms y0 (rf f)).k := rfl
theorem asV_at {l : List (Str × Int)} {k : Nat} {kx : L2.Key} {v : V} (e : (asV V.int l)[k]? = some (kx, v)) : ∃ z, l[k]? = some z ∧ kx = Sum.inr z.1 := by
  unfold asV at e
  rw [List.getElem?_map] at e
  obtain ⟨z, hz, e2⟩ := Option.map_eq_some_iff.mp e
  injection e2 with e2 _
  exact ⟨z, hz, e2.symm⟩
theorem unfrz {c md : Addr} {H G : Hp} {o : HO} (hc : H c = some o) (kx : ∀ b u, b ≠ c → b ≠ md → H b = some u → G b = some u) : ∀ b u, b ≠ md → H b = some u → upd G c o b = some u := fun b u n e => by
  by_cases z : b = c
  · rw [z] at e ⊢
    rw [upd_same, ← hc]
    exact e.symm ▸ e
  · rw [upd_ne z]
    exact kx b u z n e
/-- _law_learn: slots 0:world 1:name 2:counts 3:held 4:merged 5:author 6:came 7:cuts 8:keeper -/
def t__law_learn (K : PySem.W.Frag) (C_Letter : Addr) : TS := (tSeq (tAsg (tDGet (tDGet (tVar 0) (tC (.str "held"))) (tVar 1)) (gName 3))
  (tSeq (tAsg (tCB Wp.qDictD (tCons (tVar 3) tNil)) (gName 4))
  (tSeq (tLock (tFor (iKeys (tVar 2)) (gName 5) (sDPut (tVar 4) (tVar 5) (tCB qMax2 (tCons (tDGet2 (tVar 4) (tVar 5) (tC (.int 0))) (tCons (tDGet (tVar 2) (tVar 5)) tNil))))))
  (tSeq (tAsg (tCall (spLawRoll K C_Letter) [] C8.E0 (tCons (tVar 0) (tCons (tVar 4) tNil))) (gLst K 3 (gCons (gName 6) (gCons (gName 7) (gCons (gName 8) gNil)))))
  (tSeq (tIfS (tB (tDNotIn (tVar 1) (tVar 6))) tRetN tNext)
  (tSeq (tLock (tFor (iKeys (tVar 7)) (gName 5) (tIfS (tB (tDIn (tVar 5) (tVar 4))) (sDPut (tVar 4) (tVar 5) (tCB qMax2 (tCons (tDGet2 (tVar 3) (tVar 5) (tC (.int 0))) (tCons (tCB qMin2 (tCons (tDGet (tVar 4) (tVar 5)) (tCons (tDGet (tVar 7) (tVar 5)) tNil))) tNil)))) tNext)))
  (tSeq (sDPut (tDGet (tVar 0) (tC (.str "held"))) (tVar 1) tDNewK)
  (tLock (tFor (iKeys (tVar 4)) (gName 5) (tIfS (tTest (tOp qGt (tDGet (tVar 4) (tVar 5)) (tC (.int 0)))) (sDPut (tDGet (tDGet (tVar 0) (tC (.str "held"))) (tVar 1)) (tVar 5) (tDGet (tVar 4) (tVar 5))) tNext))))))))))
theorem l__law_learn (h : spLearn K CL vs H Q E) : vs.length = 3 := by obtain ⟨w, pa, wl, wh, c, f, nm, t, ps, ms, y0, R, Hs, n, h, cc, rfl, _⟩ := h; rfl
theorem r__law_learn (LCL : IsC_Letter K CL) (h : spLearn K CL vs H Q E) : t__law_learn K CL { nx := fun _ H' => Q .non H', rt := Q } (start ["world", "name", "counts", "held", "merged", "author", "came", "cuts", "keeper"] vs) H := by
  obtain ⟨w, pa, wl, wh, c, f, _, t, ps, ms, y0, R, Hs, n, h, cc, rfl, hW, hI, hn, hpl, hF, hh, rfl, hc, nc1, nc2, nc3, hcc, hcn, q⟩ := h
  have hd := hI.hd h hh
  have hnm : h.nm ∈ ps := by
    rw [← hI.hn]
    exact List.mem_map_of_mem hh
  obtain ⟨hhd, hd1, hd2, hd3⟩ := hW.hs h hh
  have hcl := hI.clen hd.toCsOk
  have hccl := hI.clen hcc
  have hHl : Hs.length = ps.length := by rw [← hI.hn, List.length_map]
  unfold t__law_learn
  refine w_seq (w_asg (w_dget (w_dget (w_var rfl (w_c ⟨w, .ref wh, rfl, w4_getH hW.hw, w_var rfl ⟨wh, .ref h.d, rfl, valA_some V.ref (hd_get hI.hnd hh) ▸ DGet.k (k := Sum.inr h.nm) hW.hh, w_name ?_⟩⟩)))))
  with_reducible refine w_seq ?_
  refine w_asg (w_cb (w_cons (w_var rfl (w_nil (w_dictD hhd fun md G1 f1 s1 e1 => w_name ?_)))))
  have nmc : md ≠ c := (ne_of_none hc f1).symm
  -- both counts
  with_reducible refine w_seq ?_
  refine ⟨c, .dK (asV V.int cc), s1 _ _ hc, trivial, fun od => ?_⟩
  refine w_for (w_var rfl ⟨c, od, rfl, .inl ⟨_, upd_same, ?_⟩⟩)
  refine for_it walk_keys (fun k σ' G => (∃ u, σ' = [some (.ref w), some (.str h.nm), some (.ref c), some (.ref h.d), some (.ref md), u, none, none, none]) ∧ (∀ b o, b ≠ c → b ≠ md → G1 b = some o → G b = some o) ∧ G c = some (.frz od (.dK (asV V.int cc))) ∧ ∃ m, G md = some (.dK (asV V.int m)) ∧ Mrg h.cs cc m k) ⟨⟨_, rfl⟩, fun b o n1 _ e => by rw [upd_ne n1]; exact e, upd_same, h.cs, by rw [upd_ne nmc]; exact e1, Mrg.zero _ _ hd.nd⟩ (fun _ _ _ _ e => e.2.2.1) ?_ ?_
  · rintro k x σ' G Gz hk ⟨⟨u, rfl⟩, kx, ed, m, em, hm⟩ ⟨rfl, ky, v, ekv, rfl⟩
    obtain ⟨z, hz, rfl⟩ := asV_at ekv
    have hg : getA cc z.1 = some z.2 := getA_nd0 hcc.nd z (List.mem_of_getElem? hz)
    have hk' : k < cc.length := (List.getElem?_eq_some_iff.mp hz).1
    have hml := hm.len
    refine w_name (w_dput (w_cb (w_cons (w_dget2 (w_var rfl ⟨md, rfl, .inl ⟨_, .inl em⟩, w_var rfl (w_c ⟨_, DGet.k (k := Sum.inr z.1) em, ?_⟩)⟩))))) 
    rw [gC_getD]
    refine w_cons (w_dget (w_var rfl (w_var rfl ⟨c, .int z.2, rfl, .inl ⟨asV V.int cc, Sum.inr z.1, .inr ⟨od, ed⟩, rfl, (valA_some V.int hg).symm⟩, w_nil (w_max2 (w_var rfl (w_var rfl (dputK (k := Sum.inr z.1) em (by rw [asV_len]; omega) fun G2 k2 e2 => ⟨⟨_, rfl⟩, fun b o n1 n2 e => k2 _ _ n2 (kx b o n1 n2 e), k2 _ _ nmc.symm ed, _, ?_, hm.next hcc.nd hz⟩))))⟩)))
    rw [e2, setA_asV, max_if, hm.val, if_neg (take_fresh hcc.nd hz)]
    unfold mxC
    rw [gC_mem hcc.nd (List.mem_of_getElem? hz)]
  rintro σ' G ⟨⟨u, rfl⟩, kx, ed, m, em, hm⟩
  refine ⟨ed, ?_⟩
  rw [asV_len] at hm
  have kG := unfrz (s1 _ _ hc) kx
  have emG : upd G c (.dK (asV V.int cc)) md = some (.dK (asV V.int m)) := by rw [upd_ne nmc]; exact em
  generalize upd G c (.dK (asV V.int cc)) = G2 at kG emG
  have s2 : Same H G2 := fun b o e => kG b o (ne_of_none e f1) (s1 _ _ e)
  clear kx ed em kG
  have hmv : ∀ b, gC m b = mxC h.cs cc b := fun b => by
    rw [hm.val, List.take_length]
    by_cases k : b ∈ cc.map (·.1)
    · rw [if_pos k]
    · rw [if_neg k]
      unfold mxC
      rw [gC_none k]
      have := hd.toCsOk.nn b
      omega
  have hmt : ∀ b, gC m b ≤ ((rowsF R b).length : Int) := fun b => by
    have h1 := hd.toCsOk.top b
    have h2 := hcc.top b
    rw [hmv]
    unfold mxC
    omega
  have hmp : ∀ z ∈ m, 1 ≤ z.2 := fun z hz => by
    have h1 := gC_mem hm.nd hz
    rw [hmv] at h1
    unfold mxC at h1
    rcases hm.sub z.1 (List.mem_map_of_mem hz) with k | k
    · have h2 := hd.pos _ (gC_key k)
      have h2 : 1 ≤ gC h.cs z.1 := h2
      omega
    · rw [List.take_length] at k
      have h2 := hcc.pos _ (gC_key k)
      have h2 : 1 ≤ gC cc z.1 := h2
      omega
  have hmi : ∀ z ∈ m, z.2 ≤ ((rowsF R z.1).length : Int) := fun z hz => by
    rw [← gC_mem hm.nd hz]
    exact hmt z.1
  have hmC : CsOk (rowsF R) f m := ⟨hm.nd, hmp, hmi, fun _ => by
    have h1 := hcc.fd hcn
    rw [hmv]
    unfold mxC
    omega⟩
  have hmc : csum m ≤ 5000 := by
    have h1 := hI.csum hmC
    have h2 : ps.length * n ≤ 60 * 80 := Nat.mul_le_mul hpl hn
    omega
  have hml := hI.clen hmC
  have hW2 := hW.same s2
  have hlen5 : ∀ x ∈ R, x.ls.length ≤ 5000 := fun x hx => by have := hI.len x hx; omega
  -- the walk
  with_reducible refine w_seq ?_
  refine w_asg (w_call (w_cons (w_var rfl (w_cons (w_var rfl (w_nil ⟨w, md, pa, wl, wh, f, R, m, y0, t, ms, rfl, hW2.wo hlen5, emG, fun z hz => by have := hmp z hz; omega, hm.nd, by omega, hmc, hF.r0, hF.b, hF.nd, by have := hF.len; omega, fun pp dcm dcu W G3 s3 f3c f3u ncu e3 ec3 eu3 hWk hWok => ⟨pp, _, rfl, SqL.of e3, rfl, gc (w_name (gc (w_name (gc (w_name (gn ?_))))))⟩⟩))))))
  rw [liter_iter (fun a => (rowC_W hI.inv.toRowsW m).inc a)] at hWk
  have hWk : W = walkR R f ms y0 m := hWk
  have hW3 := hW2.same s3
  have s23 := s2.trans s3
  have em3 := s3 _ _ emG
  have hwi : WInv (61 + (1 + (csum m).toNat)) W := by
    rw [hWk]
    refine iter_inv (rowC_W hI.inv.toRowsW m) (fun a y hy => ?_) (s0 := initW f ms y0 (rowC R m f)) rfl (n := 61) ⟨fun z hz => ?_, fun z hz => (nomatch hz), List.nodup_nil, ?_, Nat.zero_le _⟩ _
    · obtain ⟨x', hx', _, hy'⟩ := rowsF_in (List.mem_of_mem_take hy)
      exact (hW.ok x' hx' y hy').2
    · obtain ⟨nm, hnm, rfl⟩ := List.mem_map.mp hz
      exact strOk_of (hF.asc nm hnm)
    · show ((f :: ms).map fun nm => (nm, y0)).length ≤ 61
      have := hF.len
      rw [List.length_map, List.length_cons]
      omega
  have hlim : ∀ z ∈ W.lim, z.1 = f → 1 ≤ z.2 := by
    rw [hWk]
    refine iter_lims (rowC_W hI.inv.toRowsW m) (P := fun z => z.1 = f → 1 ≤ z.2) (s0 := initW f ms y0 (rowC R m f)) (fun a y hy nm e => ?_) rfl (fun z hz => (nomatch hz)) _
    obtain ⟨h1, h2⟩ := hI.cs a y (List.mem_of_mem_take hy)
    have h3 := h1.fd h2
    rw [← gC_cnt] at h3
    have e : nm = f := e
    rw [e]
    exact h3
  have hcu0 : H dcu = none := same_none s2 f3u
  have hcm0 : H dcm = none := same_none s2 f3c
  have ncum : dcu ≠ md := (ne_of_none emG f3u).symm
  have hmd0 : H md = none := f1
  clear emG hW2 e3 s2 s3 f3c f3u s1 e1 f1
  -- who is not known
  with_reducible refine w_seq ?_
  refine w_ifS (w_B (w_dnotinW (w_var rfl (w_var rfl ⟨dcm, _, rfl, DGet.k (k := Sum.inr h.nm) ec3, w_exb ?_⟩))))
  rw [valA, Option.isSome_map]
  cases hcm : getA W.came h.nm with
  | none => exact ite_t rfl (w_retN (q Hs G3 (fun b o _ e => s23 _ _ e) hW3 hI ⟨m, hm.nd, hmp, hmv, .inl ⟨by rw [← hWk]; exact hcm, rfl⟩⟩))
  | some y1 =>
  refine ite_f (by simp) (w_next ?_)
  have hcm : getA W.came h.nm = some y1 := hcm
  -- the limits
  have hd3 := s23 _ _ hhd
  have nhd : h.d ≠ md := ne_of_none hhd hmd0
  have nhu : h.d ≠ dcu := ne_of_none hhd hcu0
  have hl2 := hwi.l2
  with_reducible refine w_seq ?_
  refine ⟨dcu, .dK (asV V.int W.lim), eu3, trivial, fun od2 => ?_⟩
  refine w_for (w_var rfl ⟨dcu, od2, rfl, .inl ⟨_, upd_same, ?_⟩⟩)
  refine for_it walk_keys (fun k σ' G => (∃ u, σ' = [some (.ref w), some (.str h.nm), some (.ref c), some (.ref h.d), some (.ref md), u, some (.ref dcm), some (.ref dcu), some (.str W.k)]) ∧ (∀ b o, b ≠ dcu → b ≠ md → G3 b = some o → G b = some o) ∧ G dcu = some (.frz od2 (.dK (asV V.int W.lim))) ∧ ∃ m2, G md = some (.dK (asV V.int m2)) ∧ Lmt h.cs m m2 W.lim k) ⟨⟨_, rfl⟩, fun b o n1 _ e => by rw [upd_ne n1]; exact e, upd_same, m, by rw [upd_ne ncum.symm]; exact em3, Lmt.zero _ _ _⟩ (fun _ _ _ _ e => e.2.2.1) ?_ ?_
  · rintro k x σ' G' Gz hk ⟨⟨u', rfl⟩, kx, ed, m2, em2, hm2⟩ ⟨rfl, ky, v, ekv, rfl⟩
    obtain ⟨z, hz, rfl⟩ := asV_at ekv
    have hg : getA W.lim z.1 = some z.2 := getA_nd0 hwi.nd z (List.mem_of_getElem? hz)
    have hgl : gC W.lim z.1 = z.2 := gC_mem hwi.nd (List.mem_of_getElem? hz)
    have hdG := kx _ _ nhu nhd hd3
    have hm2l : m2.length = m.length := by
      have := congrArg List.length hm2.nm
      rw [List.length_map, List.length_map] at this
      exact this
    refine w_name (w_ifS (w_B (w_dinW (w_var rfl (w_var rfl ⟨md, _, rfl, DGet.k (k := Sum.inr z.1) em2, w_exb ?_⟩)))))
    rw [valA, Option.isSome_map, getA_some, hm2.nm]
    by_cases hzm : z.1 ∈ m.map (·.1)
    · have h2 : gC m2 z.1 = gC m z.1 := by rw [hm2.val, if_neg fun t => take_fresh hwi.nd hz t.1]
      have hg2 : getA m2 z.1 = some (gC m z.1) := by
        rw [← h2]
        unfold gC
        cases e : getA m2 z.1 with
        | none => exact absurd (by rw [hm2.nm]; exact hzm) (getA_none.mp e)
        | some v => rfl
      refine ite_t (by simp [hzm]) (w_dput (w_cb (w_cons (w_dget2 (w_var rfl ⟨h.d, rfl, .inl ⟨_, .inl hdG⟩, w_var rfl (w_c ⟨_, DGet.k (k := Sum.inr z.1) hdG, ?_⟩)⟩)))))
      rw [gC_getD]
      refine w_cons (w_cb (w_cons (w_dget (w_var rfl (w_var rfl ⟨md, .int (gC m z.1), rfl, valA_some V.int hg2 ▸ DGet.k (k := Sum.inr z.1) em2, ?_⟩)))))
      refine w_cons (w_dget (w_var rfl (w_var rfl ⟨dcu, .int z.2, rfl, .inl ⟨asV V.int W.lim, Sum.inr z.1, .inr ⟨od2, ed⟩, rfl, (valA_some V.int hg).symm⟩, w_nil (w_min2 ?_)⟩)))
      refine w_nil (w_max2 (w_var rfl (w_var rfl (dputK (k := Sum.inr z.1) em2 (by rw [asV_len]; omega) fun G4 k4 e4 => ⟨⟨_, rfl⟩, fun b o n1 n2 e => k4 _ _ n2 (kx b o n1 n2 e), k4 _ _ ncum ed, _, ?_, hm2.next hz hzm⟩))))
      rw [e4, setA_asV, max_if, min_if, hgl]
    · exact ite_f (by simp [hzm]) (w_next ⟨⟨_, rfl⟩, kx, ed, m2, em2, hm2.skip hz hzm⟩)
  rintro σ' G' ⟨⟨u', rfl⟩, kx, ed, m2, em2, hm2⟩
  refine ⟨ed, ?_⟩
  rw [asV_len] at hm2
  have kG := unfrz eu3 kx
  have emG : upd G' dcu (.dK (asV V.int W.lim)) md = some (.dK (asV V.int m2)) := by rw [upd_ne ncum.symm]; exact em2
  generalize upd G' dcu (.dK (asV V.int W.lim)) = G4 at kG emG
  have s4 : Same H G4 := fun b o e => kG b o (ne_of_none e hmd0) (s23 _ _ e)
  clear kx ed em2 kG hWok eu3 ec3 hW3 hd3 em3 s23
  have hW4 := hW.same s4
  have hnd2 : (m2.map (·.1)).Nodup := by rw [hm2.nm]; exact hm.nd
  have hv2 : ∀ b, gC m2 b = match getA W.lim b with | none => mxC h.cs cc b | some l => max (gC h.cs b) (min (mxC h.cs cc b) l) := fun b => by
    rw [hm2.val, List.take_length, hmv]
    cases e : getA W.lim b with
    | none => exact if_neg fun t => getA_none.mp e t.1
    | some l =>
      have hb : b ∈ W.lim.map (·.1) := Classical.byContradiction fun t => by
        rw [getA_none.mpr t] at e
        exact nomatch e
      have hl : gC W.lim b = l := by
        unfold gC
        rw [e]
        rfl
      by_cases hbm : b ∈ m.map (·.1)
      · rw [if_pos ⟨hb, hbm⟩, hl]
      · rw [if_neg fun t => hbm t.2]
        have h1 : gC h.cs b = 0 := gC_none fun t => hbm (hm.sup b t)
        have h2 : mxC h.cs cc b = 0 := by rw [← hmv]; exact gC_none hbm
        show mxC h.cs cc b = max (gC h.cs b) (min (mxC h.cs cc b) l)
        rw [h1, h2]
        omega
  have hlo : ∀ b, gC h.cs b ≤ gC m2 b := fun b => by
    rw [hv2]
    cases getA W.lim b with
    | none => show gC h.cs b ≤ mxC h.cs cc b; unfold mxC; omega
    | some l => show gC h.cs b ≤ max (gC h.cs b) (min (mxC h.cs cc b) l); omega
  have hup : ∀ b, gC m2 b ≤ gC h.cs b ∨ gC m2 b ≤ gC cc b := fun b => by
    rw [hv2]
    cases getA W.lim b with
    | none => show mxC h.cs cc b ≤ _ ∨ mxC h.cs cc b ≤ _; unfold mxC; omega
    | some l => show max (gC h.cs b) (min (mxC h.cs cc b) l) ≤ _ ∨ max (gC h.cs b) (min (mxC h.cs cc b) l) ≤ _; unfold mxC; omega
  have hf1 : 1 ≤ gC m2 f := by
    have h1 := hcc.fd hcn
    rw [hv2]
    cases e : getA W.lim f with
    | none => show 1 ≤ mxC h.cs cc f; unfold mxC; omega
    | some l =>
      have h2 : 1 ≤ l := hlim _ (getA_mem e) rfl
      show 1 ≤ max (gC h.cs f) (min (mxC h.cs cc f) l)
      unfold mxC
      omega
  have h02 : ∀ z ∈ m2, 0 ≤ z.2 := fun z hz => by
    rw [← gC_mem hnd2 hz]
    have h1 := hlo z.1
    have h2 := hd.toCsOk.nn z.1
    omega
  have hm2l : m2.length ≤ 60 := by
    have := congrArg List.length hm2.nm
    rw [List.length_map, List.length_map] at this
    omega
  -- a new dict
  with_reducible refine w_seq ?_
  refine w_dput (w_dnewK fun nd G5 f5 s5 e5 => w_dget (w_var rfl (w_c ⟨w, .ref wh, rfl, w4_getH (s5 _ _ hW4.hw), w_var rfl (dputK (k := Sum.inr h.nm) (s5 _ _ hW4.hh) (by rw [asV_len]; unfold hdV; rw [List.length_map]; omega) fun G6 k6 e6 => ?_)⟩)))
  rw [setH_v (nm := h.nm) nd (m2.filter fun z => decide (0 < z.2)) (List.mem_map_of_mem hh)] at e6
  have nnw : nd ≠ wh := (ne_of_none hW4.hh f5).symm
  have nnm : nd ≠ md := (ne_of_none emG f5).symm
  have nww : md ≠ wh := (ne_of_none hW.hh hmd0).symm
  have k46 : ∀ b o, b ≠ wh → G4 b = some o → G6 b = some o := fun b o n1 e => k6 _ _ n1 (s5 _ _ e)
  have e56 := k6 _ _ nnw e5
  have em6 := k46 _ _ nww emG
  have hw6 := k46 _ _ hW.nw.2 hW4.hw
  have hgH : getA (hdV (setH Hs h.nm nd (m2.filter fun z => decide (0 < z.2)))) h.nm = some nd := by
    have h1 : (⟨h.nm, nd, m2.filter fun z => decide (0 < z.2)⟩ : Hd) ∈ setH Hs h.nm nd (m2.filter fun z => decide (0 < z.2)) := by
      unfold setH
      exact List.mem_map.mpr ⟨h, hh, if_pos rfl⟩
    exact hd_get (by rw [setH_nm]; exact hI.hnd) h1
  have nd0 : H nd = none := same_none s4 f5
  refine ⟨md, .dK (asV V.int m2), em6, trivial, fun od3 => ?_⟩
  refine w_for (w_var rfl ⟨md, od3, rfl, .inl ⟨_, upd_same, ?_⟩⟩)
  refine for_it walk_keys (fun k σ' G => (∃ u, σ' = [some (.ref w), some (.str h.nm), some (.ref c), some (.ref h.d), some (.ref md), u, some (.ref dcm), some (.ref dcu), some (.str W.k)]) ∧ (∀ b o, b ≠ md → b ≠ nd → G6 b = some o → G b = some o) ∧ G md = some (.frz od3 (.dK (asV V.int m2))) ∧ G nd = some (.dK (asV V.int ((m2.take k).filter fun z => decide (0 < z.2))))) ⟨⟨_, rfl⟩, fun b o n1 _ e => by rw [upd_ne n1]; exact e, upd_same, by rw [upd_ne nnm]; exact e56⟩ (fun _ _ _ _ e => e.2.2.1) ?_ ?_
  · rintro k x σ' G7 Gz hk ⟨⟨u'', rfl⟩, kx, ed, en⟩ ⟨rfl, ky, v, ekv, rfl⟩
    obtain ⟨z, hz, rfl⟩ := asV_at ekv
    have hg : getA m2 z.1 = some z.2 := getA_nd0 hnd2 z (List.mem_of_getElem? hz)
    have et : m2.take (k + 1) = m2.take k ++ [z] := by rw [List.take_add_one, hz]; rfl
    have hw7 := kx _ _ (ne_of_none hW.hw hmd0) (ne_of_none hW.hw nd0) hw6
    have hh7 := kx _ _ nww.symm nnw.symm e6
    have nzg : ∀ G, G md = some (.frz od3 (.dK (asV V.int m2))) → DGet G md (.str z.1) (some (.int z.2)) := fun G e => .inl ⟨asV V.int m2, Sum.inr z.1, .inr ⟨od3, e⟩, rfl, (valA_some V.int hg).symm⟩
    refine w_name (w_ifS (w_test (w_op (w_dget (w_var rfl (w_var rfl ⟨md, .int z.2, rfl, nzg _ ed, w_c (w_I0 (w_exb ?_))⟩))))))
    refine w_ite (fun hp => ?_) fun hp => w_next ⟨⟨_, rfl⟩, kx, ed, ?_⟩
    · refine w_dput (w_dget (w_var rfl (w_var rfl ⟨md, .int z.2, rfl, nzg _ ed, w_dget (w_dget (w_var rfl (w_c ⟨w, .ref wh, rfl, w4_getH hw7, w_var rfl ⟨wh, .ref nd, rfl, valA_some V.ref hgH ▸ DGet.k (k := Sum.inr h.nm) hh7, w_var rfl (dputK (k := Sum.inr z.1) en ?_ fun G8 k8 e8 => ⟨⟨_, rfl⟩, fun b o n1 n2 e => k8 _ _ n2 (kx b o n1 n2 e), k8 _ _ nnm.symm ed, ?_⟩)⟩⟩)))⟩)))
      · rw [asV_len]
        have h1 := List.length_filter_le (fun z : Str × Int => decide (0 < z.2)) (m2.take k)
        have h2 : (m2.take k).length ≤ m2.length := by rw [List.length_take]; omega
        omega
      · rw [putA_new (a := z.2) (getA_none.mpr fun t => take_fresh hnd2 hz ?_) rfl] at e8
        · rw [e8, et, List.filter_append, List.filter_cons_of_pos (by simp; omega), List.filter_nil]
        · obtain ⟨z', hz', e⟩ := List.mem_map.mp t
          rw [← e]
          exact List.mem_map_of_mem (List.mem_filter.mp hz').1
    · rw [et, List.filter_append, List.filter_cons_of_neg (by simp; omega), List.filter_nil, List.append_nil]
      exact en
  rintro σ' G7 ⟨⟨u'', rfl⟩, kx, ed, en⟩
  refine ⟨ed, ?_⟩
  rw [asV_len, List.take_length] at en
  have kG := unfrz em6 kx
  have enG : upd G7 md (.dK (asV V.int m2)) nd = some (.dK (asV V.int (m2.filter fun z => decide (0 < z.2)))) := by rw [upd_ne nnm]; exact en
  generalize upd G7 md (.dK (asV V.int m2)) = G8 at kG enG
  have kH : ∀ b o, b ≠ wh → H b = some o → G8 b = some o := fun b o n1 e => kG b o (ne_of_none e nd0) (k46 _ _ n1 (s4 _ _ e))
  have hh8 := kG _ _ nnw.symm e6
  have hgf := gC_filter hnd2 h02
  have hfn : ((m2.filter fun z => decide (0 < z.2)).map (·.1)).Nodup := hnd2.sublist (List.Sublist.map _ List.filter_sublist)
  have hok := hd.learn hcc hfn (fun z hz => by
    have h1 := of_decide_eq_true (List.mem_filter.mp hz).2
    have h1 : 0 < z.2 := h1
    omega) (fun b => by rw [hgf]; exact hlo b) (fun b => by rw [hgf]; exact hup b) (by rw [hgf]; exact hf1)
  have fm : Fm (Ok3 wl wh) H G8 := ⟨⟨fun b xs e => kH _ _ (ne_kind e hW.hh fun z => by cases z) e, fun b o xs e => kH _ _ (ne_kind e hW.hh fun z => by cases z) e⟩, fun b C dx fs e => kH _ _ (ne_kind e hW.hh fun z => by cases z) e, fun b kvs e o => kH _ _ o.2 e⟩
  refine q _ G8 kH ⟨kH _ _ hW.nw.2 hW.hw, kH _ _ (ne_kind hW.hpa hW.hh fun z => by cases z) hW.hpa, kH _ _ hW.nlh hW.hl, fun x hx => kH _ _ (ne_kind (hW.ls x hx) hW.hh fun z => by cases z) (hW.ls x hx), fun x hx y hy => ⟨(hW.ok x hx y hy).1.fm (hW.ok x hx y hy).2.1 fm, (hW.ok x hx y hy).2⟩, hh8, fun k hk => ?_, hW.nlh, hW.nw, hW.np⟩ (hI.setH hok) ⟨m, hm.nd, hmp, hmv, .inr ⟨?_, nd, _, rfl, fun b => ?_⟩⟩
  · rcases setH_in hk with rfl | ⟨h1, _⟩
    · exact ⟨enG, (ne_of_none hW.hw nd0).symm, (ne_of_none hW.hl nd0).symm, (ne_of_none hW.hh nd0).symm⟩
    · obtain ⟨e, n1, n2, n3⟩ := hW.hs k h1
      exact ⟨kH _ _ n3 e, n1, n2, n3⟩
  · rw [← hWk, hcm]
    rfl
  · rw [hgf, hv2, hWk]
end

/-! ### what a person writes, and a step -/
/-- a body that is drawn -/
def BodyQ (P : Bb → Prop) (p : Addr) (H : Hp) (Q : VK) : Prop := ∀ (bt : Addr) (B : Bb) (H' : Hp), P B → Kp p H H' → Stm H' p → Dn Any H' (.ref bt) B.toD → Lay 3 B.toD → plainB B.toD = true → Q (.ref bt) H'
def NoAct (B : Bb) : Prop := ∀ kd o hk, B ≠ .act kd o hk
/-- an act that fits -/
def ActFit (came : List (Str × Addr × Lt)) (lim : List (Str × Int)) (k : Str) (B : Bb) : Prop := ∀ kd o hk, B = .act kd o hk → (kd = Str.ofString "add" ∧ getA came o = none) ∨ (kd ≠ Str.ofString "add" ∧ otherB came lim k o = true)
theorem NoAct.fit {B : Bb} (h : NoAct B) (came : List (Str × Addr × Lt)) (lim : List (Str × Int)) (k : Str) : ActFit came lim k B := fun kd o hk e => absurd e (h kd o hk)
def spTarget9 (K : PySem.W.Frag) : Sp := fun vs H Q _ => ∃ (w d p : Addr) (cs : List (Str × Int)), vs = [.ref w, .ref d, .ref p] ∧ Stm H p ∧ H d = some (.dK (asV V.int cs)) ∧ (cs.map (·.1)).Nodup ∧ cs ≠ [] ∧ cs.length ≤ 63 ∧ (∀ z ∈ cs, 1 ≤ z.2 ∧ z.2 ≤ 5000) ∧
  ∀ (t : Addr) (z : Str × Int) (j : Int) (H' : Hp), z ∈ cs → 0 ≤ j → j < z.2 → Kp p H H' → Stm H' p → H' t = some (.tup [.str z.1, .int (1 + j)]) → Q (.ref t) H'
def spAct9 (K : PySem.W.Frag) (CL : Addr) : Sp := fun vs H Q _ => ∃ (w pa wl wh r dc du p : Addr) (f nm k : Str) (ps : List Str) (came : List (Str × Addr × Lt)) (lim : List (Str × Int)), vs = [.ref w, .str nm, .ref r, .ref p] ∧ Stm H p ∧ H w = some (.dK (w4 pa f wl wh)) ∧ H pa = some (.lst (ps.map V.str)) ∧ 1 ≤ ps.length ∧ ps.length ≤ 60 ∧ (∀ x ∈ ps, ascii x = true) ∧
  H r = some (.lst [.ref dc, .ref du, .str k]) ∧ H dc = some (.dK (asV ltV came)) ∧ H du = some (.dK (asV V.int lim)) ∧ BodyQ (ActFit came lim k) p H Q
def spTalk (K : PySem.W.Frag) (CL : Addr) : Sp := fun vs H Q _ => ∃ (w d p : Addr) (cs : List (Str × Int)), vs = [.ref w, .ref d, .ref p] ∧ Stm H p ∧ H d = some (.dK (asV V.int cs)) ∧ (cs.map (·.1)).Nodup ∧ cs ≠ [] ∧ cs.length ≤ 63 ∧ (∀ z ∈ cs, 1 ≤ z.2 ∧ z.2 ≤ 5000 ∧ ascii z.1 = true) ∧ BodyQ NoAct p H Q
/-- where counts that are learned come from -/
def Src (R : List Rw) (Hs : List Hd) (cc : List (Str × Int)) : Prop := ∃ k ∈ Hs, cc = k.cs ∨ ∃ z ∈ k.cs, ∃ (j : Nat) (y : Addr × Lt), (j : Int) < z.2 ∧ (rowsF R z.1)[j]? = some y ∧ cc = y.2.ps
/-- behind a step -/
def Stepped (R : List Rw) (f : Str) (ms : List Str) (y0 : Addr × Lt) (Hs : List Hd) (v : V) (R' : List Rw) (Hs' : List Hd) : Prop :=
  (v = .non ∧ R' = R ∧ (Hs' = Hs ∨ ∃ h ∈ Hs, ∃ cc, Src R Hs cc ∧ Learnt R f ms y0 Hs h cc Hs')) ∨
  (∃ h ∈ Hs, ∃ x L B, v = .ref x ∧ h.cs ≠ [] ∧ Wrote h.nm R Hs h B x L R' Hs' ∧ (getA (walkR R f ms y0 h.cs).came h.nm).isSome = true ∧ getA (walkR R f ms y0 h.cs).lim h.nm = none ∧
    (NoAct B ∨ (h.nm = (walkR R f ms y0 h.cs).k ∧ ActFit (walkR R f ms y0 h.cs).came (walkR R f ms y0 h.cs).lim (walkR R f ms y0 h.cs).k B)))
def spStep (K : PySem.W.Frag) (CL : Addr) : Sp := fun vs H Q _ => ∃ (w pa wl wh p : Addr) (f t : Str) (ps ms : List Str) (y0 : Addr × Lt) (R : List Rw) (Hs : List Hd) (n : Nat), vs = [.ref w, .ref p] ∧ W3At CL H w pa wl wh f ps R Hs ∧ W3Inv f ps R Hs n ∧ n ≤ 80 ∧ 1 ≤ ps.length ∧ ps.length ≤ 60 ∧ (∀ x ∈ ps, ascii x = true) ∧ Fd R f t ms y0 ∧ Stm H p ∧
  ∀ v R' Hs' H', W3Fr wl wh p R H H' → Stm H' p → W3At CL H' w pa wl wh f ps R' Hs' → W3Inv f ps R' Hs' (n + 1) → (∀ y ∈ R', H y.l = none ∨ ∃ z ∈ R, z.l = y.l) → Stepped R f ms y0 Hs v R' Hs' → Q v H'
theorem W3Inv.more {f : Str} {ps : List Str} {R : List Rw} {Hs : List Hd} {n : Nat} (h : W3Inv f ps R Hs n) : W3Inv f ps R Hs (n + 1) := ⟨h.nd, h.li, h.inv, h.cs, h.ne, fun x hx => Nat.le_succ_of_le (h.len x hx), h.nms, h.pnd, h.hn, h.hd⟩
theorem merge_as (l : List (Str × Int)) : ∀ acc : List (Str × Int), ((acc ++ l).map (·.1)).Nodup → mergeK (asV V.int acc) (asV V.int l) = asV V.int (acc ++ l) := by
  induction l with
  | nil =>
    intro acc _
    rw [List.append_nil]
    rfl
  | cons z r ih =>
    intro acc h
    have e : mergeK (asV V.int acc) (asV V.int (z :: r)) = mergeK (putK (asV V.int acc) (Sum.inr z.1) (.int z.2)) (asV V.int r) := rfl
    have hn : getA acc z.1 = none := by
      refine getA_none.mpr fun m => ?_
      rw [List.map_append, List.nodup_append] at h
      exact h.2.2 _ m _ (by rw [List.map_cons]; exact List.mem_cons_self ..) rfl
    rw [e, putA_new (a := z.2) hn rfl, ih (acc ++ [z]) (by rw [List.append_assoc]; exact h), List.append_assoc]
    rfl
theorem sv_pairs {K : PySem.W.Frag} {H : Hp} {Ts : List V} {l : List (Str × Int)} (h : DnAll Any H Ts (l.map pairD)) (i : Nat) (p : L2.Key × V) (hp : (asV V.int l)[i]? = some p) : ∃ b : Addr, Ts[i]? = some (V.ref b) ∧ SqT K H b [kV p.1, p.2] := by
  obtain ⟨k, v⟩ := p
  unfold asV at hp
  rw [List.getElem?_map] at hp
  obtain ⟨z, hz, e⟩ := Option.map_eq_some_iff.mp hp
  have hl := h.len
  rw [List.length_map] at hl
  have hi := (List.getElem?_eq_some_iff.mp hz).1
  have hv : Ts[i]? = some Ts[i] := List.getElem?_eq_getElem (by omega)
  obtain ⟨z', b, e1, e2, e3⟩ := pairs_at h i _ hv
  rw [hz] at e1
  cases e1
  injection e with e4 e5
  rw [← e4, ← e5]
  exact ⟨b, by rw [hv, e2], SqT.of e3⟩
section
variable {K : PySem.W.Frag} {C CL : Addr} {vs : List V} {H : Hp} {Q : VK} {E : XK} {σ : L2.St} {D : Ends}
/-- _law_target: slots 0:world 1:held 2:stream 3:authors 4:author -/
def t__law_target (K : PySem.W.Frag) : TS := (tSeq (tAsg (tCB Wp.qSortedD (tCons (tVar 1) tNil)) (gName 3))
  (tSeq (tAsg (tOp (rIxL K) (tVar 3) (tCall (spNext K) [] C8.E0 (tCons (tVar 2) (tCons (tCB (qLenSeq K) (tCons (tVar 3) tNil)) tNil)))) (gName 4))
  (tRet (tTup (tCons (tVar 4) (tCons (tOp qAdd (tC (.int 1)) (tCall (spNext K) [] C8.E0 (tCons (tVar 2) (tCons (tDGet (tVar 1) (tVar 4)) tNil)))) tNil))))))
theorem l__law_target (h : spTarget9 K vs H Q E) : vs.length = 3 := by obtain ⟨w, d, p, cs, rfl, _⟩ := h; rfl
theorem r__law_target (h : spTarget9 K vs H Q E) : t__law_target K { nx := fun _ H' => Q .non H', rt := Q } (start ["world", "held", "stream", "authors", "author"] vs) H := by
  obtain ⟨w, d, p, cs, rfl, hs, hd, hn, hne, hl, hv, q⟩ := h
  unfold t__law_target
  refine w_seq (w_asg (w_cb (w_cons (w_var rfl (w_nil ⟨d, asV V.int cs, cs.map (·.1), rfl, .inl hd, (di_asV hn).keys, by rw [List.length_map]; omega, fun ys q0 perm srt hq0 => ?_⟩)))))
  obtain ⟨G1, eG1, s1, e1⟩ := newT (o := .lst (ys.map V.str)) hq0
  rw [← eG1]
  refine w_name ?_
  have st1 := hs.same s1
  have nq : q0 ≠ p := hs.ne hq0
  have hyl : ys.length = cs.length := by
    have := perm.length_eq
    rw [List.length_map] at this
    exact this
  have hc0 : 0 < cs.length := List.length_pos_iff.mpr hne
  with_reducible refine w_seq ?_
  refine w_asg (w_op (w_var rfl (w_call (w_cons (w_var rfl (w_cons (w_cb (w_cons (w_var rfl (w_nil (w_lenL (SqL.of e1) (w_nil ⟨p, _, rfl, st1, ?_, ?_, fun j G2 k2 st2 j0 j1 => ?_⟩))))))))))))
  · rw [List.length_map]
    omega
  · rw [List.length_map]
    omega
  rw [List.length_map] at j1
  have hjl : j.toNat < ys.length := by omega
  refine w_ixL (SqL.of (k2 _ _ nq e1)) (v := .str ys[j.toNat]) (atI_of j0 (by rw [List.getElem?_map, List.getElem?_eq_getElem hjl]; rfl)) (w_name ?_)
  obtain ⟨z, hz, hza⟩ := List.mem_map.mp (perm.mem_iff.mp (List.getElem_mem hjl))
  have hza : z.1 = ys[j.toNat] := hza
  rw [← hza]
  obtain ⟨z1, z2⟩ := hv z hz
  have hd2 := k2 _ _ (stm_neD st1 (s1 _ _ hd)) (s1 _ _ hd)
  refine w_ret (w_tupV (w_cons (w_var rfl (w_cons (w_op (w_c (w_call (w_cons (w_var rfl (w_cons (w_dget (w_var rfl (w_var rfl ⟨d, .int z.2, rfl, valA_some V.int (getA_nd0 hn z hz) ▸ DGet.k (k := Sum.inr z.1) hd2, w_nil ⟨p, _, rfl, st2, by omega, by omega, fun j' G3 k3 st3 j0' j1' => w_I0 (w_nil ⟨sz (by simp), w_new fun t G4 f4 s4 e4 => ?_⟩)⟩⟩)))))))))))))
  exact q t z j' G4 hz j0' j1' ((((Same.kp s1).trans k2).trans k3).trans (Same.kp s4)) (st3.same s4) e4
/-- _law_act: slots 0:world 1:name 2:roll 3:stream 4:came 5:cuts 6:keeper 7:people 8:other 9:kind -/
def t__law_act (K : PySem.W.Frag) (C_Letter : Addr) : TS := (tSeq (tAsg (tVar 2) (gLst K 3 (gCons (gName 4) (gCons (gName 5) (gCons (gName 6) gNil)))))
  (tSeq (tAsg (tDGet (tVar 0) (tC (.str "people"))) (gName 7))
  (tSeq (tAsg (tOp (rIxL K) (tVar 7) (tCall (spNext K) [] C8.E0 (tCons (tVar 3) (tCons (tCB (qLenSeq K) (tCons (tVar 7) tNil)) tNil)))) (gName 8))
  (tSeq (tAsg (tCall (spNext K) [] C8.E0 (tCons (tVar 3) (tCons (tC (.int 4)) tNil))) (gName 9))
  (tSeq (tIfS (tAnd (tTest (tOp qLt (tVar 9) (tC (.int 2)))) (tB (tDNotIn (tVar 8) (tVar 4)))) (tRet (tTup (tCons (tC (.str "add")) (tCons (tVar 8) tNil)))) tNext)
  (tSeq (tIfS (tAnd (tB (tDIn (tVar 8) (tVar 4))) (tAnd (tB (tDNotIn (tVar 8) (tVar 5))) (tTest (tOp rNe (tVar 8) (tVar 6))))) (tRet (tTup (tCons (tOp (rIxT K) (tTup (tCons (tC (.str "cut")) (tCons (tC (.str "hand")) (tCons (tC (.str "cut")) (tCons (tC (.str "hand")) tNil))))) (tVar 9)) (tCons (tVar 8) tNil)))) tNext)
  (tRet (tTup (tCons (tC (.str "seen")) tNil)))))))))
theorem l__law_act (h : spAct9 K CL vs H Q E) : vs.length = 4 := by obtain ⟨w, pa, wl, wh, r, dc, du, p, f, nm, k, ps, came, lim, rfl, _⟩ := h; rfl
theorem r__law_act (LCL : IsC_Letter K CL) (h : spAct9 K CL vs H Q E) : t__law_act K CL { nx := fun _ H' => Q .non H', rt := Q } (start ["world", "name", "roll", "stream", "came", "cuts", "keeper", "people", "other", "kind"] vs) H := by
  obtain ⟨w, pa, wl, wh, r, dc, du, p, f, nm, k, ps, came, lim, rfl, hs, hw, hpa, hp1, hp2, hasc, hr, hdc, hdu, q⟩ := h
  have npa := stm_neS hs hpa
  unfold t__law_act
  refine w_seq (w_asg (w_var rfl ⟨r, _, rfl, SqL.of hr, rfl, gc (w_name (gc (w_name (gc (w_name (gn ?_))))))⟩))
  with_reducible refine w_seq ?_
  refine w_asg (w_dget (w_var rfl (w_c ⟨w, .ref pa, rfl, w4_getP hw, w_name ?_⟩)))
  with_reducible refine w_seq ?_
  refine w_asg (w_op (w_var rfl (w_call (w_cons (w_var rfl (w_cons (w_cb (w_cons (w_var rfl (w_nil (w_lenL (SqL.of hpa) (w_nil ⟨p, _, rfl, hs, ?_, ?_, fun j G2 k2 st2 j0 j1 => ?_⟩))))))))))))
  · rw [List.length_map]
    omega
  · rw [List.length_map]
    omega
  rw [List.length_map] at j1
  have hjl : j.toNat < ps.length := by omega
  refine w_ixL (SqL.of (k2 _ _ npa hpa)) (v := .str ps[j.toNat]) (atI_of j0 (by rw [List.getElem?_map, List.getElem?_eq_getElem hjl]; rfl)) (w_name ?_)
  have hoa : ascii ps[j.toNat] = true := hasc _ (List.getElem_mem hjl)
  generalize ps[j.toNat] = o at hoa
  with_reducible refine w_seq ?_
  refine w_asg (w_call (w_cons (w_var rfl (w_cons (w_c (w_nil ⟨p, 4, rfl, st2, by decide, by decide, fun kd G3 k3 st3 kd0 kd1 => w_name ?_⟩))))))
  have k23 := k2.trans k3
  have hc3 := k23 _ _ (stm_neD hs hdc) hdc
  have hu3 := k23 _ _ (stm_neD hs hdu) hdu
  have act : ∀ (kn : Str) (hk : kn = Str.ofString "add" ∨ kn = Str.ofString "cut" ∨ kn = Str.ofString "hand") (bt : Addr) (G4 : Hp), ((kn = Str.ofString "add" ∧ getA came o = none) ∨ (kn ≠ Str.ofString "add" ∧ otherB came lim k o = true)) → Same G3 G4 → G4 bt = some (.tup [.str kn, .str o]) → Q (.ref bt) G4 := fun kn hk bt G4 hfit s4 e4 =>
    q bt (.act kn o hk) G4 (fun kd' o' hk' e => by
      injection e with e1 e2
      rw [← e1, ← e2]
      exact hfit) (k23.trans (Same.kp s4)) (st3.same s4) (.tup trivial e4 (.cons (.str _) (.cons (.str _) .nil))) (lay2 (k := 2) (lay_str (show ascii kn = true by rcases hk with h | h | h <;> (rw [h]; exact ascii_of _))) (lay_str hoa)) rfl
  -- seen
  have fin : (tRet (tTup (tCons (tC (.str "seen")) tNil))) { nx := fun _ H' => Q .non H', rt := Q } [some (.ref w), some (.str nm), some (.ref r), some (.ref p), some (.ref dc), some (.ref du), some (.str k), some (.ref pa), some (.str o), some (.int kd)] G3 :=
    w_ret (w_tupV (w_cons (w_c (w_nil ⟨sz (by simp), w_new fun bt G4 f4 s4 e4 => q bt .seen G4 (fun _ _ _ e => nomatch e) (k23.trans (Same.kp s4)) (st3.same s4) (.tup trivial e4 (.cons (.str _) .nil)) (lay1 (k := 2) (lay_str (ascii_of _))) rfl⟩))))
  -- other people
  have mid : (tSeq (tIfS (tAnd (tB (tDIn (tVar 8) (tVar 4))) (tAnd (tB (tDNotIn (tVar 8) (tVar 5))) (tTest (tOp rNe (tVar 8) (tVar 6))))) (tRet (tTup (tCons (tOp (rIxT K) (tTup (tCons (tC (.str "cut")) (tCons (tC (.str "hand")) (tCons (tC (.str "cut")) (tCons (tC (.str "hand")) tNil))))) (tVar 9)) (tCons (tVar 8) tNil)))) tNext)
      (tRet (tTup (tCons (tC (.str "seen")) tNil)))) { nx := fun _ H' => Q .non H', rt := Q } [some (.ref w), some (.str nm), some (.ref r), some (.ref p), some (.ref dc), some (.ref du), some (.str k), some (.ref pa), some (.str o), some (.int kd)] G3 := by
    refine w_seq (w_ifS (w_and (w_B (w_dinW (w_var rfl (w_var rfl ⟨dc, _, rfl, DGet.k (k := Sum.inr o) hc3, w_exb (w_iteb (fun c1 => ?_) fun _ => ite_f (by decide) (w_next fin))⟩))))))
    refine w_and (w_B (w_dnotinW (w_var rfl (w_var rfl ⟨du, _, rfl, DGet.k (k := Sum.inr o) hu3, w_exb (w_iteb (fun c2 => ?_) fun _ => ite_f (by decide) (w_next fin))⟩))))
    refine w_test (w_op (w_var rfl (w_var rfl (w_neS (w_exb (w_ite (fun c3 => ?_) fun _ => w_next fin))))))
    rw [valA, Option.isSome_map] at c1 c2
    have hoth : otherB came lim k o = true := by
      unfold otherB
      rw [c1, show (getA lim o).isNone = true by cases e : getA lim o <;> (rw [e] at c2; first | rfl | exact nomatch c2), decide_eq_true (show o ≠ k from c3)]
      rfl
    refine w_ret (w_tupV (w_cons (w_op (w_tupV (w_cons (w_c (w_cons (w_c (w_cons (w_c (w_cons (w_c (w_nil ⟨sz (by simp), w_new fun T G4 f4 s4 e4 => w_var rfl ?_⟩)))))))))))))
    obtain ⟨kn, hkn, hk⟩ : ∃ kn : Str, ([V.str (Str.ofString "cut"), V.str (Str.ofString "hand"), V.str (Str.ofString "cut"), V.str (Str.ofString "hand")] : List V)[kd.toNat]? = some (.str kn) ∧ (kn = Str.ofString "cut" ∨ kn = Str.ofString "hand") := by
      have h4 : kd.toNat < 4 := by omega
      generalize kd.toNat = i at h4
      match i, h4 with
      | 0, _ => exact ⟨_, rfl, .inl rfl⟩
      | 1, _ => exact ⟨_, rfl, .inr rfl⟩
      | 2, _ => exact ⟨_, rfl, .inl rfl⟩
      | 3, _ => exact ⟨_, rfl, .inr rfl⟩
    exact w_ixT (SqT.of e4) (v := .str kn) (atI_of kd0 hkn) (w_cons (w_var rfl (w_nil ⟨sz (by simp), w_new fun bt G5 f5 s5 e5 => act kn (.inr hk) bt G5 (.inr ⟨by rcases hk with h | h <;> (rw [h]; decide), hoth⟩) (s4.trans s5) e5⟩)))
  with_reducible refine w_seq ?_
  refine w_ifS (w_and (w_test (w_op (w_var rfl (w_c (w_I0 (w_exb (w_ite (fun _ => ?_) fun _ => ite_f (by decide) (w_next mid)))))))))
  refine w_B (w_dnotinW (w_var rfl (w_var rfl ⟨dc, _, rfl, DGet.k (k := Sum.inr o) hc3, w_exb (w_iteb (fun c1 => ?_) fun _ => w_next mid)⟩)))
  rw [valA, Option.isSome_map] at c1
  have hnone : getA came o = none := by
    cases e : getA came o with
    | none => rfl
    | some v =>
      rw [e] at c1
      exact nomatch c1
  exact w_ret (w_tupV (w_cons (w_c (w_cons (w_var rfl (w_nil ⟨sz (by simp), w_new fun bt G4 f4 s4 e4 => act _ (.inl rfl) bt G4 (.inl ⟨rfl, hnone⟩) s4 e4⟩))))))
/-- _law_talk: slots 0:world 1:held 2:stream 3:kind -/
def t__law_talk (K : PySem.W.Frag) (C_Letter : Addr) : TS := (tSeq (tAsg (tCall (spNext K) [] C8.E0 (tCons (tVar 2) (tCons (tC (.int 6)) tNil))) (gName 3))
  (tSeq (tIfS (tTest (tOp qLt (tVar 3) (tC (.int 2)))) (tRet (tTup (tCons (tC (.str "say")) (tCons (tOp qAddS (tC (.str "t")) (tCB qStrInt (tCons (tCall (spNext K) [] C8.E0 (tCons (tVar 2) (tCons (tC (.int 1000)) tNil))) tNil))) tNil)))) tNext)
  (tSeq (tIfS (tTest (tOp rEq (tVar 3) (tC (.int 2)))) (tRet (tTup (tCons (tC (.str "reply")) (tCons (tCall (spTarget9 K) [] C8.E0 (tCons (tVar 0) (tCons (tVar 1) (tCons (tVar 2) tNil)))) (tCons (tC (.str "re")) tNil))))) tNext)
  (tSeq (tIfS (tTest (tOp rEq (tVar 3) (tC (.int 3)))) (tRet (tTup (tCons (tC (.str "mark")) (tCons (tCall (spTarget9 K) [] C8.E0 (tCons (tVar 0) (tCons (tVar 1) (tCons (tVar 2) tNil)))) (tCons (tC (.str "ha")) tNil))))) tNext)
  (tRet (tTup (tCons (tC (.str "seen")) tNil)))))))
theorem l__law_talk (h : spTalk K CL vs H Q E) : vs.length = 3 := by obtain ⟨w, d, p, cs, rfl, _⟩ := h; rfl
theorem r__law_talk (LCL : IsC_Letter K CL) (h : spTalk K CL vs H Q E) : t__law_talk K CL { nx := fun _ H' => Q .non H', rt := Q } (start ["world", "held", "stream", "kind"] vs) H := by
  obtain ⟨w, d, p, cs, rfl, hs, hd, hn, hne, hl, hv, q⟩ := h
  unfold t__law_talk
  refine w_seq (w_asg (w_call (w_cons (w_var rfl (w_cons (w_c (w_nil ⟨p, 6, rfl, hs, by decide, by decide, fun kd G1 k1 st1 _ _ => w_name ?_⟩)))))))
  have hd1 := k1 _ _ (stm_neD hs hd) hd
  have hv5 : ∀ z ∈ cs, 1 ≤ z.2 ∧ z.2 ≤ 5000 := fun z hz => ⟨(hv z hz).1, (hv z hz).2.1⟩
  with_reducible refine w_seq ?_
  refine w_ifS (w_test (w_op (w_var rfl (w_c (w_I0 (w_exb (w_ite (fun _ => ?_) fun _ => w_next ?_)))))))
  · refine w_ret (w_tupV (w_cons (w_c (w_cons (w_op (w_c (w_cb (w_cons (w_call (w_cons (w_var rfl (w_cons (w_c (w_nil ⟨p, 1000, rfl, st1, by decide, by decide, fun j G2 k2 st2 j0 j1 => w_nil (w_strInt j0 (by omega) ?_)⟩))))))))))))))
    have hl : (Str.ofString (toString j)).length ≤ 4 := toString_length_le (by omega) (by decide) (Int.lt_of_lt_of_le j1 (by decide))
    have h1 : (Str.ofString "t").length ≤ 1 := by decide
    refine w_addS (sz (by omega)) (w_nil ⟨sz (by simp), w_new fun bt G3 f3 s3 e3 => ?_⟩)
    exact q bt (.say (Str.ofString "t" ++ Str.ofString (toString j))) G3 (fun _ _ _ e => nomatch e) ((k1.trans k2).trans (Same.kp s3)) (st2.same s3) (.tup trivial e3 (.cons (.str _) (.cons (.str _) .nil))) (lay2 (k := 2) (lay_str (ascii_of _)) (lay_str (ascii_app (ascii_of _) (ascii_of _)))) rfl
  with_reducible refine w_seq ?_
  refine w_ifS (w_test (w_op (w_var rfl (w_c (w_eqI (w_exb (w_ite (fun _ => ?_) fun _ => w_next ?_)))))))
  · refine w_ret (w_tupV (w_cons (w_c (w_cons (w_call (w_cons (w_var rfl (w_cons (w_var rfl (w_cons (w_var rfl (w_nil ⟨w, d, p, cs, rfl, st1, hd1, hn, hne, hl, hv5, fun t z j G2 hz j0 j1 k2 st2 e2 => w_cons (w_c (w_nil ⟨sz (by simp), w_new fun bt G3 f3 s3 e3 => ?_⟩))⟩))))))))))))
    exact q bt (.reply z.1 (1 + j) (Str.ofString "re")) G3 (fun _ _ _ e => nomatch e) ((k1.trans k2).trans (Same.kp s3)) (st2.same s3) (.tup trivial e3 (.cons (.str _) (.cons (.tup trivial (s3 _ _ e2) (.cons (.str _) (.cons (.int _) .nil))) (.cons (.str _) .nil)))) (lay3 (k := 2) (lay_str (ascii_of _)) (lay2 (k := 1) (lay_str (hv z hz).2.2) lay_int) (lay_str (ascii_of _))) rfl
  with_reducible refine w_seq ?_
  refine w_ifS (w_test (w_op (w_var rfl (w_c (w_eqI (w_exb (w_ite (fun _ => ?_) fun _ => w_next ?_)))))))
  · refine w_ret (w_tupV (w_cons (w_c (w_cons (w_call (w_cons (w_var rfl (w_cons (w_var rfl (w_cons (w_var rfl (w_nil ⟨w, d, p, cs, rfl, st1, hd1, hn, hne, hl, hv5, fun t z j G2 hz j0 j1 k2 st2 e2 => w_cons (w_c (w_nil ⟨sz (by simp), w_new fun bt G3 f3 s3 e3 => ?_⟩))⟩))))))))))))
    exact q bt (.mark z.1 (1 + j) (Str.ofString "ha")) G3 (fun _ _ _ e => nomatch e) ((k1.trans k2).trans (Same.kp s3)) (st2.same s3) (.tup trivial e3 (.cons (.str _) (.cons (.tup trivial (s3 _ _ e2) (.cons (.str _) (.cons (.int _) .nil))) (.cons (.str _) .nil)))) (lay3 (k := 2) (lay_str (ascii_of _)) (lay2 (k := 1) (lay_str (hv z hz).2.2) lay_int) (lay_str (ascii_of _))) rfl
  with_reducible refine w_ret ?_
  exact (w_tupV (w_cons (w_c (w_nil ⟨sz (by simp), w_new fun bt G4 f4 s4 e4 => q bt .seen G4 (fun _ _ _ e => nomatch e) (k1.trans (Same.kp s4)) (st1.same s4) (.tup trivial e4 (.cons (.str _) .nil)) (lay1 (k := 2) (lay_str (ascii_of _))) rfl⟩))))
/-- _law_step: slots 0:world 1:stream 2:people 3:name 4:held 5:kind 6:other 7:counts 8:author 9:number 10:roll -/
def t__law_step (K : PySem.W.Frag) (C_Letter : Addr) : TS := (tSeq (tAsg (tDGet (tVar 0) (tC (.str "people"))) (gName 2))
  (tSeq (tAsg (tOp (rIxL K) (tVar 2) (tCall (spNext K) [] C8.E0 (tCons (tVar 1) (tCons (tCB (qLenSeq K) (tCons (tVar 2) tNil)) tNil)))) (gName 3))
  (tSeq (tAsg (tDGet (tDGet (tVar 0) (tC (.str "held"))) (tVar 3)) (gName 4))
  (tSeq (tAsg (tCall (spNext K) [] C8.E0 (tCons (tVar 1) (tCons (tC (.int 10)) tNil))) (gName 5))
  (tSeq (tIfS (tOr (tTest (tOp qLt (tVar 5) (tC (.int 5)))) (tTest (tOp rEq (tCB Wp.qLenD (tCons (tVar 4) tNil)) (tC (.int 0))))) (tSeq (tAsg (tOp (rIxL K) (tVar 2) (tCall (spNext K) [] C8.E0 (tCons (tVar 1) (tCons (tCB (qLenSeq K) (tCons (tVar 2) tNil)) tNil)))) (gName 6))
  (tSeq (tAsg (tDGet (tDGet (tVar 0) (tC (.str "held"))) (tVar 6)) (gName 7))
  (tSeq (tIfS (tAnd (tTest (tOp qGt (tCB Wp.qLenD (tCons (tVar 7) tNil)) (tC (.int 0)))) (tTest (tOp rEq (tCall (spNext K) [] C8.E0 (tCons (tVar 1) (tCons (tC (.int 3)) tNil))) (tC (.int 0))))) (tSeq (tAsg (tCall (spTarget9 K) [] C8.E0 (tCons (tVar 0) (tCons (tVar 7) (tCons (tVar 1) tNil)))) (gTup K 2 (gCons (gName 8) (gCons (gName 9) gNil))))
  (tAsg (tCB (Wp.qDictP K) (tCons (tFld K (tOp (rIxL K) (tDGet (tDGet (tVar 0) (tC (.str "letters"))) (tVar 8)) (tOp qSub (tVar 9) (tC (.int 1)))) "seen") tNil)) (gName 7))) tNext)
  (tSeq (tIfS (tTest (tOp qGt (tCB Wp.qLenD (tCons (tVar 7) tNil)) (tC (.int 0)))) (tDrop (tCall (spLearn K C_Letter) [] C8.E0 (tCons (tVar 0) (tCons (tVar 3) (tCons (tVar 7) tNil))))) tNext)
  (tRet (tC .non)))))) tNext)
  (tSeq (tAsg (tCall (spLawRoll K C_Letter) [] C8.E0 (tCons (tVar 0) (tCons (tVar 4) tNil))) (gName 10))
  (tSeq (tIfS (tOr (tB (tDNotIn (tVar 3) (tOp (rIxL K) (tVar 10) (tC (.int 0))))) (tB (tDIn (tVar 3) (tOp (rIxL K) (tVar 10) (tC (.int 1)))))) (tRet (tC .non)) tNext)
  (tSeq (tIfS (tAnd (tTest (tOp rEq (tVar 3) (tOp (rIxL K) (tVar 10) (tC (.int 2))))) (tTest (tOp qGt (tVar 5) (tC (.int 6))))) (tRet (tCall (spWrite K C_Letter) [] C8.E0 (tCons (tVar 0) (tCons (tVar 3) (tCons (tCall (spAct9 K C_Letter) [] C8.E0 (tCons (tVar 0) (tCons (tVar 3) (tCons (tVar 10) (tCons (tVar 1) tNil))))) tNil))))) tNext)
  (tRet (tCall (spWrite K C_Letter) [] C8.E0 (tCons (tVar 0) (tCons (tVar 3) (tCons (tCall (spTalk K C_Letter) [] C8.E0 (tCons (tVar 0) (tCons (tVar 4) (tCons (tVar 1) tNil)))) tNil)))))))))))))
theorem l__law_step (h : spStep K CL vs H Q E) : vs.length = 2 := by obtain ⟨w, pa, wl, wh, p, f, t, ps, ms, y0, R, Hs, n, rfl, _⟩ := h; rfl
theorem r__law_step (LCL : IsC_Letter K CL) (h : spStep K CL vs H Q E) : t__law_step K CL { nx := fun _ H' => Q .non H', rt := Q } (start ["world", "stream", "people", "name", "held", "kind", "other", "counts", "author", "number", "roll"] vs) H := by
  obtain ⟨w, pa, wl, wh, p, f, t, ps, ms, y0, R, Hs, n, rfl, hW, hI, hn, hp1, hp2, hasc, hF, hs, q⟩ := h
  unfold t__law_step
  refine w_seq (w_asg (w_dget (w_var rfl (w_c ⟨w, .ref pa, rfl, w4_getP hW.hw, w_name ?_⟩))))
  -- who
  with_reducible refine w_seq ?_
  refine w_asg (w_op (w_var rfl (w_call (w_cons (w_var rfl (w_cons (w_cb (w_cons (w_var rfl (w_nil (w_lenL (SqL.of hW.hpa) (w_nil ⟨p, _, rfl, hs, ?_, ?_, fun j G1 k1 st1 j0 j1 => ?_⟩))))))))))))
  · rw [List.length_map]
    omega
  · rw [List.length_map]
    omega
  rw [List.length_map] at j1
  have hjl : j.toNat < ps.length := by omega
  have hW1 := hW.stm k1 hs
  refine w_ixL (SqL.of hW1.hpa) (v := .str ps[j.toNat]) (atI_of j0 (by rw [List.getElem?_map, List.getElem?_eq_getElem hjl]; rfl)) (w_name ?_)
  obtain ⟨h, hh, hhn⟩ := hI.person (List.getElem_mem hjl)
  rw [← hhn]
  have hd := hI.hd h hh
  obtain ⟨hhd, hd1, hd2, hd3⟩ := hW1.hs h hh
  have hcl := hI.clen hd.toCsOk
  with_reducible refine w_seq ?_
  refine w_asg (w_dget (w_dget (w_var rfl (w_c ⟨w, .ref wh, rfl, w4_getH hW1.hw, w_var rfl ⟨wh, .ref h.d, rfl, valA_some V.ref (hd_get hI.hnd hh) ▸ DGet.k (k := Sum.inr h.nm) hW1.hh, w_name ?_⟩⟩))))
  with_reducible refine w_seq ?_
  refine w_asg (w_call (w_cons (w_var rfl (w_cons (w_c (w_nil ⟨p, 10, rfl, st1, by decide, by decide, fun kd G2 k2 st2 kd0 kd1 => w_name ?_⟩))))))
  have hW2 := hW1.stm k2 st1
  have k02 := k1.trans k2
  have hhd2 := (hW2.hs h hh).1
  have hlen5 : ∀ x ∈ R, x.ls.length ≤ 5000 := fun x hx => by have := hI.len x hx; omega
  have row5 : ∀ a, (rowsF R a).length ≤ 5000 := fun a => by have := hI.row a; omega
  have nFr : ∀ G, Kp p H G → W3Fr wl wh p R H G := fun G k b o n1 _ _ _ e => k b o n1 e
  have olds : ∀ y ∈ R, H y.l = none ∨ ∃ z ∈ R, z.l = y.l := fun y hy => .inr ⟨y, hy, rfl⟩
  have stay : ∀ G, Kp p H G → Stm G p → W3At CL G w pa wl wh f ps R Hs → Q .non G := fun G k st hG => q .non R Hs G (nFr G k) st hG hI.more olds (.inl ⟨rfl, rfl, .inl rfl⟩)
  with_reducible refine w_seq ?_
  -- learning
  have learn : ∀ (D : Ends), D.rt = Q → (tSeq (tAsg (tOp (rIxL K) (tVar 2) (tCall (spNext K) [] C8.E0 (tCons (tVar 1) (tCons (tCB (qLenSeq K) (tCons (tVar 2) tNil)) tNil)))) (gName 6))
  (tSeq (tAsg (tDGet (tDGet (tVar 0) (tC (.str "held"))) (tVar 6)) (gName 7))
  (tSeq (tIfS (tAnd (tTest (tOp qGt (tCB Wp.qLenD (tCons (tVar 7) tNil)) (tC (.int 0)))) (tTest (tOp rEq (tCall (spNext K) [] C8.E0 (tCons (tVar 1) (tCons (tC (.int 3)) tNil))) (tC (.int 0))))) (tSeq (tAsg (tCall (spTarget9 K) [] C8.E0 (tCons (tVar 0) (tCons (tVar 7) (tCons (tVar 1) tNil)))) (gTup K 2 (gCons (gName 8) (gCons (gName 9) gNil))))
  (tAsg (tCB (Wp.qDictP K) (tCons (tFld K (tOp (rIxL K) (tDGet (tDGet (tVar 0) (tC (.str "letters"))) (tVar 8)) (tOp qSub (tVar 9) (tC (.int 1)))) "seen") tNil)) (gName 7))) tNext)
  (tSeq (tIfS (tTest (tOp qGt (tCB Wp.qLenD (tCons (tVar 7) tNil)) (tC (.int 0)))) (tDrop (tCall (spLearn K CL) [] C8.E0 (tCons (tVar 0) (tCons (tVar 3) (tCons (tVar 7) tNil))))) tNext)
  (tRet (tC .non)))))) D [some (.ref w), some (.ref p), some (.ref pa), some (.str h.nm), some (.ref h.d), some (.int kd), none, none, none, none, none] G2 := by
    intro D hD
    refine w_seq (w_asg (w_op (w_var rfl (w_call (w_cons (w_var rfl (w_cons (w_cb (w_cons (w_var rfl (w_nil (w_lenL (SqL.of hW2.hpa) (w_nil ⟨p, _, rfl, st2, ?_, ?_, fun i G3 k3 st3 i0 i1 => ?_⟩)))))))))))))
    · rw [List.length_map]
      omega
    · rw [List.length_map]
      omega
    rw [List.length_map] at i1
    have hil : i.toNat < ps.length := by omega
    have hW3 := hW2.stm k3 st2
    refine w_ixL (SqL.of hW3.hpa) (v := .str ps[i.toNat]) (atI_of i0 (by rw [List.getElem?_map, List.getElem?_eq_getElem hil]; rfl)) (w_name ?_)
    obtain ⟨k, hk, hkn⟩ := hI.person (List.getElem_mem hil)
    rw [← hkn]
    have hkd := hI.hd k hk
    obtain ⟨hkk, kd1', kd2', kd3'⟩ := hW3.hs k hk
    have k03 := k02.trans k3
    have hkl := hI.clen hkd.toCsOk
    with_reducible refine w_seq ?_
    refine w_asg (w_dget (w_dget (w_var rfl (w_c ⟨w, .ref wh, rfl, w4_getH hW3.hw, w_var rfl ⟨wh, .ref k.d, rfl, valA_some V.ref (hd_get hI.hnd hk) ▸ DGet.k (k := Sum.inr k.nm) hW3.hh, w_name ?_⟩⟩))))
    with_reducible refine w_seq ?_
    refine w_ifCut (Mid := fun σ' G => ∃ (u8 u9 : Option V) (c : Addr) (cc : List (Str × Int)), σ' = [some (.ref w), some (.ref p), some (.ref pa), some (.str h.nm), some (.ref h.d), some (.int kd), some (.str k.nm), some (.ref c), u8, u9, none] ∧ Kp p H G ∧ Stm G p ∧ W3At CL G w pa wl wh f ps R Hs ∧ G c = some (.dK (asV V.int cc)) ∧ c ≠ w ∧ c ≠ wl ∧ c ≠ wh ∧ CsOk (rowsF R) f cc ∧ Src R Hs cc) ?_ ?_
    rotate_left
    · intro Rk hRk
      refine w_ifS (w_and (w_test (w_op (w_cb (w_cons (w_var rfl (w_nil ⟨k.d, _, rfl, hkk, w_c (w_I0 (w_exb (w_ite (fun c1 => ?_) fun _ => ite_f (by decide) (w_next (hRk _ _ ⟨_, _, k.d, k.cs, rfl, k03, st3, hW3, hkk, kd1', kd2', kd3', hkd.toCsOk, k, hk, .inl rfl⟩)))))⟩)))))))
      rw [asV_len] at c1
      have hkne : k.cs ≠ [] := fun e => by
        rw [e] at c1
        exact absurd c1 (by decide)
      refine w_test (w_op (w_call (w_cons (w_var rfl (w_cons (w_c (w_nil ⟨p, 3, rfl, st3, by decide, by decide, fun v4 G4 k4 st4 _ _ => w_c (w_eqI (w_exb (w_ite (fun _ => ?_) fun _ => w_next ?_)))⟩)))))))
      rotate_left
      · have hW4 := hW3.stm k4 st3
        exact hRk _ _ ⟨_, _, k.d, k.cs, rfl, k03.trans k4, st4, hW4, (hW4.hs k hk).1, kd1', kd2', kd3', hkd.toCsOk, k, hk, .inl rfl⟩
      have hW4 := hW3.stm k4 st3
      refine w_seq (w_asg (w_call (w_cons (w_var rfl (w_cons (w_var rfl (w_cons (w_var rfl (w_nil ⟨w, k.d, p, k.cs, rfl, st4, (hW4.hs k hk).1, hkd.nd, hkne, by omega, fun z hz => ⟨hkd.pos z hz, by have := hkd.hi z hz; have := row5 z.1; omega⟩, fun t z j G5 hz j0 j1 k5 st5 e5 => ⟨t, _, rfl, SqT.of e5, rfl, gc (w_name (gc (w_name (gn ?_))))⟩⟩))))))))) 
      have hW5 := hW4.stm k5 st4
      have z2 := hkd.hi z hz
      have hne : rowsF R z.1 ≠ [] := hkd.toCsOk.key (List.mem_map_of_mem hz)
      obtain ⟨xr, hxr, hxn⟩ := row_of hne
      have hrx : rowsF R z.1 = xr.ls := by rw [← hxn]; exact rowsF_mem hI.nd hxr
      have hlt : j.toNat < xr.ls.length := by rw [← hrx]; omega
      have hy := List.getElem?_eq_getElem hlt
      have hgr : getA (rowV R) z.1 = some xr.l := by rw [← hxn]; exact row_get hI.nd hxr
      obtain ⟨⟨dx, dd, sv, bv, hox, _, _, hsv, _⟩, hwf, _⟩ := hW5.ok xr hxr _ (List.getElem_mem hlt)
      have hym : xr.ls[j.toNat] ∈ rowsF R z.1 := by rw [hrx]; exact List.getElem_mem hlt
      have hyc := hI.cs z.1 _ hym
      have hyr : (rowsF R z.1)[j.toNat]? = some xr.ls[j.toNat] := by rw [hrx]; exact hy
      generalize xr.ls[j.toNat] = y at hy hox hsv hwf hyc hyr
      obtain ⟨ts, Ts, rfl, hts, hTs⟩ := hsv
      have hTl : Ts.length = (asV V.int y.2.ps).length := by rw [hTs.len, List.length_map, asV_len]
      have hyl := hwf.len
      refine w_asg (w_cb (w_cons (w_fld (w_op (w_dget (w_dget (w_var rfl (w_c ⟨w, .ref wl, rfl, w4_getL hW5.hw, w_var rfl ⟨wl, .ref xr.l, rfl, valA_some V.ref hgr ▸ DGet.k (k := Sum.inr z.1) hW5.hl, w_op (w_var rfl (w_c (w_I0 (w_ixL (v := .ref y.1) (SqL.of (hW5.ls xr hxr)) (atI_of (by omega) ?_) ⟨_, CL, dx, _, _, rfl, hox, LCL.cl, LCL.n_seen, lfs_seen, w_nil (w_dictP hts hTl (by rw [asV_len]; omega) (fun i p hp => sv_pairs hTs i p hp) fun c G6 f6 s6 e6 => w_name ?_)⟩))))⟩⟩))))))) )
      · rw [show (1 + j - 1).toNat = j.toNat by omega, List.getElem?_map, hy]
        rfl
      · have hm := merge_as y.2.ps [] hwf.nd
        rw [show mergeK [] (asV V.int y.2.ps) = asV V.int y.2.ps from hm] at e6
        have hW6 := hW5.same s6
        exact hRk _ _ ⟨_, _, c, y.2.ps, rfl, ((k03.trans k4).trans k5).trans (Same.kp s6), st5.same s6, hW6, e6, (ne_of_none hW5.hw f6).symm, (ne_of_none hW5.hl f6).symm, (ne_of_none hW5.hh f6).symm, hyc.1, k, hk, .inr ⟨z, hz, j.toNat, y, by omega, hyr, rfl⟩⟩
    rintro σ' G ⟨u8, u9, c, cc, rfl, kG, stG, hG, hc, nc1, nc2, nc3, hcc, hsrc⟩
    have fin : ∀ G', Q .non G' → (tRet (tC .non)) D [some (.ref w), some (.ref p), some (.ref pa), some (.str h.nm), some (.ref h.d), some (.int kd), some (.str k.nm), some (.ref c), u8, u9, none] G' := fun G' hq => w_ret (w_c (by rw [hD]; exact hq))
    with_reducible refine w_seq ?_
    refine w_ifS (w_test (w_op (w_cb (w_cons (w_var rfl (w_nil ⟨c, _, rfl, hc, w_c (w_I0 (w_exb (w_ite (fun c1 => ?_) fun _ => w_next (fin G (stay G kG stG hG)))))⟩)))))) 
    rw [asV_len] at c1
    have hcne : cc ≠ [] := fun e => by
      rw [e] at c1
      exact absurd c1 (by decide)
    refine w_drop (w_call (w_cons (w_var rfl (w_cons (w_var rfl (w_cons (w_var rfl (w_nil ⟨w, pa, wl, wh, c, f, h.nm, t, ps, ms, y0, R, Hs, n, h, cc, rfl, hG, hI, hn, hp2, hF, hh, rfl, hc, nc1, nc2, nc3, hcc, hcne, fun Hs' G' kx hG' hI' hL => fin G' ?_⟩))))))))
    obtain ⟨x1, y1, e1, _⟩ := id stG
    exact q .non R Hs' G' (fun b o n1 n2 n3 _ e => kx b o n3 (kG b o n1 e)) (by
      obtain ⟨a1, b1, e1, e2⟩ := stG
      exact ⟨a1, b1, kx _ _ (fun z => by rw [z, hG.hh] at e1; exact nomatch e1) e1, e2⟩) hG' hI'.more olds (.inl ⟨rfl, rfl, .inr ⟨h, hh, cc, hsrc, hL⟩⟩)
  refine w_ifS (w_or (w_test (w_op (w_var rfl (w_c (w_I0 (w_exb (w_ite (fun _ => iteT_ (learn _ rfl)) fun _ => ?_)))))))) 
  refine w_test (w_op (w_cb (w_cons (w_var rfl (w_nil ⟨h.d, _, rfl, hhd2, w_c (w_eqI (w_exb (w_ite (fun _ => learn _ rfl) fun c1 => w_next ?_)))⟩)))))
  rw [asV_len] at c1
  have hne : h.cs ≠ [] := fun e => by
    rw [e] at c1
    exact c1 rfl
  clear learn
  have hcsum : csum h.cs ≤ 5000 := by
    have h1 := hI.csum hd.toCsOk
    have h2 : ps.length * n ≤ 60 * 80 := Nat.mul_le_mul hp2 hn
    omega
  -- the roll
  with_reducible refine w_seq ?_
  refine w_asg (w_call (w_cons (w_var rfl (w_cons (w_var rfl (w_nil ⟨w, h.d, pa, wl, wh, f, R, h.cs, y0, t, ms, rfl, hW2.wo hlen5, hhd2, fun z hz => by have := hd.pos z hz; omega, hd.nd, by omega, hcsum, hF.r0, hF.b, hF.nd, by have := hF.len; omega, fun pp dcm dcu W G3 s3 f3c f3u ncu e3 ec3 eu3 hWk hWok => w_name ?_⟩))))))
  rw [liter_iter (fun a => (rowC_W hI.inv.toRowsW h.cs).inc a)] at hWk
  have hWk : W = walkR R f ms y0 h.cs := hWk
  have hW3 := hW2.same s3
  have st3 := st2.same s3
  have k03 := k02.trans (Same.kp s3)
  have hhd3 := s3 _ _ hhd2
  with_reducible refine w_seq ?_
  refine w_ifS (w_or (w_B (w_dnotinW (w_var rfl (w_op (w_var rfl (w_c (w_ixL (v := .ref dcm) (SqL.of e3) (atI_nat (j := 0) rfl) ⟨dcm, _, rfl, DGet.k (k := Sum.inr h.nm) ec3, w_exb (w_iteb (fun _ => iteT_ (w_ret (w_c (stay G3 k03 st3 hW3)))) fun c2 => ?_)⟩))))))))
  refine w_B (w_dinW (w_var rfl (w_op (w_var rfl (w_c (w_ixL (v := .ref dcu) (SqL.of e3) (atI_nat (j := 1) rfl) ⟨dcu, _, rfl, DGet.k (k := Sum.inr h.nm) eu3, w_exb (w_iteb (fun _ => w_ret (w_c (stay G3 k03 st3 hW3))) fun c3 => w_next ?_)⟩))))))
  rw [valA, Option.isSome_map] at c2 c3
  have hin : (getA (walkR R f ms y0 h.cs).came h.nm).isSome = true := by
    rw [← hWk]
    cases e : getA W.came h.nm with
    | none =>
      rw [e] at c2
      exact nomatch c2
    | some v => rfl
  have hout : getA (walkR R f ms y0 h.cs).lim h.nm = none := by
    rw [← hWk]
    cases e : getA W.lim h.nm with
    | none => rfl
    | some v =>
      rw [e] at c3
      exact nomatch c3
  have done : ∀ (G4 : Hp) (bt : Addr) (B : Bb), (NoAct B ∨ (h.nm = (walkR R f ms y0 h.cs).k ∧ ActFit (walkR R f ms y0 h.cs).came (walkR R f ms y0 h.cs).lim (walkR R f ms y0 h.cs).k B)) → Kp p G3 G4 → Stm G4 p → Dn Any G4 (.ref bt) B.toD → Lay 3 B.toD → plainB B.toD = true → spWrite K CL [.ref w, .str h.nm, .ref bt] G4 Q C8.E0 := by
    intro G4 bt B hB k4 st4 dB lB pB
    have hW4 := hW3.stm k4 st3
    have k04 := k03.trans k4
    refine ⟨w, pa, wl, wh, bt, f, h.nm, ps, R, Hs, n, h, B, rfl, hW4, hI, hn, hp2, hasc, hh, rfl, hne, dB, lB, pB, fun x L R' Hs' G5 kx hW' hI' hwr hnew => q (.ref x) R' Hs' G5 (fun b o n1 n2 n3 n4 e => kx b o n2 n3 n4 (k04 b o n1 e)) ?_ hW' hI' (fun y hy => ?_) (.inr ⟨h, hh, x, L, B, rfl, hne, hwr, hin, hout, hB⟩)⟩
    · obtain ⟨a1, b1, e1, e2⟩ := id st4
      exact ⟨a1, b1, kx _ _ (stm_neD st4 hW4.hl).symm (stm_neD st4 hW4.hh).symm (fun y hy => (stm_ne st4 (hW4.ls y hy)).symm) e1, e2⟩
    · rcases hnew y hy with h1 | h1
      · refine .inl ?_
        cases e : H y.l with
        | none => rfl
        | some o =>
          by_cases z : y.l = p
          · obtain ⟨a1, b1, e1, _⟩ := st4
            rw [z, e1] at h1
            exact nomatch h1
          · rw [k04 _ _ z e] at h1
            exact nomatch h1
      · exact .inr h1
  have talk : (tRet (tCall (spWrite K CL) [] C8.E0 (tCons (tVar 0) (tCons (tVar 3) (tCons (tCall (spTalk K CL) [] C8.E0 (tCons (tVar 0) (tCons (tVar 4) (tCons (tVar 1) tNil)))) tNil))))) { nx := fun _ H' => Q .non H', rt := Q } [some (.ref w), some (.ref p), some (.ref pa), some (.str h.nm), some (.ref h.d), some (.int kd), none, none, none, none, some (.ref pp)] G3 :=
    w_ret (w_call (w_cons (w_var rfl (w_cons (w_var rfl (w_cons (w_call (w_cons (w_var rfl (w_cons (w_var rfl (w_cons (w_var rfl (w_nil ⟨w, h.d, p, h.cs, rfl, st3, hhd3, hd.nd, hne, by omega, fun z hz => ⟨hd.pos z hz, by have := hd.hi z hz; have := row5 z.1; omega, hasc _ (hI.keys hd.toCsOk (List.mem_map_of_mem hz))⟩, fun bt B G4 hB k4 st4 dB lB pB => w_nil (done G4 bt B (.inl hB) k4 st4 dB lB pB)⟩))))))))))))))
  -- an act
  with_reducible refine w_seq ?_
  refine w_ifS (w_and (w_test (w_op (w_var rfl (w_op (w_var rfl (w_c (w_ixL (v := .str W.k) (SqL.of e3) (atI_nat (j := 2) rfl) (w_eqS (w_exb (w_ite (fun c4 => ?_) fun _ => ite_f (by decide) (w_next talk))))))))))))
  refine w_test (w_op (w_var rfl (w_c (w_I0 (w_exb (w_ite (fun _ => ?_) fun _ => w_next talk))))))
  refine w_ret (w_call (w_cons (w_var rfl (w_cons (w_var rfl (w_cons (w_call (w_cons (w_var rfl (w_cons (w_var rfl (w_cons (w_var rfl (w_cons (w_var rfl (w_nil ⟨w, pa, wl, wh, pp, dcm, dcu, p, f, h.nm, W.k, ps, W.came, W.lim, rfl, st3, hW3.hw, hW3.hpa, hp1, hp2, hasc, e3, ec3, eu3, fun bt B G4 hB k4 st4 dB lB pB => w_nil (done G4 bt B (.inr ⟨?_, ?_⟩) k4 st4 dB lB pB)⟩))))))))))))))))
  · rw [← hWk]
    exact c4
  · rw [← hWk]
    exact hB
end

/-! ### a new world -/
theorem rows1 {f : Str} {l x : Addr} {mm : List Str} (a : Str) : rowsF [⟨f, l, [(x, ltFd f mm)]⟩] a = if f = a then [(x, ltFd f mm)] else [] := by
  unfold rowsF
  rw [List.find?_cons]
  by_cases e : f = a
  · rw [decide_eq_true (show (⟨f, l, [(x, ltFd f mm)]⟩ : Rw).nm = a from e), if_pos e]
    rfl
  · rw [decide_eq_false (show ¬ (⟨f, l, [(x, ltFd f mm)]⟩ : Rw).nm = a from e), if_neg e]
    rfl
theorem gC_one (f b : Str) : gC [(f, 1)] b = if f = b then 1 else 0 := gC_cons (f, 1) [] b
theorem rows1_inv {f : Str} {l x : Addr} {mm : List Str} : RowsInv (rowsF [⟨f, l, [(x, ltFd f mm)]⟩]) := by
  have hm : ∀ a y, y ∈ rowsF [⟨f, l, [(x, ltFd f mm)]⟩] a → f = a ∧ y = (x, ltFd f mm) := fun a y hy => by
    rw [rows1] at hy
    by_cases e : f = a
    · rw [if_pos e] at hy
      exact ⟨e, List.mem_singleton.mp hy⟩
    · rw [if_neg e] at hy
      exact nomatch hy
  have hg : ∀ a i y, (rowsF [⟨f, l, [(x, ltFd f mm)]⟩] a)[i]? = some y → i = 0 := fun a i y hy => by
    rw [rows1] at hy
    split at hy
    · have := (List.getElem?_eq_some_iff.mp hy).1
      rw [List.length_singleton] at this
      omega
    · simp at hy
  refine ⟨⟨fun a i y hy => ?_, fun a i j y z hij h1 h2 => ?_, fun a b z hab hz => ?_⟩, fun a b z hab hz => ?_⟩
  · have h0 := hg a i y hy
    obtain ⟨e, hy'⟩ := hm a y (List.mem_of_getElem? hy)
    rw [hy', h0, ← e]
    exact ⟨rfl, rfl⟩
  · have := hg a j z h2
    omega
  · obtain ⟨e, rfl⟩ := hm a z hz
    have hb : ¬ f = b := fun t => hab (e.symm.trans t)
    rw [rows1, if_neg hb]
    exact fun i y hy => by simp at hy
  · obtain ⟨e, rfl⟩ := hm a z hz
    have hb : ¬ f = b := fun t => hab (e.symm.trans t)
    rw [rows1, if_neg hb, gC_cnt]
    show gC [(f, 1)] b ≤ _
    rw [gC_one, if_neg hb]
    exact Int.le_refl _
def hds0 (f : Str) (ds : List (Str × Addr)) : List Hd := ds.map fun z => ⟨z.1, z.2, held0 f z.1⟩
theorem hds0_v (f : Str) (ds : List (Str × Addr)) : hdV (hds0 f ds) = ds := by
  unfold hdV hds0
  rw [List.map_map]
  conv => rhs; rw [← List.map_id ds]
  exact List.map_congr_left fun z _ => rfl
theorem w3_start {CL : Addr} {H : Hp} {w pa wl wh l x : Addr} {f : Str} {ps mm : List Str} {ds : List (Str × Addr)} (hf : f ∈ ps) (hpn : ps.Nodup) (hasc : ∀ z ∈ ps, ascii z = true) (hpa : H pa = some (.lst (ps.map V.str))) (npl : l ≠ pa) (nw1 : w ≠ wl) (nw2 : w ≠ wh) (nlh : wl ≠ wh) (hw : H w = some (.dK (w4 pa f wl wh))) (hl : H wl = some (.dK (asV V.ref [(f, l)]))) (hll : H l = some (.lst [.ref x]))
    (hh : H wh = some (.dK (asV V.ref ds))) (hds : ds.map (·.1) = ps) (hdz : ∀ z ∈ ds, H z.2 = some (.dK (asV V.int (held0 f z.1))) ∧ z.2 ≠ w ∧ z.2 ≠ wl ∧ z.2 ≠ wh) (hx : LtAt (fun a => a ≠ w ∧ a ≠ wl ∧ a ≠ wh) CL H x (ltFd f mm)) (hwf : Wf (ltFd f mm)) (hmn : (f :: mm).Nodup) (hml : mm.length ≤ 60) (hmm : ∀ z ∈ mm, z ∈ ps) :
    W3At CL H w pa wl wh f ps [⟨f, l, [(x, ltFd f mm)]⟩] (hds0 f ds) ∧ W3Inv f ps [⟨f, l, [(x, ltFd f mm)]⟩] (hds0 f ds) 1 ∧ Fd [⟨f, l, [(x, ltFd f mm)]⟩] f (Str.ofString "room") mm (x, ltFd f mm) := by
  have h1 : CsOk (rowsF [⟨f, l, [(x, ltFd f mm)]⟩]) f [(f, 1)] := ⟨List.nodup_cons.mpr ⟨(fun z => nomatch z), List.nodup_nil⟩, fun z hz => by rw [List.mem_singleton.mp hz]; exact Int.le_refl _, fun z hz => by
    rw [List.mem_singleton.mp hz, rows1, if_pos rfl]
    exact Int.le_refl _, fun _ => by rw [gC_one, if_pos rfl]; exact Int.le_refl _⟩
  refine ⟨⟨hw, hpa, hl, fun x' hx' => ?_, fun x' hx' y hy => ?_, by rw [hds0_v]; exact hh, fun h hh' => ?_, nlh, ⟨nw1, nw2⟩, fun x' hx' => ?_⟩, ⟨List.nodup_cons.mpr ⟨fun z => (nomatch z), List.nodup_nil⟩, fun a ha b hb _ => by rw [List.mem_singleton.mp ha, List.mem_singleton.mp hb], rows1_inv, fun a y hy => ?_, fun a ha => ?_, fun a ha => ?_, fun a ha => ?_, hpn, ?_, fun h hh' => ?_⟩, ⟨?_, rfl, hmn, hml, fun z hz => ?_⟩⟩
  · rw [List.mem_singleton.mp hx']
    exact hll
  · rw [List.mem_singleton.mp hx'] at hy
    rw [List.mem_singleton.mp hy]
    obtain ⟨dxx, dd, sv, bv, h1, h2, h3, h4⟩ := hx
    exact ⟨⟨dxx, dd, sv, bv, h1, h2.2, h3, h4⟩, hwf, foundB mm, rfl⟩
  · obtain ⟨z, hz, rfl⟩ := List.mem_map.mp hh'
    exact hdz z hz
  · rw [List.mem_singleton.mp hx']
    exact npl
  · rw [rows1] at hy
    by_cases e : f = a
    · rw [if_pos e] at hy
      rw [List.mem_singleton.mp hy]
      exact ⟨h1, fun z => nomatch z⟩
    · rw [if_neg e] at hy
      exact nomatch hy
  · rw [List.mem_singleton.mp ha]
    exact fun z => nomatch z
  · rw [List.mem_singleton.mp ha]
    exact Nat.le_refl _
  · rw [List.mem_singleton.mp ha]
    exact hf
  · unfold hds0
    rw [List.map_map]
    exact hds
  · obtain ⟨z, hz, rfl⟩ := List.mem_map.mp hh'
    show HdOk _ f z.1 (held0 f z.1)
    unfold held0
    by_cases e : z.1 = f
    · rw [if_pos e, e]
      refine ⟨h1, ?_, fun y hy b => ?_⟩
      · rw [gC_one, if_pos rfl, rows1, if_pos rfl]
        rfl
      · rw [rows1, if_pos rfl] at hy
        have hy : (x, ltFd f mm) = y := Option.some.inj hy
        rw [← hy, gC_cnt]
        exact Int.le_refl _
    · rw [if_neg e]
      have hr : rowsF [⟨f, l, [(x, ltFd f mm)]⟩] z.1 = [] := by rw [rows1, if_neg fun t => e t.symm]
      refine ⟨⟨List.nodup_nil, fun z hz => (nomatch hz), fun z hz => (nomatch hz), fun z => absurd rfl z⟩, ?_, fun y hy => ?_⟩
      · rw [hr]
        rfl
      · rw [hr] at hy
        exact nomatch hy
  · rw [rows1, if_pos rfl]
    rfl
  · rcases List.mem_cons.mp hz with rfl | hz
    · exact hasc _ hf
    · exact hasc z (hmm z hz)
theorem Stepped.fd {R R' : List Rw} {f t : Str} {ms : List Str} {y0 : Addr × Lt} {Hs Hs' : List Hd} {v : V} (h : Stepped R f ms y0 Hs v R' Hs') (hF : Fd R f t ms y0) : Fd R' f t ms y0 := by
  rcases h with ⟨_, e, _⟩ | ⟨h, _, x, L, B, _, _, hwr, _⟩
  · rw [e]
    exact hF
  · refine ⟨?_, hF.b, hF.nd, hF.len, hF.asc⟩
    rw [hwr.rows]
    show (if f = h.nm then rowsF R h.nm ++ [(x, L)] else rowsF R f)[0]? = some y0
    have h0 := hF.r0
    split
    · rename_i e
      rw [e] at h0
      rw [List.getElem?_append_left (List.getElem?_eq_some_iff.mp h0).1]
      exact h0
    · exact h0

/-! ### lists of data in their order -/
def leD (a b : PyData) : Bool := PySem.W.dataLe false (fun d : PyData => d) a b
def srtD (ds : List PyData) : List PyData := ds.mergeSort leD
theorem leD_total : PySem.W.TotalLe leD := PySem.W.sortLe_total (PyProof.Rows.listOrd PyProof.Rows.itemOrd) false PySem.W.keyToks
theorem leD_eq (a b : PyData) : leD a b = !PySem.W.dataLt b a := rfl
theorem srtW_data (bs : List (V × PyData)) : (srtW bs).map (·.2) = srtD (bs.map (·.2)) := PySem.W.sort_maps _ fun _ _ _ _ => rfl
theorem srtW_perm (bs : List (V × PyData)) : (srtW bs).Perm bs := List.mergeSort_perm _ _
theorem leD_anti {a b : PyData} (hal : PySem.W.alike a b = true) (ha : plainB a = true) (hb : plainB b = true) (h1 : leD a b = true) (h2 : leD b a = true) : a = b := by
  rw [leD_eq, Bool.not_eq_true'] at h1 h2
  have ht := PyProof.Rows.lex_total (O := PyProof.Rows.itemOrd) _ _ h2 h1
  refine eqv_plain ha hb ?_
  cases e : PyData.eqv a b with
  | true => rfl
  | false =>
    have h3 := (PySem.W.toks_eqv a b hal).2 e [.inl 0] [.inl 1]
    rw [ht, PySem.W.lex_pre] at h3
    have h4 : PyProof.Rows.lexLt PyProof.Rows.itemOrd (PySem.W.keyToks b) (PySem.W.keyToks b) = false := PyProof.Rows.lex_irrefl _
    rw [h4] at h3
    exact absurd h3 (by decide)
theorem pw_unique {α : Type} {le : α → α → Prop} : ∀ {l m : List α}, l.Perm m → (∀ a ∈ l, ∀ b ∈ l, le a b → le b a → a = b) → l.Pairwise le → m.Pairwise le → l = m
  | [], m, h, _, _, _ => h.symm.eq_nil.symm
  | a :: l, [], h, _, _, _ => h.eq_nil
  | a :: l, b :: m, h, anti, hl, hm => by
    rw [List.pairwise_cons] at hl hm
    have hb : b ∈ a :: l := h.mem_iff.mpr (List.mem_cons_self ..)
    have ha : a ∈ b :: m := h.mem_iff.mp (List.mem_cons_self ..)
    have e : a = b := by
      rcases List.mem_cons.mp hb with e | hb'
      · exact e.symm
      · rcases List.mem_cons.mp ha with e | ha'
        · exact e
        · exact anti a (List.mem_cons_self ..) b hb (hl.1 b hb') (hm.1 a ha')
    subst e
    rw [pw_unique h.cons_inv (fun x hx y hy => anti x (List.mem_cons_of_mem _ hx) y (List.mem_cons_of_mem _ hy)) hl.2 hm.2]
/-- data of one shape -/
structure Alk (ds : List PyData) : Prop where
  al : PySem.W.AllAlike ds
  pl : ∀ d ∈ ds, plainB d = true
theorem srtD_unique {l m : List PyData} (h : Alk m) (p : l.Perm m) (s : l.Pairwise fun a b => leD a b = true) : srtD m = l := by
  refine pw_unique ((List.mergeSort_perm m leD).trans p.symm) (fun a ha b hb h1 h2 => ?_) (PySem.W.sort_pairwise leD_total m) s
  have ha' := (List.mergeSort_perm m leD).mem_iff.mp ha
  have hb' := (List.mergeSort_perm m leD).mem_iff.mp hb
  exact leD_anti (h.al a ha' b hb') (h.pl a ha') (h.pl b hb') h1 h2
theorem srtD_app {l ext m : List PyData} (h : Alk m) (p : (l ++ ext).Perm m) (hlt : ∀ a ∈ l, ∀ b ∈ ext, PySem.W.dataLt b a = false) : srtD m = srtD l ++ srtD ext := by
  refine srtD_unique h (((List.mergeSort_perm l leD).append (List.mergeSort_perm ext leD)).trans p) ?_
  rw [List.pairwise_append]
  refine ⟨PySem.W.sort_pairwise leD_total l, PySem.W.sort_pairwise leD_total ext, fun a ha b hb => ?_⟩
  rw [leD_eq, hlt a ((List.mergeSort_perm l leD).mem_iff.mp ha) b ((List.mergeSort_perm ext leD).mem_iff.mp hb)]
  rfl
/-- tuples whose first items are unlike numbers -/
theorem lt_first {s s' : Int} {r r' : List PyData} (h : s < s') : PySem.W.dataLt (.tuple (.int s' :: r')) (.tuple (.int s :: r)) = false := by
  rw [PySem.W.dataLt_tuple, PySem.W.dataLt_cons (by simp [PySem.W.alike]), if_neg, PySem.W.dataLt_int]
  · exact decide_eq_false (by omega)
  · rw [PyData.eqv, beq_iff_eq]
    omega
theorem srtD_len (ds : List PyData) : (srtD ds).length = ds.length := List.length_mergeSort _
theorem dnAll_take {ok : Addr → Prop} {H : Hp} : ∀ {vs : List V} {ds : List PyData}, DnAll ok H vs ds → ∀ n, DnAll ok H (vs.take n) (ds.take n)
  | _, _, .nil, n => by
    rw [List.take_nil, List.take_nil]
    exact .nil
  | _, _, .cons _ _, 0 => .nil
  | _, _, .cons h hs, n + 1 => .cons h (dnAll_take hs n)
theorem dnAll_zip {ok : Addr → Prop} {H : Hp} : ∀ {vs : List V} {ds : List PyData}, DnAll ok H vs ds → ∀ b ∈ vs.zip ds, Dn ok H b.1 b.2
  | _, _, .nil, b, hb => nomatch hb
  | _, _, .cons h hs, b, hb => by
    rw [List.zip_cons_cons] at hb
    rcases List.mem_cons.mp hb with rfl | hb
    · exact h
    · exact dnAll_zip hs b hb
theorem dnAll_ofZip {ok : Addr → Prop} {H : Hp} : ∀ {bs : List (V × PyData)}, (∀ b ∈ bs, Dn ok H b.1 b.2) → DnAll ok H (bs.map (·.1)) (bs.map (·.2))
  | [], _ => .nil
  | b :: bs, h => .cons (h b (List.mem_cons_self ..)) (dnAll_ofZip fun c hc => h c (List.mem_cons_of_mem _ hc))
theorem zip_fst {vs : List V} {ds : List PyData} (h : vs.length = ds.length) : (vs.zip ds).map (·.1) = vs := List.map_fst_zip (by omega)
theorem zip_snd {vs : List V} {ds : List PyData} (h : vs.length = ds.length) : (vs.zip ds).map (·.2) = ds := List.map_snd_zip (by omega)
section
variable {K : PySem.W.Frag} {H : Hp} {Q : VK}
/-- sorted(a list of data) -/
theorem w_sortedDs {a : Addr} {vs : List V} {ds : List PyData} (h : H a = some (.lst vs)) (hd : DnAll Any H vs ds) (hal : Alk ds) (hk : PySem.W.Sortable ds) (hL : ds.length ≤ 100000) (hdep : ∀ d ∈ ds, d.depth ≤ 60)
    (q : ∀ p ws H2, H p = none → Same H H2 → H2 p = some (.lst ws) → DnAll Any H2 ws (srtD ds) → Q (.ref p) H2) : rSortedW K [.ref a] H Q := by
  have hl := hd.len
  have hz := dnAll_zip hd
  have h1 := zip_fst hl
  have h2 := zip_snd hl
  have hm : ∀ b ∈ vs.zip ds, b.2 ∈ ds := fun b hb => by
    rw [← h2]
    exact List.mem_map_of_mem hb
  refine w_sortedW (bs := vs.zip ds) (by rw [h1]; exact h) (fun b hb => dn_dp (noDict_plain (hal.pl b.2 (hm b hb))) (hz b hb)) (by rw [h2]; exact hal.al) (by rw [h2]; exact hk) (by rw [List.length_zip]; omega) (fun b hb => hdep b.2 (hm b hb)) fun p H2 f s e => ?_
  refine q p _ H2 f s e ?_
  have h3 : DnAll Any H2 ((srtW (vs.zip ds)).map (·.1)) ((srtW (vs.zip ds)).map (·.2)) := dnAll_ofZip fun b hb => (hz b ((srtW_perm _).mem_iff.mp hb)).same s
  rw [srtW_data, h2] at h3
  exact h3
end

/-! ### rows of what somebody holds, pairs of a dict of counts -/
theorem walkR_inv {R : List Rw} {f t : Str} {ms : List Str} {y0 : Addr × Lt} (hI : RowsW (rowsF R)) (hF : Fd R f t ms y0) (hok : ∀ x ∈ R, ∀ y ∈ x.ls, Wf y.2 ∧ ∃ B : Bb, y.2.b = B.toD) (m : List (Str × Int)) : WInv (61 + (1 + (csum m).toNat)) (walkR R f ms y0 m) := by
  refine iter_inv (rowC_W hI m) (fun a y hy => ?_) (s0 := initW f ms y0 (rowC R m f)) rfl (n := 61) ⟨fun z hz => ?_, fun z hz => (nomatch hz), List.nodup_nil, ?_, Nat.zero_le _⟩ _
  · obtain ⟨x', hx', _, hy'⟩ := rowsF_in (List.mem_of_mem_take hy)
    exact hok x' hx' y hy'
  · obtain ⟨nm, hnm, rfl⟩ := List.mem_map.mp hz
    exact strOk_of (hF.asc nm hnm)
  · show ((f :: ms).map fun nm => (nm, y0)).length ≤ 61
    have := hF.len
    rw [List.length_map, List.length_cons]
    omega
theorem rowsF_cs {R R' : List Rw} {cs : List (Str × Int)} (hn : (cs.map (·.1)).Nodup) (h : R'.map (·.nm) = cs.map (·.1)) (hl : ∀ x ∈ R', x.ls = rowC R cs x.nm) : rowsF R' = rowC R cs := by
  funext a
  by_cases m : a ∈ R'.map (·.nm)
  · obtain ⟨x, hx, e⟩ := List.mem_map.mp m
    have e : x.nm = a := e
    rw [← e, rowsF_mem (by rw [h]; exact hn) hx, hl x hx]
  · rw [rowsF_nil m, rowC_out (by rw [← h]; exact m)]
section
variable {K : PySem.W.Frag} {C CL : Addr} {vs : List V} {H : Hp} {Q : VK} {E : XK} {σ : L2.St} {D : Ends}
/-- for name in counts: rows[name] = _law_row(world, counts, name) -/
theorem w_rowsL {iw ic ir iN : Nat} {w c r pa wl wh : Addr} {f : Str} {R : List Rw} {cs : List (Str × Int)} (h0' : ∃ u, σ = σ.set iN u) (hN : ∀ u, (σ.set iN u)[iN]? = some u) (hw : ∀ u, (σ.set iN u)[iw]? = some (some (.ref w))) (hc' : ∀ u, (σ.set iN u)[ic]? = some (some (.ref c))) (hr' : ∀ u, (σ.set iN u)[ir]? = some (some (.ref r)))
    (hW : WrAt H w pa wl wh f R) (hc : H c = some (.dK (asV V.int cs))) (h0 : ∀ z ∈ cs, 0 ≤ z.2) (hn : (cs.map (·.1)).Nodup) (hl : cs.length ≤ 1000) (nc1 : c ≠ w) (nc2 : c ≠ wl) (hr : H r = some (.dK [])) (nrc : r ≠ c) (nr1 : r ≠ w) (nr2 : r ≠ wl)
    (q : ∀ (u : Option V) (R' : List Rw) (G : Hp), Kp r H G → G r = some (.dK (asV V.ref (rowV R'))) → R'.map (·.nm) = cs.map (·.1) → (∀ x ∈ R', x.ls = rowC R cs x.nm ∧ G x.l = some (.lst (lsV x.ls))) → D.nx (σ.set iN u) G) :
    tLock (tFor (iKeys (tVar ic)) (gName iN) (sDPut (tVar ir) (tVar iN) (tCall (spRow K CL) [] C8.E0 (tCons (tVar iw) (tCons (tVar ic) (tCons (tVar iN) tNil)))))) D σ H := by
  obtain ⟨u0, hu0⟩ := h0'
  obtain ⟨kvs, hk1, wk⟩ := hW.kv
  refine ⟨c, .dK (asV V.int cs), hc, trivial, fun od => ?_⟩
  refine w_for (w_var (by rw [hu0]; exact hc' _) ⟨c, od, rfl, .inl ⟨_, upd_same, ?_⟩⟩)
  refine for_it walk_keys (fun k σ' G => (∃ u, σ' = σ.set iN u) ∧ (∀ b o, b ≠ c → b ≠ r → H b = some o → G b = some o) ∧ G c = some (.frz od (.dK (asV V.int cs))) ∧ ∃ R', G r = some (.dK (asV V.ref (rowV R'))) ∧ R'.map (·.nm) = (cs.take k).map (·.1) ∧ ∀ x ∈ R', x.ls = rowC R cs x.nm ∧ G x.l = some (.lst (lsV x.ls))) ⟨⟨u0, hu0⟩, fun b o n1 _ e => by rw [upd_ne n1]; exact e, upd_same, [], by rw [upd_ne nrc]; exact hr, rfl, fun x hx => (nomatch hx)⟩ (fun _ _ _ _ e => e.2.2.1) ?_ ?_
  · rintro k x σ' Gz G hk ⟨⟨u, rfl⟩, kx, ed, R', er, hRn, hR⟩ ⟨rfl, ky, v, ekv, rfl⟩
    obtain ⟨z, hz, rfl⟩ := asV_at ekv
    have hk' : k < cs.length := (List.getElem?_eq_some_iff.mp hz).1
    have hRl : R'.length ≤ k := by
      have := congrArg List.length hRn
      rw [List.length_map, List.length_map, List.length_take] at this
      omega
    have hWG : WrAt G w pa wl wh f R := ⟨⟨kvs, kx _ _ nc1.symm nr1.symm hk1, wk⟩, kx _ _ nc2.symm nr2.symm hW.hr, fun y hy => kx _ _ (ne_kind (hW.ls y hy) hc fun z => by cases z) (ne_kind (hW.ls y hy) hr fun z => by cases z) (hW.ls y hy)⟩
    have eS : ∀ z, (σ.set iN u).set iN (some z) = σ.set iN (some z) := fun z => List.set_set ..
    refine w_name ?_
    show sDPut _ _ _ _ ((σ.set iN u).set iN (some (.str z.1))) _
    rw [eS]
    refine w_dput (w_call (w_cons (w_var (hw _) (w_cons (w_var (hc' _) (w_cons (w_var (hN _) (w_nil ⟨w, c, pa, wl, wh, f, R, cs, z.1, rfl, hWG, .inr ⟨od, ed⟩, h0, fun l G2 f2 s2 e2 => w_var (hr' _) (w_var (hN _) (dputK (k := Sum.inr z.1) (s2 _ _ er) (by rw [asV_len]; unfold rowV; rw [List.length_map]; omega) fun G3 k3 e3 => ⟨⟨_, rfl⟩, fun b o n1 n2 e => k3 _ _ n2 (s2 _ _ (kx b o n1 n2 e)), k3 _ _ nrc.symm (s2 _ _ ed), R' ++ [⟨z.1, l, rowC R cs z.1⟩], ?_, ?_, fun x hx => ?_⟩))⟩))))))))
    · rw [e3, putA_new (a := l) (getA_none.mpr ?_) rfl]
      · unfold rowV
        rw [List.map_append]
        rfl
      · unfold rowV
        rw [List.map_map]
        show z.1 ∉ R'.map (·.nm)
        rw [hRn]
        exact take_fresh hn hz
    · rw [List.map_append, hRn, List.take_add_one, hz, List.map_append]
      rfl
    · rcases List.mem_append.mp hx with hx | hx
      · obtain ⟨h1, h2⟩ := hR x hx
        exact ⟨h1, k3 _ _ (ne_kind (s2 _ _ h2) (s2 _ _ er) fun z => by cases z) (s2 _ _ h2)⟩
      · rw [List.mem_singleton.mp hx]
        exact ⟨rfl, k3 _ _ (ne_kind e2 (s2 _ _ er) fun z => by cases z) e2⟩
  rintro σ' G ⟨⟨u, rfl⟩, kx, ed, R', er, hRn, hR⟩
  refine ⟨ed, ?_⟩
  rw [asV_len, List.take_length] at hRn
  refine q u R' _ (unfrz hc kx) (by rw [upd_ne nrc]; exact er) hRn fun x hx => ⟨(hR x hx).1, ?_⟩
  have h1 := (hR x hx).2
  rw [upd_ne]
  · exact h1
  · intro z
    rw [z, ed] at h1
    exact nomatch h1
/-- [(name, d[name]) for name in d] -/
theorem lcPairs {l : List (Str × Int)} {d : Addr} {c i : Nat} (hd : H d = some (.dK (asV V.int l))) (hn : (l.map (·.1)).Nodup) (hl : l.length ≤ 100000) (hc : σ[c]? = some (some (.ref d)))
    (hw : ∀ x, wipe ((wipe σ [i]).set i (some x)) [i] = wipe σ [i]) (hi : ∀ x, ((wipe σ [i]).set i (some x))[i]? = some (some x)) (hc' : ∀ x, ((wipe σ [i]).set i (some x))[c]? = some (some (.ref d)))
    (q : ∀ D ts G, H D = none → Same H G → G D = some (.lst ts) → DnAll Any G ts (l.map pairD) → Q (.ref D) G) : tLockE (tLc (iKeys (tVar c)) (gName i) tYes (tTup (tCons (tVar i) (tCons (tDGet (tVar c) (tVar i)) tNil))) [i]) σ H Q := by
  refine ⟨d, .dK (asV V.int l), hd, trivial, fun od => w_lc (w_var hc ⟨d, od, rfl, .inl ⟨asV V.int l, upd_same, fun D hD => ?_⟩⟩)⟩
  have nDd : D ≠ d := fun z => by rw [z, upd_same] at hD; cases hD
  have D0 : H D = none := by rw [upd_ne nDd] at hD; exact hD
  refine lc_it walk_keys (fun k G => (∀ b o, b ≠ d → H b = some o → G b = some o) ∧ G d = some (.frz od (.dK (asV V.int l))) ∧ ∃ ts, G D = some (.lst ts) ∧ ts.length ≤ k ∧ DnAll Any G ts ((l.take k).map pairD)) ⟨fun b o n e => by rw [upd_ne (ne_of_none e D0), upd_ne n]; exact e, by rw [upd_ne nDd.symm, upd_same], [], upd_same, Nat.le_refl _, .nil⟩ (fun k G _ e => e.2.1) ?_ ?_
  · rintro k x Gz G hk ⟨kx, ed, ts, eD, hts, dts⟩ ⟨rfl, ky, v, ekv, rfl⟩
    obtain ⟨z, hz, rfl⟩ := asV_at ekv
    have et : l.take (k + 1) = l.take k ++ [z] := by rw [List.take_add_one, hz]; rfl
    have hg : getA l z.1 = some z.2 := getA_nd0 hn z (List.mem_of_getElem? hz)
    have hk' : k < l.length := (List.getElem?_eq_some_iff.mp hz).1
    refine w_name ⟨hw _, w_yes (iteT_ (w_tupV (w_cons (w_var (hi _) (w_cons (w_dget (w_var (hc' _) (w_var (hi _) ⟨d, .int z.2, rfl, .inl ⟨asV V.int l, Sum.inr z.1, .inr ⟨od, ed⟩, rfl, (valA_some V.int hg).symm⟩, w_nil ⟨sz (by simp), w_new fun t G8 t0 s8 et8 => ⟨ts, s8 _ _ eD, ?_, fun b o n e => ?_, ?_, _, upd_same, ?_, ?_⟩⟩⟩))))))))⟩
    · exact Nat.lt_of_le_of_lt (show ts.length ≤ 100000 by omega) (by decide)
    · rw [upd_ne (ne_of_none e D0)]
      exact s8 _ _ (kx b o n e)
    · rw [upd_ne nDd.symm]
      exact s8 _ _ ed
    · rw [List.length_append, List.length_singleton]
      omega
    · have tk : Tk G8 (upd G8 D (.lst (ts ++ [V.ref t]))) := Tk.kpL Kp.refl.updp (s8 _ _ eD)
      rw [et, List.map_append]
      refine DnAll.app (dnall_tk tk (plainAll_pairs _) (dts.same s8)) (.cons (.tup trivial (tk _ _ et8) (.cons (.str _) (.cons (.int _) .nil))) .nil)
  · rintro G ⟨kx, ed, ts, eD, hts, dts⟩
    rw [asV_len, List.take_length] at dts
    have kd : Kp d G (upd G d (.dK (asV V.int l))) := Kp.refl.updp
    refine ⟨ed, q D ts _ D0 (fun b o e => ?_) (by rw [upd_ne nDd]; exact eD) ?_⟩
    · by_cases z : b = d
      · rw [z] at e ⊢
        rw [upd_same, ← hd]
        exact e.symm ▸ e
      · rw [upd_ne z]
        exact kx b o z e
    · refine dnall_tk ⟨fun b xs e => kd _ _ (fun z => ?_) e, fun b o xs e => kd _ _ (fun z => ?_) e⟩ (plainAll_pairs _) dts
      · rw [z, ed] at e
        exact nomatch e
      · rw [z, ed] at e
        cases e
end

/-! ### walks over beginnings of rows are beginnings of the walk -/
theorem firstSeen_take {a : Str} {n : Int} : ∀ (ls : List (Addr × Lt)) (c : Nat), firstSeen a n (ls.take c) = firstSeen a n ls ∨ (ls.take c).length ≤ firstSeen a n (ls.take c)
  | [], c => .inl (by rw [List.take_nil])
  | y :: r, 0 => .inr (Nat.zero_le _)
  | y :: r, c + 1 => by
    rw [List.take_succ_cons, firstSeen, firstSeen]
    by_cases h : seenB a n y.2 = true
    · rw [if_pos h, if_pos h]
      exact .inl rfl
    · rw [if_neg h, if_neg h]
      rcases firstSeen_take r c with e | e
      · exact .inl (by rw [e])
      · exact .inr (by rw [List.length_cons]; omega)
structure Sim (rp rf : Str → List (Addr × Lt)) (s t : Wk) : Prop where
  came : s.came = t.came
  lim : s.lim = t.lim
  k : s.k = t.k
  rs : s.row = rp s.k
  rt : t.row = rf t.k
  at_ : s.row.length ≤ s.at_ ∨ s.at_ = t.at_
theorem Sim.step {rf : Str → List (Addr × Lt)} {c : Str → Nat} {s t : Wk} (h : Sim (fun a => (rf a).take (c a)) rf s t) : Sim (fun a => (rf a).take (c a)) rf (stepW (fun a => (rf a).take (c a)) s) t ∨ Sim (fun a => (rf a).take (c a)) rf (stepW (fun a => (rf a).take (c a)) s) (stepW rf t) := by
  rcases Nat.lt_or_ge s.at_ s.row.length with hlt | hge
  rotate_left
  · have e : stepW (fun a => (rf a).take (c a)) s = s := by
      unfold stepW
      rw [List.getElem?_eq_none hge]
    rw [e]
    exact .inl h
  · refine .inr ?_
    have hat : s.at_ = t.at_ := h.at_.resolve_left (by omega)
    obtain ⟨y, hy⟩ : ∃ y, s.row[s.at_]? = some y := ⟨_, List.getElem?_eq_getElem hlt⟩
    have hy2 : t.row[t.at_]? = some y := by
      rw [h.rs, h.k, hat] at hy
      have hy : ((rf t.k).take (c t.k))[t.at_]? = some y := hy
      rw [List.getElem?_take] at hy
      rw [h.rt]
      split at hy
      · exact hy
      · exact nomatch hy
    have e1 : stepW (fun a => (rf a).take (c a)) s = actW (fun a => (rf a).take (c a)) s y (bbOfR y.2.b) := by
      unfold stepW
      rw [hy]
    have e2 : stepW rf t = actW rf t y (bbOfR y.2.b) := by
      unfold stepW
      rw [hy2]
    rw [e1, e2]
    have next : ∀ (s' t' : Wk), s'.came = t'.came → s'.lim = t'.lim → s'.k = s.k → t'.k = t.k → s'.row = s.row → t'.row = t.row → s'.at_ = s.at_ + 1 → t'.at_ = t.at_ + 1 → Sim (fun a => (rf a).take (c a)) rf s' t' := fun s' t' h1 h2 h3 h4 h5 h6 h7 h8 =>
      ⟨h1, h2, by rw [h3, h4]; exact h.k, by rw [h5, h3]; exact h.rs, by rw [h6, h4]; exact h.rt, .inr (by rw [h7, h8, hat])⟩
    cases bbOfR y.2.b with
    | act kd nm hk =>
      unfold actW
      dsimp only
      rw [← h.came, ← h.lim, ← h.k]
      by_cases h1 : kd = Str.ofString "add"
      · rw [if_pos h1, if_pos h1]
        exact next _ _ rfl rfl rfl h.k rfl rfl rfl rfl
      · rw [if_neg h1, if_neg h1]
        by_cases h2 : otherB s.came s.lim s.k nm = true
        · rw [if_pos h2, if_pos h2]
          by_cases h3 : kd = Str.ofString "cut"
          · rw [if_pos h3, if_pos h3]
            exact next _ _ rfl rfl rfl h.k rfl rfl rfl rfl
          · rw [if_neg h3, if_neg h3]
            refine ⟨rfl, rfl, rfl, rfl, rfl, ?_⟩
            rcases firstSeen_take (a := y.2.a) (n := y.2.n) (rf nm) (c nm) with e | e
            · exact .inr e
            · exact .inl e
        · rw [if_neg h2, if_neg h2]
          exact next _ _ rfl rfl rfl h.k rfl rfl rfl rfl
    | say t => exact next _ _ h.came h.lim rfl rfl rfl rfl rfl rfl
    | reply a n t => exact next _ _ h.came h.lim rfl rfl rfl rfl rfl rfl
    | edit a n t => exact next _ _ h.came h.lim rfl rfl rfl rfl rfl rfl
    | recall a n => exact next _ _ h.came h.lim rfl rfl rfl rfl rfl rfl
    | mark a n w => exact next _ _ h.came h.lim rfl rfl rfl rfl rfl rfl
    | title t => exact next _ _ h.came h.lim rfl rfl rfl rfl rfl rfl
    | seen => exact next _ _ h.came h.lim rfl rfl rfl rfl rfl rfl
    | found t ds => exact next _ _ h.came h.lim rfl rfl rfl rfl rfl rfl
theorem Sim.iter {rf : Str → List (Addr × Lt)} {c : Str → Nat} {s t : Wk} (h : Sim (fun a => (rf a).take (c a)) rf s t) : ∀ i, ∃ j, Sim (fun a => (rf a).take (c a)) rf (iterW (fun a => (rf a).take (c a)) i s) (iterW rf j t)
  | 0 => ⟨0, h⟩
  | i + 1 => by
    obtain ⟨j, hj⟩ := Sim.iter h i
    rw [iterW_succ]
    rcases hj.step with e | e
    · exact ⟨j, e⟩
    · exact ⟨j + 1, by rw [iterW_succ]; exact e⟩
/-- how a walk grows -/
structure Grow (s t : Wk) : Prop where
  came : ∀ nm y, getA s.came nm = some y → getA t.came nm = some y
  new : ∀ nm z, getA t.came nm = some z → getA s.came nm = none → ∀ nm' y, getA s.came nm' = some y → y.2.s < z.2.s
  lim : ∃ ext, t.lim = s.lim ++ ext
/-- the next letter is younger than those by which people came -/
structure Old (s : Wk) : Prop where
  old : ∀ z, s.row[s.at_]? = some z → ∀ nm y, getA s.came nm = some y → y.2.s < z.2.s
  kn : (getA s.came s.k).isSome = true
theorem Grow.refl (s : Wk) : Grow s s := ⟨fun _ _ e => e, fun nm z e1 e2 => (by rw [e1] at e2; exact (nomatch e2)), [], (List.append_nil _).symm⟩
theorem Grow.trans {s t u : Wk} (h : Grow s t) (g : Grow t u) : Grow s u := by
  refine ⟨fun nm y e => g.came nm y (h.came nm y e), fun nm z e1 e2 nm' y e3 => ?_, ?_⟩
  · cases e : getA t.came nm with
    | none => exact g.new nm z e1 e nm' y (h.came nm' y e3)
    | some z' =>
      have := g.came nm z' e
      rw [e1] at this
      rw [Option.some.inj this]
      exact h.new nm z' e e2 nm' y e3
  · obtain ⟨e1, h1⟩ := h.lim
    obtain ⟨e2, h2⟩ := g.lim
    exact ⟨e1 ++ e2, by rw [h2, h1, List.append_assoc]⟩
theorem getA_putNew (came : List (Str × Addr × Lt)) (nm : Str) (y : Addr × Lt) (b : Str) : getA (putNew came nm y) b = if b = nm ∧ getA came nm = none then some y else getA came b := by
  unfold putNew
  cases e : getA came nm with
  | some z =>
    rw [if_pos (by rfl), if_neg fun t => nomatch t.2]
  | none =>
    rw [if_neg (by decide), getA_app]
    by_cases eb : b = nm
    · rw [eb, e, if_pos ⟨rfl, rfl⟩, Option.none_or, getA_pos rfl]
    · rw [if_neg fun t => eb t.1, getA_neg (fun t => eb t.symm), getA_nil, Option.or_none]
theorem step_grow {rf : Str → List (Addr × Lt)} (h : RowsW rf) {s : Wk} (hr : s.row = rf s.k) (ho : Old s) : Grow s (stepW rf s) ∧ Old (stepW rf s) := by
  cases hy : s.row[s.at_]? with
  | none =>
    have e : stepW rf s = s := by
      unfold stepW
      rw [hy]
    rw [e]
    exact ⟨Grow.refl s, ho⟩
  | some y =>
    obtain ⟨hr', hn⟩ := step_next h hr hy
    have hoy := ho.old y hy
    have e : stepW rf s = actW rf s y (bbOfR y.2.b) := by
      unfold stepW
      rw [hy]
    rw [e] at hr' hn ⊢
    have same : ∀ s' : Wk, s'.came = s.came → (∃ ext, s'.lim = s.lim ++ ext) → (getA s.came s'.k).isSome = true → (∀ z, s'.row[s'.at_]? = some z → y.2.s < z.2.s) → Grow s s' ∧ Old s' := fun s' h1 h2 h3 h4 =>
      ⟨⟨fun nm y e => by rw [h1]; exact e, fun nm z e1 e2 => (by rw [h1, e2] at e1; exact (nomatch e1)), h2⟩, ⟨fun z hz nm y' e => by
        rw [h1] at e
        have a1 := hoy nm y' e
        have a2 := h4 z hz
        omega, by rw [h1]; exact h3⟩⟩
    have stay : ∀ s' : Wk, s'.came = s.came → s'.lim = s.lim → s'.k = s.k → (∀ z, s'.row[s'.at_]? = some z → y.2.s < z.2.s) → Grow s s' ∧ Old s' := fun s' h1 h2 h3 h4 => same s' h1 ⟨[], by rw [h2, List.append_nil]⟩ (by rw [h3]; exact ho.kn) h4
    generalize bbOfR y.2.b = b at hr' hn
    cases b with
    | act kd nm hk =>
      unfold actW at hn ⊢
      dsimp only at hn ⊢
      by_cases h1 : kd = Str.ofString "add"
      · rw [if_pos h1] at hn ⊢
        refine ⟨⟨fun b z e => ?_, fun b z e1 e2 b' y' e3 => ?_, [], (List.append_nil _).symm⟩, ⟨fun z hz b y' e => ?_, ?_⟩⟩
        · show getA (putNew s.came nm y) b = some z
          rw [getA_putNew, if_neg fun t => by rw [t.1, t.2] at e; exact nomatch e]
          exact e
        · have e1 : getA (putNew s.came nm y) b = some z := e1
          rw [getA_putNew] at e1
          split at e1
          · rw [← Option.some.inj e1]
            exact hoy b' y' e3
          · rw [e2] at e1
            exact nomatch e1
        · have e : getA (putNew s.came nm y) b = some y' := e
          rw [getA_putNew] at e
          have a2 := hn z hz
          split at e
          · rw [← Option.some.inj e]
            exact a2
          · have a1 := hoy b y' e
            omega
        · exact putNew_some ho.kn
      · rw [if_neg h1] at hn ⊢
        by_cases h2 : otherB s.came s.lim s.k nm = true
        · rw [if_pos h2] at hn ⊢
          by_cases h3 : kd = Str.ofString "cut"
          · rw [if_pos h3] at hn ⊢
            exact same _ rfl ⟨_, rfl⟩ ho.kn hn
          · rw [if_neg h3] at hn ⊢
            refine same _ rfl ⟨[], (List.append_nil _).symm⟩ ?_ hn
            unfold otherB at h2
            rw [Bool.and_eq_true] at h2
            exact h2.1
        · rw [if_neg h2] at hn ⊢
          exact stay _ rfl rfl rfl hn
    | say t => exact stay _ rfl rfl rfl hn
    | reply a n t => exact stay _ rfl rfl rfl hn
    | edit a n t => exact stay _ rfl rfl rfl hn
    | recall a n => exact stay _ rfl rfl rfl hn
    | mark a n w => exact stay _ rfl rfl rfl hn
    | title t => exact stay _ rfl rfl rfl hn
    | seen => exact stay _ rfl rfl rfl hn
    | found t ds => exact stay _ rfl rfl rfl hn
theorem iter_grow {rf : Str → List (Addr × Lt)} (h : RowsW rf) {s0 : Wk} (h0 : s0.row = rf s0.k) (ho : Old s0) (i : Nat) : ∀ d, Grow (iterW rf i s0) (iterW rf (i + d) s0)
  | 0 => Grow.refl _
  | d + 1 => by
    have old : ∀ j, Old (iterW rf j s0) := fun j => by
      induction j with
      | zero => exact ho
      | succ j ih =>
        rw [iterW_succ]
        exact (step_grow h (iter_row h h0 j) ih).2
    have e : i + (d + 1) = (i + d) + 1 := by omega
    rw [e, iterW_succ]
    exact (iter_grow h h0 ho i d).trans (step_grow h (iter_row h h0 (i + d)) (old (i + d))).1
theorem iter_old {rf : Str → List (Addr × Lt)} (h : RowsW rf) {s0 : Wk} (h0 : s0.row = rf s0.k) (ho : Old s0) (j : Nat) : Old (iterW rf j s0) := by
  induction j with
  | zero => exact ho
  | succ j ih =>
    rw [iterW_succ]
    exact (step_grow h (iter_row h h0 j) ih).2
theorem init_old {rf : Str → List (Addr × Lt)} (h : RowsW rf) {f : Str} {ms : List Str} {y0 : Addr × Lt} (hr : (rf f)[0]? = some y0) : Old (initW f ms y0 (rf f)) := by
  have hc : ∀ nm y, getA (initW f ms y0 (rf f)).came nm = some y → y = y0 := fun nm y e => by
    have := getA_mem e
    obtain ⟨x, _, ex⟩ := List.mem_map.mp this
    exact (Prod.mk.inj ex).2.symm
  refine ⟨fun z hz nm y e => ?_, ?_⟩
  · rw [hc nm y e]
    exact (h.inc f 0 1 y0 z (by omega) hr hz).1
  · show (getA ((f :: ms).map fun nm => (nm, y0)) f).isSome = true
    rw [List.map_cons, getA_pos rfl]
    rfl
/-- of two walks over beginnings of the same rows the one is a beginning of the other -/
theorem walks {R : List Rw} (hI : RowsW (rowsF R)) {f : Str} {ms : List Str} {y0 : Addr × Lt} (hr : (rowsF R f)[0]? = some y0) (m m2 : List (Str × Int)) : ∃ t t2 : Wk, ((walkR R f ms y0 m).came = t.came ∧ (walkR R f ms y0 m).lim = t.lim ∧ (walkR R f ms y0 m).k = t.k ∧ Old t) ∧ ((walkR R f ms y0 m2).came = t2.came ∧ (walkR R f ms y0 m2).lim = t2.lim ∧ (walkR R f ms y0 m2).k = t2.k ∧ Old t2) ∧ (Grow t t2 ∨ Grow t2 t) := by
  have ho := init_old hI (ms := ms) hr
  have one : ∀ m : List (Str × Int), ∃ j, (walkR R f ms y0 m).came = (iterW (rowsF R) j (initW f ms y0 (rowsF R f))).came ∧ (walkR R f ms y0 m).lim = (iterW (rowsF R) j (initW f ms y0 (rowsF R f))).lim ∧ (walkR R f ms y0 m).k = (iterW (rowsF R) j (initW f ms y0 (rowsF R f))).k := fun m => by
    have s0 : Sim (fun a => (rowsF R a).take (cntC m a)) (rowsF R) (initW f ms y0 (rowC R m f)) (initW f ms y0 (rowsF R f)) := ⟨rfl, rfl, rfl, rfl, rfl, .inr rfl⟩
    obtain ⟨j, hj⟩ := s0.iter (1 + (csum m).toNat)
    exact ⟨j, hj.came, hj.lim, hj.k⟩
  obtain ⟨i, h1⟩ := one m
  obtain ⟨j, h2⟩ := one m2
  refine ⟨_, _, ⟨h1.1, h1.2.1, h1.2.2, iter_old hI rfl ho i⟩, ⟨h2.1, h2.2.1, h2.2.2, iter_old hI rfl ho j⟩, ?_⟩
  rcases Nat.le_total i j with e | e
  · obtain ⟨d, rfl⟩ := Nat.exists_eq_add_of_le e
    exact .inl (iter_grow hI rfl ho i d)
  · obtain ⟨d, rfl⟩ := Nat.exists_eq_add_of_le e
    exact .inr (iter_grow hI rfl ho j d)

/-! ### of two rolls the one is a beginning of the other -/
def rowD (y : Addr × Lt) (nm : Str) : PyData := .tuple [.int y.2.s, .tuple [.str y.2.a, .int y.2.n], .str nm]
def cameD (came : List (Str × Addr × Lt)) (ps : List Str) : List PyData := ps.filterMap fun nm => (getA came nm).map fun y => rowD y nm
/-- those who came later -/
def laterD (came came2 : List (Str × Addr × Lt)) (ps : List Str) : List PyData := ps.filterMap fun nm => if getA came nm = none then (getA came2 nm).map fun y => rowD y nm else none
theorem cameD_in {came : List (Str × Addr × Lt)} {ps : List Str} {d : PyData} (h : d ∈ cameD came ps) : ∃ nm y, nm ∈ ps ∧ getA came nm = some y ∧ d = rowD y nm := by
  obtain ⟨nm, hnm, e⟩ := List.mem_filterMap.mp h
  obtain ⟨y, hy, rfl⟩ := Option.map_eq_some_iff.mp e
  exact ⟨nm, y, hnm, hy, rfl⟩
theorem row_alike (y z : Addr × Lt) (a b : Str) : PySem.W.alike (rowD y a) (rowD z b) = true := by simp [rowD, PySem.W.alike, PySem.W.alikeAll]
theorem cameD_alk (came : List (Str × Addr × Lt)) (ps : List Str) : Alk (cameD came ps) := ⟨fun d hd e he => by
  obtain ⟨a, y, _, _, rfl⟩ := cameD_in hd
  obtain ⟨b, z, _, _, rfl⟩ := cameD_in he
  exact row_alike y z a b, fun d hd => by
  obtain ⟨a, y, _, _, rfl⟩ := cameD_in hd
  rfl⟩
theorem cameD_split {came came2 : List (Str × Addr × Lt)} (h : ∀ nm y, getA came nm = some y → getA came2 nm = some y) : ∀ ps : List Str, (cameD came ps ++ laterD came came2 ps).Perm (cameD came2 ps)
  | [] => .nil
  | nm :: ps => by
    have ih := cameD_split h ps
    unfold cameD laterD at ih ⊢
    rw [List.filterMap_cons, List.filterMap_cons, List.filterMap_cons]
    cases e : getA came nm with
    | some y =>
      rw [h nm y e]
      exact ih.cons _
    | none =>
      cases e2 : getA came2 nm with
      | none => exact ih
      | some z => exact List.perm_middle.trans (ih.cons _)
theorem came_begins {s t : Wk} (g : Grow s t) (ps : List Str) : srtD (cameD t.came ps) = srtD (cameD s.came ps) ++ srtD (laterD s.came t.came ps) := by
  refine srtD_app (cameD_alk _ _) (cameD_split g.came ps) fun a ha b hb => ?_
  obtain ⟨nm, y, _, hy, rfl⟩ := cameD_in ha
  obtain ⟨nm2, _, e⟩ := List.mem_filterMap.mp hb
  split at e
  · rename_i hn
    obtain ⟨z, hz, rfl⟩ := Option.map_eq_some_iff.mp e
    exact lt_first (g.new nm2 z hz hn nm y hy)
  · exact nomatch e
theorem dnAll_tk' {H H' : Hp} {vs : List V} {ds : List PyData} (t : Tk H H') (h : ∀ d ∈ ds, plainB d = true) (dn : DnAll Any H vs ds) : DnAll Any H' vs ds := dnall_tk t (plainAll_of h) dn
def spLCame (K : PySem.W.Frag) (CL C : Addr) : Sp := fun vs H Q _ => ∃ (X : Rx) (R : Ro) (pa : Addr) (ps : List Str), vs = [.ref X.x, .ref pa] ∧ RoAt CL C H X R ∧ H pa = some (.lst (ps.map V.str)) ∧ ps.length ≤ 60 ∧
  ∀ p ws H', H p = none → Same H H' → H' p = some (.lst ws) → DnAll Any H' ws (srtD (cameD R.came ps)) → Q (.ref p) H'
def spBeginning (K : PySem.W.Frag) : Sp := fun vs H Q _ => ∃ (a b : Addr) (xs ys : List V) (ds es : List PyData) (k : Nat), vs = [.ref a, .ref b] ∧ H a = some (.lst xs) ∧ H b = some (.lst ys) ∧ DnAll Any H xs ds ∧ DnAll Any H ys es ∧ (∀ d ∈ ds, Lay k d) ∧ (∀ d ∈ es, Lay k d) ∧ k ≤ 4 ∧ (ds = es.take ds.length ∨ es = ds.take es.length) ∧ ∀ H', Same H H' → Q (.bl true) H'
def spLaw (K : PySem.W.Frag) : Sp := fun vs H Q _ => ∃ (a : Addr) (ns : List Int), vs = [.ref a] ∧ SqL K H a (ns.map V.int) ∧ ns.length ≤ 63 ∧ ∀ H', Q (.bl true) H'
theorem lay_shaped {k : Nat} {ds : List PyData} (h : ∀ d ∈ ds, Lay k d) (hk : k ≤ 4) : SeqAt.shaped (.list ds) = true := (lay_list (k := 4) fun d hd => ⟨(h d hd).1, Nat.le_trans (h d hd).2 hk⟩).shaped
section
variable {K : PySem.W.Frag} {C CL : Addr} {vs : List V} {H : Hp} {Q : VK} {E : XK} {σ : L2.St} {D : Ends}
/-- _law_came: slots 0:roll 1:people 2:rows 3:name -/
def t__law_came (K : PySem.W.Frag) (C_Roll : Addr) (C_Letter : Addr) : TS := (tSeq (tAsg (tLst tNil) (gName 2))
  (tSeq (tFor (iList K (tVar 1)) (gName 3) (tIfS (tB (tMeth C_Roll "is_known" (spKnown K C_Letter C_Roll) [] C8.E0 (tVar 0) (tCons (tVar 3) tNil))) (tDrop (tBM K "list" rAppend (tVar 2) (tCons (tTup (tCons (tFld K (tMeth C_Roll "came_by" (spCameBy K C_Letter C_Roll) [] C8.E0 (tVar 0) (tCons (tVar 3) tNil)) "stamp") (tCons (tProp C_Letter (spRefP K C_Letter) [] C8.E0 (tMeth C_Roll "came_by" (spCameBy K C_Letter C_Roll) [] C8.E0 (tVar 0) (tCons (tVar 3) tNil))) (tCons (tVar 3) tNil)))) tNil))) tNext))
  (tRet (tCB (Wp.rSortedW K) (tCons (tVar 2) tNil)))))
theorem l__law_came (h : spLCame K CL C vs H Q E) : vs.length = 2 := by obtain ⟨X, R, pa, ps, rfl, _⟩ := h; rfl
theorem r__law_came (LC : IsC_Roll K C) (LCL : IsC_Letter K CL) (h : spLCame K CL C vs H Q E) : t__law_came K C CL { nx := fun _ H' => Q .non H', rt := Q } (start ["roll", "people", "rows", "name"] vs) H := by
  obtain ⟨X, R, pa, ps, rfl, hRo, hpa, hpl, q⟩ := h
  unfold t__law_came
  refine w_seq (w_asg (w_lstV (w_nil ⟨sz (by simp), w_new fun r G1 f1 s1 e1 => w_name ?_⟩)))
  with_reducible refine w_seq ?_
  refine w_for (w_iList (w_var rfl ⟨pa, rfl, ⟨_, SqL.of (s1 _ _ hpa)⟩, ?_⟩))
  refine for_it (walk_list (xs := ps.map V.str)) (fun k σ' G => (∃ u, σ' = [some (.ref X.x), some (.ref pa), some (.ref r), u]) ∧ (∀ b o, b ≠ r → G1 b = some o → G b = some o) ∧ ∃ ts, G r = some (.lst ts) ∧ ts.length ≤ k ∧ DnAll Any G ts (cameD R.came (ps.take k))) ⟨⟨_, rfl⟩, fun _ _ _ e => e, [], e1, Nat.le_refl _, .nil⟩ (fun _ _ _ _ e => SqL.of (e.2.1 _ _ (ne_of_none hpa f1) (s1 _ _ hpa))) ?_ ?_
  · rintro k v σ' Gz G hk ⟨⟨u, rfl⟩, kx, ts, er, htl, dts⟩ ⟨rfl, hxk⟩
    rw [List.getElem?_map] at hxk
    obtain ⟨nm, hnm, rfl⟩ := Option.map_eq_some_iff.mp hxk
    have et : ps.take (k + 1) = ps.take k ++ [nm] := by rw [List.take_add_one, hnm]; rfl
    have hk' : k < ps.length := (List.getElem?_eq_some_iff.mp hnm).1
    have hRoG : RoAt CL C G X R := (hRo.same s1).kpL kx e1
    obtain ⟨dx, hx⟩ := hRoG.hx
    refine w_name (w_ifS (w_B (w_methV rfl hx rfl (w_cons (w_var rfl (w_nil ⟨X, R, nm, rfl, hRoG, w_exb ?_⟩))))))
    cases e : getA R.came nm with
    | none =>
      refine ite_f (by decide) (w_next ⟨⟨_, rfl⟩, kx, ts, er, by omega, ?_⟩)
      rw [et]
      unfold cameD at dts ⊢
      rw [List.filterMap_append, List.filterMap_cons, e]
      rw [show (Option.map (fun y => rowD y nm) none : Option PyData) = none from rfl, List.filterMap_nil, List.append_nil]
      exact dts
    | some y =>
      refine ite_t rfl ?_
      have hy := hRoG.ok _ (getA_mem e)
      obtain ⟨dy, ddy, svy, bvy, hoy, _⟩ := id hy.1
      refine w_drop (w_bm (w_var rfl (w_tyL er (w_cons (w_tupV (w_cons (w_fld (w_methV rfl hx rfl (w_cons (w_var rfl (w_nil ⟨X, R, nm, y, rfl, hRoG, e, y.1, CL, dy, _, _, rfl, hoy, LCL.cl, LCL.n_stamp, lfs_stamp, ?_⟩)))))))))))
      refine w_cons (w_prop (w_methV rfl hx rfl (w_cons (w_var rfl (w_nil ⟨X, R, nm, y, rfl, hRoG, e, y.1, dy, _, rfl, hoy, y.1, y.2, rfl, hy.1, fun t2 G2 f2 s2 e2 => ?_⟩)))))
      refine w_cons (w_var rfl (w_nil ⟨sz (by simp), w_new fun t3 G3 f3 s3 e3 => w_nil (w_appV (s3 _ _ (s2 _ _ er)) (by omega) fun G4 k4 e4 => ?_)⟩))
      have tk : Tk G3 G4 := Tk.kpL k4 (s3 _ _ (s2 _ _ er))
      refine ⟨⟨_, rfl⟩, fun b o n1 e => k4 _ _ n1 (s3 _ _ (s2 _ _ (kx b o n1 e))), _, e4, by rw [List.length_append, List.length_singleton]; omega, ?_⟩
      have hcd : cameD R.came (ps.take (k + 1)) = cameD R.came (ps.take k) ++ [rowD y nm] := by
        rw [et]
        unfold cameD
        rw [List.filterMap_append, List.filterMap_cons, e]
        rfl
      rw [hcd]
      exact DnAll.app (dnAll_tk' tk (fun d hd => (cameD_alk _ _).pl d hd) ((dts.same s2).same s3)) (.cons (.tup trivial (tk _ _ e3) (.cons (.int _) (.cons (.tup trivial (tk _ _ (s3 _ _ e2)) (.cons (.str _) (.cons (.int _) .nil))) (.cons (.str _) .nil)))) .nil)
  rintro σ' G ⟨⟨u, rfl⟩, kx, ts, er, htl, dts⟩
  rw [List.length_map, List.take_length] at dts
  have hl := dts.len
  rw [List.length_map] at htl
  with_reducible refine w_ret ?_
  refine w_cb (w_cons (w_var rfl (w_nil (w_sortedDs er dts (cameD_alk _ _) (.inl fun d hd => ?_) (by omega) (fun d hd => ?_) fun p ws H2 f2 s2 e2 d2 => q p ws H2 (same_none s1 ?_) (fun b o e => s2 _ _ (kx _ _ (ne_of_none e f1) (s1 _ _ e))) e2 d2))))
  · obtain ⟨nm, y, _, _, rfl⟩ := cameD_in hd
    exact ⟨_, _, rfl⟩
  · obtain ⟨nm, y, _, _, rfl⟩ := cameD_in hd
    simp [rowD, PyData.depth, PyData.depthAll]
  · cases e : G1 p with
    | none => rfl
    | some o =>
      by_cases z : p = r
      · rw [z, er] at f2
        exact nomatch f2
      · rw [kx _ _ z e] at f2
        exact nomatch f2
/-- _law_beginning: slots 0:first 1:second -/
def t__law_beginning (K : PySem.W.Frag) : TS := (tRet (tOrV (tOp (rEqD K) (tVar 0) (tSl (rSlL K) (tVar 1) tNoPart (tPart (tCB (qLenSeq K) (tCons (tVar 0) tNil))))) (tOp (rEqD K) (tVar 1) (tSl (rSlL K) (tVar 0) tNoPart (tPart (tCB (qLenSeq K) (tCons (tVar 1) tNil)))))))
theorem l__law_beginning (h : spBeginning K vs H Q E) : vs.length = 2 := by obtain ⟨a, b, xs, ys, ds, es, k, rfl, _⟩ := h; rfl
theorem r__law_beginning (h : spBeginning K vs H Q E) : t__law_beginning K { nx := fun _ H' => Q .non H', rt := Q } (start ["first", "second"] vs) H := by
  obtain ⟨a, b, xs, ys, ds, es, k, rfl, ha, hb, da, db, la, lb, hk, hp, q⟩ := h
  unfold t__law_beginning
  have hxl := da.len
  have hyl := db.len
  refine w_ret (w_orV (w_op (w_var rfl (w_sl (w_var rfl (w_noPart (w_part (w_cb (w_cons (w_var rfl (w_nil (w_lenL (SqL.of ha) (w_exi (w_slLV (SqL.of hb) fun p1 G1 f1 s1 e1 => ?_))))))))))))))
  rw [cutV_toN] at e1
  have d1 : DnAll Any G1 (ys.take xs.length) (es.take xs.length) := dnAll_take (db.same s1) _
  have l1 : ∀ d ∈ es.take xs.length, Lay k d := fun d hd => lb d (List.mem_of_mem_take hd)
  refine w_eqD (ok := Any) (ok2 := Any) (d := .list ds) (e := .list (es.take xs.length)) (.lst trivial (s1 _ _ ha) (da.same s1)) (.lst trivial e1 d1) (lay_shaped la hk) (lay_shaped l1 hk) ⟨_, rfl, w_iteb (fun _ => q G1 s1) fun hf => ?_⟩
  have hb2 : es = ds.take es.length := by
    rcases hp with e | e
    · rw [hxl, ← e, SeqAt.eqv_refl _ (SeqAt.canLay_of_shaped (lay_shaped la hk))] at hf
      exact nomatch hf
    · exact e
  refine w_op (w_var rfl (w_sl (w_var rfl (w_noPart (w_part (w_cb (w_cons (w_var rfl (w_nil (w_lenL (SqL.of (s1 _ _ hb)) (w_exi (w_slLV (SqL.of (s1 _ _ ha)) fun p2 G2 f2 s2 e2 => ?_))))))))))))
  rw [cutV_toN] at e2
  have d2 : DnAll Any G2 (xs.take ys.length) (ds.take ys.length) := dnAll_take ((da.same s1).same s2) _
  rw [hyl, ← hb2] at d2
  rw [hyl] at e2
  exact w_eqDs (ok := Any) (ok2 := Any) (d := .list es) (.lst trivial (s2 _ _ (s1 _ _ hb)) ((db.same s1).same s2)) (.lst trivial e2 d2) (lay_shaped lb hk) (q G2 (s1.trans s2))
/-- law: slots 0:script 1:cell 2:stream 3:people 4:world 5:k 6:rolls 7:name 8:held 9:rows 10:author 11:one 12:other 13:mine 14:theirs -/
def t_law (K : PySem.W.Frag) (C_Roll : Addr) (C_Letter : Addr) : TS := (tSeq (tAsg (tC (.int 0)) (gName 1))
  (tSeq (tIfS (tTest (tOp qGt (tCB (qLenSeq K) (tCons (tVar 0) tNil)) (tC (.int 0)))) (tAsg (tOp (rIxL K) (tVar 0) (tC (.int 0))) (gName 1)) tNext)
  (tSeq (tAsg (tCall (spStream K) [] C8.E0 (tCons (tVar 1) (tCons (tC (.int 0)) tNil))) (gName 2))
  (tSeq (tAsg (tSl (rSlL K) (tCall (spBase K) [] C8.E0 (tCons (tVar 2) tNil)) tNoPart (tPart (tOp qAdd (tC (.int 2)) (tCall (spNext K) [] C8.E0 (tCons (tVar 2) (tCons (tC (.int 7)) tNil)))))) (gName 3))
  (tSeq (tAsg (tCall (spNewWorld K C_Letter) [] C8.E0 (tCons (tVar 3) (tCons (tOp qAdd (tC (.int 1)) (tCall (spNext K) [] C8.E0 (tCons (tVar 2) (tCons (tCB (qLenSeq K) (tCons (tVar 3) tNil)) tNil)))) tNil))) (gName 4))
  (tSeq (tFor (iRng2 (tCons (tC (.int 1)) (tCons (tCB qMin2 (tCons (tCB (qLenSeq K) (tCons (tVar 0) tNil)) (tCons (tC (.int 63)) tNil))) tNil))) (gName 5) (tDrop (tCall (spStep K C_Letter) [] C8.E0 (tCons (tVar 4) (tCons (tCall (spStream K) [] C8.E0 (tCons (tOp (rIxL K) (tVar 0) (tVar 5)) (tCons (tVar 5) tNil))) tNil)))))
  (tSeq (tAsg (tLst tNil) (gName 6))
  (tSeq (tFor (iList K (tVar 3)) (gName 7) (tSeq (tAsg (tDGet (tDGet (tVar 4) (tC (.str "held"))) (tVar 7)) (gName 8))
  (tSeq (tAsg tDNewK (gName 9))
  (tSeq (tLock (tFor (iKeys (tVar 8)) (gName 10) (sDPut (tVar 9) (tVar 10) (tCall (spRow K C_Letter) [] C8.E0 (tCons (tVar 4) (tCons (tVar 8) (tCons (tVar 10) tNil)))))))
  (tIfS (tTest (tOp qGt (tCB Wp.qLenD (tCons (tVar 8) tNil)) (tC (.int 0)))) (tDrop (tBM K "list" rAppend (tVar 6) (tCons (tCall (spRollOf K C_Letter C_Roll) [] C8.E0 (tCons (tOp (rIxL K) (tVar 3) (tC (.int 0))) (tCons (tVar 9) tNil))) tNil))) tNext)))))
  (tSeq (tFor (iList K (tVar 6)) (gName 11) (tFor (iList K (tVar 6)) (gName 12) (tSeq (tAsg (tMeth C_Roll "cuts" (spCuts K C_Letter C_Roll) [] C8.E0 (tVar 11) tNil) (gName 13))
  (tSeq (tAsg (tMeth C_Roll "cuts" (spCuts K C_Letter C_Roll) [] C8.E0 (tVar 12) tNil) (gName 14))
  (tSeq (tIfS (tNot (tB (tCall (spBeginning K) [] C8.E0 (tCons (tLockE (tLc (iKeys (tVar 13)) (gName 7) tYes (tTup (tCons (tVar 7) (tCons (tDGet (tVar 13) (tVar 7)) tNil))) [7])) (tCons (tLockE (tLc (iKeys (tVar 14)) (gName 7) tYes (tTup (tCons (tVar 7) (tCons (tDGet (tVar 14) (tVar 7)) tNil))) [7])) tNil))))) (tRet (tC (.bl false))) tNext)
  (tSeq (tIfS (tNot (tB (tCall (spBeginning K) [] C8.E0 (tCons (tCall (spLCame K C_Letter C_Roll) [] C8.E0 (tCons (tVar 11) (tCons (tVar 3) tNil))) (tCons (tCall (spLCame K C_Letter C_Roll) [] C8.E0 (tCons (tVar 12) (tCons (tVar 3) tNil))) tNil))))) (tRet (tC (.bl false))) tNext)
  (tIfS (tAnd (tTest (tOp qLt (tCB Wp.qLenD (tCons (tVar 13) tNil)) (tCB Wp.qLenD (tCons (tVar 14) tNil)))) (tNot (tB (tMeth C_Roll "is_known" (spKnown K C_Letter C_Roll) [] C8.E0 (tVar 12) (tCons (tFld K (tVar 11) "keeper") tNil))))) (tRet (tC (.bl false))) tNext)))))))
  (tRet (tC (.bl true))))))))))))
theorem l_law (h : spLaw K vs H Q E) : vs.length = 1 := by obtain ⟨a, ns, rfl, _⟩ := h; rfl
theorem r_law (LC : IsC_Roll K C) (LCL : IsC_Letter K CL) (h : spLaw K vs H Q E) : t_law K C CL { nx := fun _ H' => Q .non H', rt := Q } (start ["script", "cell", "stream", "people", "world", "k", "rolls", "name", "held", "rows", "author", "one", "other", "mine", "theirs"] vs) H := by
  obtain ⟨a, ns, rfl, hS, hn, q⟩ := h
  unfold t_law
  refine w_seq (w_asg (w_c (w_name ?_)))
  with_reducible refine w_seq ?_
  refine w_ifCut (Mid := fun σ' G => ∃ z, σ' = [some (.ref a), some (.int z), none, none, none, none, none, none, none, none, none, none, none, none, none] ∧ G = H) ?_ ?_
  rotate_left
  · intro Rk hRk
    refine w_ifS (w_test (w_op (w_cb (w_cons (w_var rfl (w_nil (w_lenL hS (w_c (w_I0 (w_exb (w_ite (fun c => ?_) (fun c => w_next (hRk _ _ ⟨_, rfl, rfl⟩)))))))))))))
    rw [List.length_map] at c
    refine w_asg (w_op (w_var rfl (w_c (w_ixL (v := .int ns[0]) hS (atI_nat (j := 0) (by rw [List.getElem?_map, List.getElem?_eq_getElem (by omega)]; rfl)) (w_name (hRk _ _ ⟨_, rfl, rfl⟩))))))
  rintro σ' G ⟨z, rfl, rfl⟩
  with_reducible refine w_seq ?_
  refine w_asg (w_call (w_cons (w_var rfl (w_cons (w_c (w_nil ⟨_, _, rfl, fun p G1 p0 s1 st1 => w_name ?_⟩))))))
  with_reducible refine w_seq ?_
  refine w_asg (w_sl (w_call (w_cons (w_var rfl (w_nil ⟨p, rfl, st1, fun pb ps0 G2 pb0 k2 st2 hpb h8 => w_noPart (w_part (w_op (w_c (w_call (w_cons (w_var rfl (w_cons (w_c (w_nil ⟨p, 7, rfl, st2, by decide, by decide, fun j G3 k3 st3 j0 j1 => w_I0 (w_exi ?_)⟩)))))))))⟩)))))
  obtain ⟨j, rfl⟩ : ∃ j' : Nat, j = j' := ⟨j.toNat, by omega⟩
  have npb := stm_neS st2 hpb
  refine w_slLV (SqL.of (k3 _ _ npb hpb)) fun pa G4 f4 s4 e4 => w_name ?_
  have hp8 := h8.len
  have hok8 := names8_ok h8
  rw [show (2 : Int) + (j : Int) = ((2 + j : Nat) : Int) by omega, cutV_toN, ← List.map_take] at e4
  have sG2 : Same G G2 := Same.kp0 s1 k2 p0
  have sG4 : Same G G4 := (Same.kp0 sG2 k3 p0).trans s4
  have st4 := st3.same s4
  have hpl : (ps0.take (2 + j)).length = 2 + j := by rw [List.length_take]; omega
  have hpn : (ps0.take (2 + j)).Nodup := h8.nd.sublist (List.take_sublist _ _)
  have hpa : ∀ x ∈ ps0.take (2 + j), ascii x = true := fun x hx => hok8 x (List.mem_of_mem_take hx)
  have hj8 : 2 + j ≤ 8 := by omega
  generalize ps0.take (2 + j) = ps at e4 hpl hpn hpa
  clear hp8 hok8 h8 hpb k3 k2 st3 st2 sG2 s1 st1
  obtain ⟨f, hf⟩ : ∃ f, ps[0]? = some f := ⟨_, List.getElem?_eq_getElem (by omega)⟩
  have hfm := List.mem_of_getElem? hf
  have npa := stm_neS st4 e4
  -- the world
  with_reducible refine w_seq ?_
  refine w_asg (w_call (w_cons (w_var rfl (w_cons (w_op (w_c (w_call (w_cons (w_var rfl (w_cons (w_cb (w_cons (w_var rfl (w_nil (w_lenL (SqL.of e4) (w_nil ⟨p, _, rfl, st4, ?_, ?_, fun j2 G5 k5 st5 j20 j21 => w_I0 (w_nil ?_)⟩))))))))))))))))
  · rw [List.length_map]; omega
  · rw [List.length_map]; omega
  rw [List.length_map] at j21
  obtain ⟨j2, rfl⟩ : ∃ j' : Nat, j2 = j' := ⟨j2.toNat, by omega⟩
  have e5 := k5 _ _ npa e4
  have sG5 : Same G G5 := Same.kp0 sG4 k5 p0
  refine ⟨pa, 1 + j2, ps, f, by rw [show (1 : Int) + (j2 : Int) = ((1 + j2 : Nat) : Int) by omega]; rfl, e5, hf, hpn, by omega, hpa, by omega, by omega, fun w wl wh l x mm ds G6 s6 w0 wl0 wh0 l0 nwl nwh nlh hw hwl hl hh hds hdz hlt hwf hmn hml hmm => w_name ?_⟩
  obtain ⟨y0, hy0⟩ : ∃ y0 : Addr × Lt, y0 = (x, ltFd f mm) := ⟨_, rfl⟩
  have hst := w3_start hfm hpn hpa (s6 _ _ e5) (ne_of_none e5 l0).symm nwl nwh nlh hw hwl hl hh hds hdz hlt hwf hmn hml hmm
  rw [← hy0] at hst
  obtain ⟨hAt, hinv, hFd⟩ := hst
  have hl0 : ∀ x' ∈ [(⟨f, l, [y0]⟩ : Rw)], G x'.l = none := fun x' hx' => by
    rw [List.mem_singleton.mp hx']
    exact same_none sG5 l0
  have sG6 := sG5.trans s6
  have wl00 := same_none sG5 wl0
  have wh00 := same_none sG5 wh0
  clear hlt hw hwl hl s6 e5 k5 st5 st4 s4 npa sG5 sG4 e4 hdz hh hy0 hmm hds wl0 wh0 l0
  generalize ([⟨f, l, [y0]⟩] : List Rw) = R0 at hAt hinv hl0 hFd
  generalize hds0 f ds = Hs0 at hAt hinv
  -- the steps
  with_reducible refine w_seq ?_
  refine w_for (w_iRng2 (w_cons (w_c (w_cons (w_cb (w_cons (w_cb (w_cons (w_var rfl (w_nil (w_lenL (sG6.seq hS) (w_cons (w_c (w_nil (w_min2 (w_nil ?_))))))))))))))))
  rw [List.length_map]
  have hm : (if (63 : Int) < (ns.length : Int) then (63 : Int) else (ns.length : Int)) ≤ 63 ∧ (if (63 : Int) < (ns.length : Int) then (63 : Int) else (ns.length : Int)) ≤ ns.length ∧ 0 ≤ (if (63 : Int) < (ns.length : Int) then (63 : Int) else (ns.length : Int)) := by
    split <;> omega
  generalize (if (63 : Int) < (ns.length : Int) then (63 : Int) else (ns.length : Int)) = m at hm
  refine ⟨1, m, rfl, ⟨by decide, by decide, by omega, by omega⟩, ?_⟩
  refine for_it walk_range (fun i σ G' => (∃ u5, σ = [some (.ref a), some (.int z), some (.ref p), some (.ref pa), some (.ref w), u5, none, none, none, none, none, none, none, none, none]) ∧ Same G G' ∧ ∃ R Hs, W3At CL G' w pa wl wh f ps R Hs ∧ W3Inv f ps R Hs (i + 1) ∧ Fd R f (Str.ofString "room") mm y0 ∧ ∀ x' ∈ R, G x'.l = none)
    ⟨⟨_, rfl⟩, sG6, R0, Hs0, hAt, hinv, hFd, hl0⟩ (fun _ _ _ _ _ => trivial) ?_ ?_
  · rintro i x' σ Gz G' hi ⟨⟨u5, rfl⟩, sG', R, Hs, hA, hI, hF, hl'⟩ ⟨rfl, rfl⟩
    have hiI : (1 : Int) + (i : Int) < ns.length := by omega
    have hi62 : i + 1 ≤ 62 := by omega
    refine w_name ?_
    refine w_drop (w_call (w_cons (w_var rfl (w_cons (w_call (w_cons (w_op (w_var rfl (w_var rfl (w_ixL (v := .int ns[1 + i]) (sG'.seq hS) (atI_of (by omega) ?_) (w_cons (w_var rfl (w_nil ⟨_, _, rfl, fun p1 G1 f1 t1 stp1 => w_nil ?_⟩)))))))))))))
    · rw [List.getElem?_map, show (1 + (i : Int)).toNat = 1 + i by omega, List.getElem?_eq_getElem (by omega)]
      rfl
    have hp10 := same_none sG' f1
    have hA1 := hA.same t1
    refine ⟨w, pa, wl, wh, p1, f, _, ps, mm, y0, R, Hs, i + 1, rfl, hA1, hI, by omega, by omega, by omega, hpa, hF, stp1, fun v R' Hs' G2 fr st2 hA2 hI2 hnew hstep => ?_⟩
    have hF2 := hstep.fd hF
    have sG2 : Same G G2 := fun b o e => fr b o (ne_of_none e hp10) (ne_of_none e wl00) (ne_of_none e wh00) (fun x' hx' => ne_of_none e (hl' x' hx')) (t1 _ _ (sG' _ _ e))
    have hl2 : ∀ x' ∈ R', G x'.l = none := fun x' hx' => by
      rcases hnew x' hx' with h1 | ⟨z', hz', h1⟩
      · exact same_none (sG'.trans t1) h1
      · rw [← h1]
        exact hl' z' hz'
    exact ⟨⟨_, rfl⟩, sG2, R', Hs', hA2, hI2, hF2, hl2⟩
  rintro σ G' ⟨⟨u5, rfl⟩, sG', R, Hs, hA, hI, hF, hl'⟩
  have hn64 : (m - 1).toNat + 1 ≤ 63 := by omega
  generalize (m - 1).toNat + 1 = n at hI hn64
  clear hl' hm sG' hAt hinv hFd hl0 sG6
  have hlen5 : ∀ x ∈ R, x.ls.length ≤ 5000 := fun x hx => by have := hI.len x hx; omega
  have hwo := hA.wo hlen5
  have hok : ∀ x ∈ R, ∀ y ∈ x.ls, Wf y.2 ∧ ∃ B : Bb, y.2.b = B.toD := fun x hx y hy => (hA.ok x hx y hy).2
  -- the rolls
  with_reducible refine w_seq ?_
  refine w_asg (w_lstV (w_nil ⟨sz (by simp), w_new fun P G1 P0 s1 e1 => w_name ?_⟩))
  with_reducible refine w_seq ?_
  refine w_for (w_iList (w_var rfl ⟨pa, rfl, ⟨_, SqL.of (s1 _ _ hA.hpa)⟩, ?_⟩))
  have nPpa : pa ≠ P := ne_of_none hA.hpa P0
  refine for_it (walk_list (xs := ps.map V.str)) (fun k σ' G => (∃ u7 u8 u9 u10, σ' = [some (.ref a), some (.int z), some (.ref p), some (.ref pa), some (.ref w), u5, some (.ref P), u7, u8, u9, u10, none, none, none, none]) ∧ (∀ b o, b ≠ P → G1 b = some o → G b = some o) ∧ ∃ L : List (Rx × List (Str × Int)), G P = some (.lst (L.map fun r => V.ref r.1.x)) ∧ L.length ≤ k ∧ ∀ r ∈ L, r.1.dc ≠ r.1.dl ∧ RoAt CL C G r.1 ⟨f, (walkR R f mm y0 r.2).k, (walkR R f mm y0 r.2).came, (walkR R f mm y0 r.2).lim⟩ ∧ csum r.2 ≤ 4800) ⟨⟨_, _, _, _, rfl⟩, fun _ _ _ e => e, [], e1, Nat.le_refl _, fun r hr => (nomatch hr)⟩ (fun _ _ _ _ e => SqL.of (e.2.1 _ _ nPpa (s1 _ _ hA.hpa))) ?_ ?_
  · rintro k v σ' Gz G hk ⟨⟨u7, u8, u9, u10, rfl⟩, kx, L, eP, hLl, hL⟩ ⟨rfl, hxk⟩
    rw [List.getElem?_map] at hxk
    obtain ⟨nm, hnm, rfl⟩ := Option.map_eq_some_iff.mp hxk
    have hk' : k < ps.length := (List.getElem?_eq_some_iff.mp hnm).1
    obtain ⟨h, hh, rfl⟩ := hI.person (List.mem_of_getElem? hnm)
    have sG : Same G' G := fun b o e => kx b o (ne_of_none e P0) (s1 _ _ e)
    have hAG := hA.same sG
    obtain ⟨hkd, kd1, kd2, kd3⟩ := hAG.hs h hh
    have hd := hI.hd h hh
    have hcl := hI.clen hd.toCsOk
    have hcsum : csum h.cs ≤ 4800 := by
      have h1 := hI.csum hd.toCsOk
      have h2 : ps.length * n ≤ 60 * 80 := Nat.mul_le_mul (by omega) (by omega)
      omega
    have h0 : ∀ z ∈ h.cs, 0 ≤ z.2 := fun z hz => by have := hd.pos z hz; omega
    refine w_name ?_
    with_reducible refine w_seq ?_
    refine w_asg (w_dget (w_dget (w_var rfl (w_c ⟨w, .ref wh, rfl, w4_getH hAG.hw, w_var rfl ⟨wh, .ref h.d, rfl, valA_some V.ref (hd_get hI.hnd hh) ▸ DGet.k (k := Sum.inr h.nm) hAG.hh, w_name ?_⟩⟩))))
    with_reducible refine w_seq ?_
    refine w_asg (w_dnewK fun r G2 f2 s2 e2 => w_name ?_)
    have hA2 := hAG.same s2
    with_reducible refine w_seq ?_
    refine w_rowsL (R := R) (cs := h.cs) (pa := pa) (wh := wh) (f := f) ⟨u10, rfl⟩ (fun _ => rfl) (fun _ => rfl) (fun _ => rfl) (fun _ => rfl) (hwo.same (sG.trans s2)).wr (s2 _ _ hkd) h0 hd.nd (by omega) kd1 kd2 e2 (ne_of_none hkd f2).symm (ne_of_none hAG.hw f2).symm (ne_of_none hAG.hl f2).symm fun u R' G3 k3 er hRn hR => ?_
    have s23 : Same G G3 := fun b o e => k3 b o (ne_of_none e f2) (s2 _ _ e)
    have hkd3 := s23 _ _ hkd
    refine w_ifS (w_test (w_op (w_cb (w_cons (w_var rfl (w_nil ⟨h.d, _, rfl, hkd3, w_c (w_I0 (w_exb (w_ite (fun c1 => ?_) fun _ => w_next ⟨⟨_, _, _, _, rfl⟩, fun b o n1 e => s23 _ _ (kx b o n1 e), L, s23 _ _ eP, by omega, fun r hr => ⟨(hL r hr).1, (hL r hr).2.1.same s23, (hL r hr).2.2⟩⟩)))⟩))))))
    rw [asV_len] at c1
    have hkne : h.cs ≠ [] := fun e => by
      rw [e] at c1
      exact absurd c1 (by decide)
    have hRF : rowsF R' = rowC R h.cs := rowsF_cs hd.nd hRn fun x hx => (hR x hx).1
    have hr0 : (rowC R h.cs f)[0]? = some y0 := by
      have h1 := hd.fd hkne
      show ((rowsF R f).take (gC h.cs f).toNat)[0]? = some y0
      rw [List.getElem?_take, if_pos (by omega)]
      exact hF.r0
    have hrows : RowsAt CL G3 r R' := ⟨er, fun x hx => ⟨(hR x hx).2, by rw [(hR x hx).1]; exact rowC_ok (hwo.same (sG.trans s23)).rows h.cs x.nm⟩⟩
    have hend := walkEnd (R := R) (m := h.cs) hI.inv.toRowsW hd.nd h0 hd.hi (s0 := initW f mm y0 (rowC R h.cs f)) rfl
    have hf' : atI (ps.map V.str) 0 = some (.str f) := atI_nat (j := 0) (by rw [List.getElem?_map, hf]; rfl)
    refine w_drop (w_bm (w_var rfl (w_tyL (s23 _ _ eP) (w_cons (w_call (w_cons (w_op (w_var rfl (w_c (w_ixL (v := .str f) (SqL.of (hAG.same s23).hpa) hf' (w_cons (w_var rfl (w_nil ?_)))))))))))))
    refine ⟨r, R', f, y0, _, mm, 1 + (csum h.cs).toNat, walkR R f mm y0 h.cs, rfl, hrows, by rw [hRF]; exact hr0, hF.b, hF.nd, by have := hF.len; omega, by omega, by rw [hRF]; rfl, hend, fun G4 X X1 X2 X3 ncl s4 hRo => w_nil (w_appV (s4 _ _ (s23 _ _ eP)) (by rw [List.length_map]; omega) fun G5 k5 e5 => ?_)⟩
    have ePl := s4 _ _ (s23 _ _ eP)
    refine ⟨⟨_, _, _, _, rfl⟩, fun b o n1 e => k5 _ _ n1 (s4 _ _ (s23 _ _ (kx b o n1 e))), L ++ [(X, h.cs)], by rw [e5, List.map_append]; rfl, by rw [List.length_append, List.length_singleton]; omega, fun r' hr' => ?_⟩
    rcases List.mem_append.mp hr' with hr' | hr'
    · obtain ⟨h1, h2, h3⟩ := hL r' hr'
      exact ⟨h1, ((h2.same s23).same s4).kpL k5 ePl, h3⟩
    · rw [List.mem_singleton.mp hr']
      exact ⟨ncl, hRo.kpL k5 ePl, hcsum⟩
  rintro σ' G ⟨⟨u7, u8, u9, u10, rfl⟩, kx, L, eP, hLl, hL⟩
  rw [List.length_map] at hLl
  have hLl : L.length ≤ 8 := by omega
  have hpaG := kx _ _ nPpa (s1 _ _ hA.hpa)
  clear kx e1 s1 P0 hwo
  -- each with each
  with_reducible refine w_seq ?_
  refine w_for (w_iList (w_var rfl ⟨P, rfl, ⟨_, SqL.of eP⟩, ?_⟩))
  refine for_it (walk_list (xs := L.map fun r => V.ref r.1.x)) (fun k σ' G2 => (∃ u7 u11 u12 u13 u14, σ' = [some (.ref a), some (.int z), some (.ref p), some (.ref pa), some (.ref w), u5, some (.ref P), u7, u8, u9, u10, u11, u12, u13, u14]) ∧ Same G G2) ⟨⟨_, _, _, _, _, rfl⟩, Same.refl _⟩ (fun _ _ _ _ e => SqL.of (e.2 _ _ eP)) ?_ ?_
  · rintro k v σ' Gz G2 hk ⟨⟨u7', u11, u12, u13, u14, rfl⟩, s2⟩ ⟨rfl, hxk⟩
    rw [List.getElem?_map] at hxk
    obtain ⟨r1, hr1, rfl⟩ := Option.map_eq_some_iff.mp hxk
    obtain ⟨n1, ho1, hc1⟩ := hL r1 (List.mem_of_getElem? hr1)
    refine w_name ?_
    refine w_for (w_iList (w_var rfl ⟨P, rfl, ⟨_, SqL.of (s2 _ _ eP)⟩, ?_⟩))
    refine for_it (walk_list (xs := L.map fun r => V.ref r.1.x)) (fun k σ' G3 => (∃ u7 u12 u13 u14, σ' = [some (.ref a), some (.int z), some (.ref p), some (.ref pa), some (.ref w), u5, some (.ref P), u7, u8, u9, u10, some (.ref r1.1.x), u12, u13, u14]) ∧ Same G2 G3) ⟨⟨_, _, _, _, rfl⟩, Same.refl _⟩ (fun _ _ _ _ e => SqL.of (e.2 _ _ (s2 _ _ eP))) ?_ ?_
    rotate_left
    · rintro σ' G3 ⟨⟨u7, u12, u13, u14, rfl⟩, s3⟩
      exact ⟨⟨_, _, _, _, _, rfl⟩, s2.trans s3⟩
    rintro k2 v2 σ' Gz2 G3 hk2 ⟨⟨u7'', u12', u13', u14', rfl⟩, s3⟩ ⟨rfl, hxk2⟩
    rw [List.getElem?_map] at hxk2
    obtain ⟨r2, hr2, rfl⟩ := Option.map_eq_some_iff.mp hxk2
    obtain ⟨n2, ho2, hc2⟩ := hL r2 (List.mem_of_getElem? hr2)
    have s23 := s2.trans s3
    have hi1 := walkR_inv hI.inv.toRowsW hF hok r1.2
    have hi2 := walkR_inv hI.inv.toRowsW hF hok r2.2
    obtain ⟨t1, t2, ⟨ec1, el1, ek1, old1⟩, ⟨ec2, el2, ek2, old2⟩, hgr⟩ := walks hI.inv.toRowsW (ms := mm) hF.r0 r1.2 r2.2
    have hwl1 := hi1.l2
    have hwl2 := hi2.l2
    have hlw1 := hi1.lm
    have hlw2 := hi2.lm
    have hnd1 := hi1.nd
    have hnd2 := hi2.nd
    rw [el1] at hwl1 hlw1 hnd1
    rw [el2] at hwl2 hlw2 hnd2
    rw [ec1, el1, ek1] at ho1
    rw [ec2, el2, ek2] at ho2
    obtain ⟨dx1, hx1⟩ := (ho1.same s23).hx
    obtain ⟨dx2, hx2⟩ := (ho2.same s23).hx
    refine w_name ?_
    with_reducible refine w_seq ?_
    refine w_asg (w_methV rfl hx1 rfl (w_nil ⟨r1.1, _, rfl, ho1.same s23, fun d1 G4 f4 s4 e4 => w_name ?_⟩))
    have e4 : G4 d1 = some (.dK (asV V.int t1.lim)) := e4
    with_reducible refine w_seq ?_
    refine w_asg (w_methV rfl (s4 _ _ hx2) rfl (w_nil ⟨r2.1, _, rfl, ho2.same (s23.trans s4), fun d2 G5 f5 s5 e5 => w_name ?_⟩))
    have e5 : G5 d2 = some (.dK (asV V.int t2.lim)) := e5
    have e45 := s5 _ _ e4
    have s25 := (s23.trans s4).trans s5
    have lpair : ∀ l : List (Str × Int), (∀ z ∈ l, PyData.strOk z.1 = true) → ∀ d ∈ l.map pairD, Lay 1 d := fun l hl d hd => by
      obtain ⟨z, hz, rfl⟩ := List.mem_map.mp hd
      exact lay2 (k := 0) ⟨by rw [PyData.canLay0]; exact hl z hz, by rw [PyData.depth]; exact Nat.zero_le _⟩ lay_int
    -- cuts
    with_reducible refine w_seq ?_
    refine w_ifS (w_not (w_B (w_call (w_cons (lcPairs e45 hnd1 (by omega) rfl (fun _ => rfl) (fun _ => rfl) (fun _ => rfl) fun D1 ts1 G6 f6 s6 e6 dn6 => ?_)))))
    refine w_cons (lcPairs (s6 _ _ e5) hnd2 (by omega) rfl (fun _ => rfl) (fun _ => rfl) (fun _ => rfl) fun D2 ts2 G7 f7 s7 e7 dn7 => w_nil ?_)
    refine ⟨D1, D2, ts1, ts2, _, _, 1, rfl, s7 _ _ e6, e7, dn6.same s7, dn7, lpair _ hlw1, lpair _ hlw2, by decide, ?_, fun G8 s8 => w_exb (w_nt (w_next ?_))⟩
    · rcases hgr with g | g
      · obtain ⟨ext, he⟩ := g.lim
        exact .inl (by rw [he, List.map_append, List.take_left])
      · obtain ⟨ext, he⟩ := g.lim
        exact .inr (by rw [he, List.map_append, List.take_left])
    have s58 := (s6.trans s7).trans s8
    have s28 := s25.trans s58
    -- those who came
    have hla : ∀ (t : Wk), Old t → RoAt CL C G r1.1 ⟨f, t.k, t.came, t.lim⟩ ∨ RoAt CL C G r2.1 ⟨f, t.k, t.came, t.lim⟩ → ∀ d ∈ srtD (cameD t.came ps), Lay 3 d := fun t _ hro d hd => by
      have hd := (List.mergeSort_perm _ _).mem_iff.mp hd
      obtain ⟨nm, y, hnm, hy, rfl⟩ := cameD_in hd
      have hyw : Wf y.2 := by
        rcases hro with h | h
        · exact (h.ok _ (getA_mem hy)).2
        · exact (h.ok _ (getA_mem hy)).2
      exact lay3 (k := 2) lay_int (lay2 (k := 1) (lay_str hyw.aa) lay_int) (lay_str (hpa nm hnm))
    have hpa8 := s28 _ _ hpaG
    with_reducible refine w_seq ?_
    refine w_ifS (w_not (w_B (w_call (w_cons (w_call (w_cons (w_var rfl (w_cons (w_var rfl (w_nil ⟨r1.1, _, pa, ps, rfl, ho1.same s28, hpa8, by omega, fun q1 ws1 G9 f9 s9 e9 dn9 => ?_⟩))))))))) )
    refine w_cons (w_call (w_cons (w_var rfl (w_cons (w_var rfl (w_nil ⟨r2.1, _, pa, ps, rfl, ho2.same (s28.trans s9), s9 _ _ hpa8, by omega, fun q2 ws2 G10 f10 s10 e10 dn10 => w_nil ?_⟩))))))
    refine ⟨q1, q2, ws1, ws2, _, _, 3, rfl, s10 _ _ e9, e10, dn9.same s10, dn10, hla t1 old1 (.inl ho1), hla t2 old2 (.inr ho2), by decide, ?_, fun G11 s11 => w_exb (w_nt (w_next ?_))⟩
    · rcases hgr with g | g
      · have h1 := came_begins g ps
        exact .inl (by rw [h1, List.take_left])
      · have h1 := came_begins g ps
        exact .inr (by rw [h1, List.take_left])
    have s211 := ((s28.trans s9).trans s10).trans s11
    have s511 := ((s58.trans s9).trans s10).trans s11
    obtain ⟨dy1, hy1⟩ := (ho1.same s211).hx
    obtain ⟨dy2, hy2⟩ := (ho2.same s211).hx
    have fin : ∀ G12, Same G11 G12 → _ := fun G12 s12 => (⟨⟨u7'', some (.ref r2.1.x), some (.ref d1), some (.ref d2), rfl⟩, ((s3.trans s4).trans s5).trans (s511.trans s12)⟩ : (∃ u7 u12 u13 u14, [some (.ref a), some (.int z), some (.ref p), some (.ref pa), some (.ref w), u5, some (.ref P), u7'', u8, u9, u10, some (.ref r1.1.x), some (.ref r2.1.x), some (.ref d1), some (.ref d2)] = [some (.ref a), some (.int z), some (.ref p), some (.ref pa), some (.ref w), u5, some (.ref P), u7, u8, u9, u10, some (.ref r1.1.x), u12, u13, u14]) ∧ Same G2 G12)
    -- the keeper
    refine w_ifS (w_and (w_test (w_op (w_cb (w_cons (w_var rfl (w_nil ⟨d1, _, rfl, s511 _ _ e45, w_cb (w_cons (w_var rfl (w_nil ⟨d2, _, rfl, s511 _ _ e5, w_I0 (w_exb (w_ite (fun c1 => ?_) fun _ => ite_f (by decide) (w_next (fin G11 (Same.refl _)))))⟩)))⟩)))))))
    rw [asV_len, asV_len] at c1
    have g : Grow t1 t2 := by
      rcases hgr with g | g
      · exact g
      · obtain ⟨ext, he⟩ := g.lim
        rw [he, List.length_append] at c1
        omega
    refine w_not (w_B (w_methV rfl hy2 rfl (w_cons (w_fldV rfl hy1 LC.cl LC.n_keeper rfl (w_nil ⟨r2.1, _, t1.k, rfl, ho2.same s211, w_exb ?_⟩)))))
    obtain ⟨y, hy⟩ := Option.isSome_iff_exists.mp old1.kn
    rw [show getA t2.came t1.k = some y from g.came _ _ hy]
    exact w_nt (w_next (fin G11 (Same.refl _)))
  rintro σ' G2 ⟨⟨u7, u11, u12, u13, u14, rfl⟩, s2⟩
  with_reducible refine w_ret ?_
  exact w_c (q G2)
end

section
variable {P : Program} {w : World} {K : PySem.W.Frag} {mg : Str → Option Value} {base : Heap} {C_Roll : Addr} {C_Letter : Addr}
def topS (i : Nat) : Stmt := PySem.Challenge.pw_lettersonce_k21_whole_rolls_one_of_the_o.main.body.getD i (.Pass ⟨0, 0, 0, 0⟩)
def inC (s : Stmt) (j : Nat) : Stmt := (C8.clsBody s).getD j (.Pass ⟨0, 0, 0, 0⟩)
abbrev s_is_act : Stmt := topS 2
theorem sc_is_act : FnScope ["body"] ["body"] (C8.fnScope s_is_act) := C8.fnScope_by (by decide +kernel)
theorem c_is_act {f : Addr} {fd : FuncData} (F : C8.Def K mg "is_act" s_is_act f fd) (b : Binds K fd ["body"] [])
   :
  C8.Cal P w K mg base 1 "is_act" (spIsAct K) [] :=
  C8.cal0 F b .nil sc_is_act (fun vs H Q E h => l_is_act h) (fun cdv A outer s H vs Q E hr h => ⟨t_is_act K,
  (pss_one (ps_ret (pe_cmpR op_in_seq (pe_ix ix_tup (pv 0) pe_int (fun _ _ => rfl)) (pe_tup (pa_cons pe_str (pa_cons pe_str (pa_cons pe_str pa_nil)))) (by rfl)))), r_is_act h⟩)
abbrev s_Roll___init__ : Stmt := inC (topS 7) 0
theorem sc_Roll___init__ : FnScope ["self", "founder", "keeper", "came", "limits"] ["self", "founder", "keeper", "came", "limits"] (C8.fnScope s_Roll___init__) := C8.fnScope_by (by decide +kernel)
theorem c_Roll___init__ {f : Addr} {fd : FuncData} (M : Mk K C_Roll f) (hm : mg "Roll" = some (.ref C_Roll)) (F : C8.Fun K "__init__" "Roll.__init__" s_Roll___init__ f fd) (b : Binds K fd ["self", "founder", "keeper", "came", "limits"] [])
  (LC_Roll : IsC_Roll K C_Roll) (LC_Letter : IsC_Letter K C_Letter) (n_dict : mg "dict" = none) :
  C8.Mak P w K mg base 1 "Roll" C_Roll (spRInit K C_Letter C_Roll) [] :=
  C8.mak0 M hm F b .nil sc_Roll___init__ (fun vs H Q E h => l_Roll___init__ h) (fun cdv A outer s H vs Q E hr h => ⟨t_Roll___init__ K C_Roll C_Letter,
  (pss_cons (ps_fld (pv 0) (pv 1) rfl)
  (pss_cons (ps_fld (pv 0) (pv 2) rfl)
  (pss_cons (ps_fld (pv 0) (pe_callTy call_dictD (by rfl) n_dict (by decide +kernel) (pa_cons (pv 3) pa_nil)) rfl)
  (pss_one (ps_fld (pv 0) (pe_callTy call_dictD (by rfl) n_dict (by decide +kernel) (pa_cons (pv 4) pa_nil)) rfl))))), r_Roll___init__ LC_Roll LC_Letter h⟩)
abbrev s_Roll_cuts : Stmt := inC (topS 7) 3
theorem sc_Roll_cuts : FnScope ["self"] ["self"] (C8.fnScope s_Roll_cuts) := C8.fnScope_by (by decide +kernel)
theorem c_Roll_cuts {f : Addr} {fd : FuncData} (me : Meth K C_Roll "cuts" f) (F : C8.Fun K "cuts" "Roll.cuts" s_Roll_cuts f fd) (b : Binds K fd ["self"] [])
  (LC_Roll : IsC_Roll K C_Roll) (LC_Letter : IsC_Letter K C_Letter) (n_dict : mg "dict" = none) :
  C8.Met P w K mg base 1 C_Roll "cuts" (spCuts K C_Letter C_Roll) [] :=
  C8.met0 LC_Roll.cl me F b sc_Roll_cuts (fun vs H Q E h => l_Roll_cuts h) (fun cdv A outer s H vs Q E hr h => ⟨t_Roll_cuts K C_Roll C_Letter,
  (pss_one (ps_ret (pe_callTy call_dictD (by rfl) n_dict (by decide +kernel) (pa_cons (pe_fld (pv 0) rfl) pa_nil)))), r_Roll_cuts LC_Roll LC_Letter h⟩)
abbrev s_Roll_is_known : Stmt := inC (topS 7) 4
theorem sc_Roll_is_known : FnScope ["self", "name"] ["self", "name"] (C8.fnScope s_Roll_is_known) := C8.fnScope_by (by decide +kernel)
theorem c_Roll_is_known {f : Addr} {fd : FuncData} (me : Meth K C_Roll "is_known" f) (F : C8.Fun K "is_known" "Roll.is_known" s_Roll_is_known f fd) (b : Binds K fd ["self", "name"] [])
  (LC_Roll : IsC_Roll K C_Roll) (LC_Letter : IsC_Letter K C_Letter) :
  C8.Met P w K mg base 1 C_Roll "is_known" (spKnown K C_Letter C_Roll) [] :=
  C8.met0 LC_Roll.cl me F b sc_Roll_is_known (fun vs H Q E h => l_Roll_is_known h) (fun cdv A outer s H vs Q E hr h => ⟨t_Roll_is_known K C_Roll C_Letter,
  (pss_one (ps_ret (pe_cmp (pc_din (Wp.hu1 hr) (pv 1) (pe_fld (pv 0) rfl))))), r_Roll_is_known LC_Roll LC_Letter h⟩)
abbrev s_Roll__must_know : Stmt := inC (topS 7) 10
theorem sc_Roll__must_know : FnScope ["self", "name"] ["self", "name"] (C8.fnScope s_Roll__must_know) := C8.fnScope_by (by decide +kernel)
theorem c_Roll__must_know {f : Addr} {fd : FuncData} (me : Meth K C_Roll "_must_know" f) (F : C8.Fun K "_must_know" "Roll._must_know" s_Roll__must_know f fd) (b : Binds K fd ["self", "name"] [])
  (LC_Roll : IsC_Roll K C_Roll) (LC_Letter : IsC_Letter K C_Letter) :
  C8.Met P w K mg base 1 C_Roll "_must_know" (spMust K C_Letter C_Roll) [] :=
  C8.met0 LC_Roll.cl me F b sc_Roll__must_know (fun vs H Q E h => l_Roll__must_know h) (fun cdv A outer s H vs Q E hr h => ⟨t_Roll__must_know K C_Roll C_Letter,
  (pss_one (ps_if (pt_cmp (pc_dnotin (Wp.hu1 hr) (pv 1) (pe_fld (pv 0) rfl))) (pss_one Wp.ps_no) pss_nil)), r_Roll__must_know LC_Roll LC_Letter h⟩)
abbrev s__is_other_member : Stmt := topS 9
theorem sc__is_other_member : FnScope ["name", "keeper", "came", "limits"] ["name", "keeper", "came", "limits"] (C8.fnScope s__is_other_member) := C8.fnScope_by (by decide +kernel)
theorem c__is_other_member {f : Addr} {fd : FuncData} (F : C8.Def K mg "_is_other_member" s__is_other_member f fd) (b : Binds K fd ["name", "keeper", "came", "limits"] [])
   :
  C8.Cal P w K mg base 1 "_is_other_member" (spOther K) [] :=
  C8.cal0 F b .nil sc__is_other_member (fun vs H Q E h => l__is_other_member h) (fun cdv A outer s H vs Q E hr h => ⟨t__is_other_member K,
  (pss_one (ps_ret (pe_and (pe_cmp (pc_din (Wp.hu1 hr) (pv 0) (pv 2))) (pe_and (pe_cmp (pc_dnotin (Wp.hu1 hr) (pv 0) (pv 3))) (pe_one (pe_cmpR op_ne (pv 0) (pv 1) (nomark _))))))), r__is_other_member h⟩)
abbrev s_Letter___init__ : Stmt := inC (topS 12) 0
theorem sc_Letter___init__ : FnScope ["self", "author", "number", "stamp", "seen", "body", "name", "count"] ["self", "author", "number", "stamp", "seen", "body"] (C8.fnScope s_Letter___init__) := C8.fnScope_by (by decide +kernel)
theorem c_Letter___init__ {f : Addr} {fd : FuncData} (M : Mk K C_Letter f) (hm : mg "Letter" = some (.ref C_Letter)) (F : C8.Fun K "__init__" "Letter.__init__" s_Letter___init__ f fd) (b : Binds K fd ["self", "author", "number", "stamp", "seen", "body"] [])
  (LC_Letter : IsC_Letter K C_Letter) :
  C8.Mak P w K mg base 1 "Letter" C_Letter (spInit K C_Letter) [] :=
  C8.mak0 M hm F b .nil sc_Letter___init__ (fun vs H Q E h => l_Letter___init__ h) (fun cdv A outer s H vs Q E hr h => ⟨t_Letter___init__ K C_Letter,
  (pss_cons (ps_fld (pv 0) (pv 1) rfl)
  (pss_cons (ps_fld (pv 0) (pv 2) rfl)
  (pss_cons (ps_fld (pv 0) (pv 3) rfl)
  (pss_cons (ps_fld (pv 0) (pv 4) rfl)
  (pss_cons (ps_fld (pv 0) (pv 5) rfl)
  (pss_one (ps_fld (pv 0) (pe_dc (own := [("name", 6), ("count", 7)]) (g := (gTup K 2 (gCons (gName 6) (gCons (gName 7) gNil)))) (tt := tYes) (by rfl) sc_Letter___init__.nd (pi_tup (pv 4)) (blkOk_by (own := [("name", 6), ("count", 7)]) (N := ["self", "author", "number", "stamp", "seen", "body", "name", "count"]) (sc := C8.fnScope s_Letter___init__) (by decide +kernel)) (fun _ _ _ _ _ => (pg_tup rfl (pgs_cons (pg_name (i := 6) sc_Letter___init__.nd rfl (Or.inl rfl)) (pgs_cons (pg_name (i := 7) sc_Letter___init__.nd rfl (Or.inl rfl)) pgs_nil)))) (fun _ _ _ _ _ => pts_nil) (fun _ _ _ _ _ => (pv 6)) (fun _ _ _ _ _ => (pv 7))) rfl))))))), r_Letter___init__ LC_Letter h⟩)
abbrev s_Letter_ref : Stmt := inC (topS 12) 1
theorem sc_Letter_ref : FnScope ["self"] ["self"] (C8.fnScope s_Letter_ref) := C8.fnScope_by (by decide +kernel)
theorem c_Letter_ref {f : Addr} {fd : FuncData} {p : Addr} (hp : PropOf K C_Letter "ref" p f) (F : C8.Fun K "ref" "Letter.ref" s_Letter_ref f fd) (b : Binds K fd ["self"] [])
  (LC_Letter : IsC_Letter K C_Letter) :
  Wp.Prp P w K mg base 1 C_Letter "ref" (spRefP K C_Letter) :=
  Wp.prp0 LC_Letter.cl hp F b sc_Letter_ref (fun vs H Q E h => l_Letter_ref h) (fun cdv A outer s H vs Q E hr h => ⟨t_Letter_ref K C_Letter,
  (pss_one (ps_ret (pe_tup (pa_cons (pe_fld (pv 0) rfl) (pa_cons (pe_fld (pv 0) rfl) pa_nil))))), r_Letter_ref LC_Letter h⟩)
abbrev s_Letter_count : Stmt := inC (topS 12) 3
theorem sc_Letter_count : FnScope ["self", "name"] ["self", "name"] (C8.fnScope s_Letter_count) := C8.fnScope_by (by decide +kernel)
theorem c_Letter_count {f : Addr} {fd : FuncData} (me : Meth K C_Letter "count" f) (F : C8.Fun K "count" "Letter.count" s_Letter_count f fd) (b : Binds K fd ["self", "name"] [])
  (LC_Letter : IsC_Letter K C_Letter) :
  C8.Met P w K mg base 1 C_Letter "count" (spCount K C_Letter) [] :=
  C8.met0 LC_Letter.cl me F b sc_Letter_count (fun vs H Q E h => l_Letter_count h) (fun cdv A outer s H vs Q E hr h => ⟨t_Letter_count K C_Letter,
  (pss_one (ps_ret (pe_dget2 (Wp.hu1 hr) (pe_fld (pv 0) rfl) (pv 1) pe_int ⟨rfl, rfl, rfl, rfl⟩))), r_Letter_count LC_Letter h⟩)
abbrev s__law_stream : Stmt := topS 14
theorem sc__law_stream : FnScope ["cell", "k", "digits"] ["cell", "k"] (C8.fnScope s__law_stream) := C8.fnScope_by (by decide +kernel)
theorem c__law_stream {f : Addr} {fd : FuncData} (F : C8.Def K mg "_law_stream" s__law_stream f fd) (b : Binds K fd ["cell", "k"] [])
  (n_int : mg "int" = none) :
  C8.Cal P w K mg base 1 "_law_stream" (spStream K) [] :=
  C8.cal0 F b .nil sc__law_stream (fun vs H Q E h => l__law_stream h) (fun cdv A outer s H vs Q E hr h => ⟨t__law_stream K,
  (pss_cons (ps_set (i := 2) sc__law_stream.nd rfl (Or.inl rfl) pe_int)
  (pss_cons (ps_if (pt_cmpR op_ge (pv 0) (pe_op op_pow pe_int pe_int) (nomark _)) (pss_one (ps_set (i := 2) sc__law_stream.nd rfl (Or.inl rfl) (pv 0))) pss_nil)
  (pss_one (ps_ret (pe_lst (pa_cons (pv 2) (pa_cons (pe_op op_mod (pe_callTy call_int1 (by rfl) n_int (by decide +kernel) (pa_cons (pe_op op_add (pe_op op_add (pe_op op_mul (pv 0) pe_int) (pe_op op_mul (pv 1) pe_int)) pe_int) pa_nil)) pe_int) pa_nil))))))), r__law_stream h⟩)
abbrev s__law_next : Stmt := topS 15
theorem sc__law_next : FnScope ["stream", "size", "drawn"] ["stream", "size"] (C8.fnScope s__law_next) := C8.fnScope_by (by decide +kernel)
theorem c__law_next {f : Addr} {fd : FuncData} (F : C8.Def K mg "_law_next" s__law_next f fd) (b : Binds K fd ["stream", "size"] [])
  (n_int : mg "int" = none) :
  C8.Cal P w K mg base 1 "_law_next" (spNext K) [] :=
  C8.cal0 F b .nil sc__law_next (fun vs H Q E h => l__law_next h) (fun cdv A outer s H vs Q E hr h => ⟨t__law_next K,
  (pss_cons (ps_if (pt_cmpR op_gt (pe_ix ix_list (pv 0) pe_int (fun _ _ => rfl)) pe_int (nomark _)) (pss_cons (ps_set (i := 2) sc__law_next.nd rfl (Or.inl rfl) (pe_op op_mod (pe_callTy call_int1 (by rfl) n_int (by decide +kernel) (pa_cons (pe_ix ix_list (pv 0) pe_int (fun _ _ => rfl)) pa_nil)) (pv 1)))
  (pss_cons (ps_asg (pe_op op_fdiv (pe_ix ix_list (pv 0) pe_int (fun _ _ => rfl)) (pv 1)) (pg_sub (pv 0) pe_int set_list))
  (pss_one (ps_ret (pv 2))))) pss_nil)
  (pss_cons (ps_asg (pe_op op_mod (pe_callTy call_int1 (by rfl) n_int (by decide +kernel) (pa_cons (pe_op op_add (pe_op op_mul (pe_ix ix_list (pv 0) pe_int (fun _ _ => rfl)) pe_int) pe_int) pa_nil)) pe_int) (pg_sub (pv 0) pe_int set_list))
  (pss_one (ps_ret (pe_op op_mod (pe_callTy call_int1 (by rfl) n_int (by decide +kernel) (pa_cons (pe_op op_fdiv (pe_op op_mod (pe_callTy call_int1 (by rfl) n_int (by decide +kernel) (pa_cons (pe_op op_add (pe_op op_mul (pe_ix ix_list (pv 0) pe_int (fun _ _ => rfl)) pe_int) pe_int) pa_nil)) pe_int) pe_int) pa_nil)) (pv 1)))))), r__law_next h⟩)
abbrev s__law_row : Stmt := topS 21
theorem sc__law_row : FnScope ["world", "counts", "name"] ["world", "counts", "name"] (C8.fnScope s__law_row) := C8.fnScope_by (by decide +kernel)
theorem c__law_row {f : Addr} {fd : FuncData} (F : C8.Def K mg "_law_row" s__law_row f fd) (b : Binds K fd ["world", "counts", "name"] [])
  (LC_Letter : IsC_Letter K C_Letter) :
  C8.Cal P w K mg base 1 "_law_row" (spRow K C_Letter) [] :=
  C8.cal0 F b .nil sc__law_row (fun vs H Q E h => l__law_row h) (fun cdv A outer s H vs Q E hr h => ⟨t__law_row K C_Letter,
  (pss_one (ps_ret (pe_slice sl_list (pe_dget2 (Wp.hu1 hr) (pe_dget (Wp.hu1 hr) (pv 0) pe_str (fun _ _ => rfl)) (pv 2) (pe_lst pa_nil) ⟨rfl, rfl, rfl, rfl⟩) po_none (po_some (pe_dget2 (Wp.hu1 hr) (pv 1) (pv 2) pe_int ⟨rfl, rfl, rfl, rfl⟩))))), r__law_row LC_Letter h⟩)
abbrev s__law_beginning : Stmt := topS 31
theorem sc__law_beginning : FnScope ["first", "second"] ["first", "second"] (C8.fnScope s__law_beginning) := C8.fnScope_by (by decide +kernel)
theorem c__law_beginning {f : Addr} {fd : FuncData} (F : C8.Def K mg "_law_beginning" s__law_beginning f fd) (b : Binds K fd ["first", "second"] [])
  (n_len : mg "len" = none) :
  C8.Cal P w K mg base 1 "_law_beginning" (spBeginning K) [] :=
  C8.cal0 F b .nil sc__law_beginning (fun vs H Q E h => l__law_beginning h) (fun cdv A outer s H vs Q E hr h => ⟨t__law_beginning K,
  (pss_one (ps_ret (pe_or (pe_cmpR (op_eqD hr.units) (pv 0) (pe_slice sl_list (pv 1) po_none (po_some (pe_callB call_len_seq (by rfl) n_len (by decide +kernel) (pa_cons (pv 0) pa_nil)))) (nomark _)) (pe_one (pe_cmpR (op_eqD hr.units) (pv 1) (pe_slice sl_list (pv 0) po_none (po_some (pe_callB call_len_seq (by rfl) n_len (by decide +kernel) (pa_cons (pv 1) pa_nil)))) (nomark _)))))), r__law_beginning h⟩)
abbrev s_Roll_came_by : Stmt := inC (topS 7) 6
theorem sc_Roll_came_by : FnScope ["self", "name"] ["self", "name"] (C8.fnScope s_Roll_came_by) := C8.fnScope_by (by decide +kernel)
theorem c_Roll_came_by {f : Addr} {fd : FuncData} (me : Meth K C_Roll "came_by" f) (F : C8.Fun K "came_by" "Roll.came_by" s_Roll_came_by f fd) (b : Binds K fd ["self", "name"] [])
  (LC_Roll : IsC_Roll K C_Roll) (LC_Letter : IsC_Letter K C_Letter) (c_Roll__must_know : C8.Met P w K mg base 1 C_Roll "_must_know" (spMust K C_Letter C_Roll) []) :
  C8.Met P w K mg base 2 C_Roll "came_by" (spCameBy K C_Letter C_Roll) [] :=
  C8.met0 LC_Roll.cl me F b sc_Roll_came_by (fun vs H Q E h => l_Roll_came_by h) (fun cdv A outer s H vs Q E hr h => ⟨t_Roll_came_by K C_Roll C_Letter,
  (pss_cons (ps_expr (C8.pe_mt c_Roll__must_know hr (by decide) (pv 0) (pa_cons (pv 1) pa_nil)))
  (pss_one (ps_ret (pe_dget (Wp.hu1 hr) (pe_fld (pv 0) rfl) (pv 1) (fun _ _ => rfl))))), r_Roll_came_by LC_Roll LC_Letter h⟩)
abbrev s_Letter_has_seen : Stmt := inC (topS 12) 4
theorem sc_Letter_has_seen : FnScope ["self", "ref", "name", "number"] ["self", "ref"] (C8.fnScope s_Letter_has_seen) := C8.fnScope_by (by decide +kernel)
theorem c_Letter_has_seen {f : Addr} {fd : FuncData} (me : Meth K C_Letter "has_seen" f) (F : C8.Fun K "has_seen" "Letter.has_seen" s_Letter_has_seen f fd) (b : Binds K fd ["self", "ref"] [])
  (LC_Letter : IsC_Letter K C_Letter) (c_Letter_count : C8.Met P w K mg base 1 C_Letter "count" (spCount K C_Letter) []) :
  C8.Met P w K mg base 2 C_Letter "has_seen" (spSeenP K C_Letter) [] :=
  C8.met0 LC_Letter.cl me F b sc_Letter_has_seen (fun vs H Q E h => l_Letter_has_seen h) (fun cdv A outer s H vs Q E hr h => ⟨t_Letter_has_seen K C_Letter,
  (pss_cons (ps_asg (pv 1) (pg_tup rfl (pgs_cons (pg_name (i := 2) sc_Letter_has_seen.nd rfl (Or.inl rfl)) (pgs_cons (pg_name (i := 3) sc_Letter_has_seen.nd rfl (Or.inl rfl)) pgs_nil))))
  (pss_one (ps_ret (pe_cmpR op_ge (C8.pe_mt c_Letter_count hr (by decide) (pv 0) (pa_cons (pv 2) pa_nil)) (pv 3) (nomark _))))), r_Letter_has_seen LC_Letter h⟩)
abbrev s__law_base : Stmt := topS 18
theorem sc__law_base : FnScope ["stream", "names", "start", "step", "k"] ["stream"] (C8.fnScope s__law_base) := C8.fnScope_by (by decide +kernel)
theorem c__law_base {f : Addr} {fd : FuncData} (F : C8.Def K mg "_law_base" s__law_base f fd) (b : Binds K fd ["stream"] [])
  (c__law_next : C8.Cal P w K mg base 1 "_law_next" (spNext K) []) (n_range : mg "range" = none) :
  C8.Cal P w K mg base 2 "_law_base" (spBase K) [] :=
  C8.cal0 F b .nil sc__law_base (fun vs H Q E h => l__law_base h) (fun cdv A outer s H vs Q E hr h => ⟨t__law_base K,
  (pss_cons (ps_set (i := 1) sc__law_base.nd rfl (Or.inr rfl) (pe_lst (pa_cons pe_str (pa_cons pe_str (pa_cons pe_str (pa_cons pe_str (pa_cons pe_str (pa_cons pe_str (pa_cons pe_str (pa_cons pe_str pa_nil))))))))))
  (pss_cons (ps_set (i := 2) sc__law_base.nd rfl (Or.inr rfl) (C8.pe_c c__law_next hr (by decide) (by rfl) (pa_cons (pv 0) (pa_cons pe_int pa_nil))))
  (pss_cons (ps_set (i := 3) sc__law_base.nd rfl (Or.inr rfl) (pe_op op_add pe_int (pe_op op_mul pe_int (C8.pe_c c__law_next hr (by decide) (by rfl) (pa_cons (pv 0) (pa_cons pe_int pa_nil))))))
  (pss_one (ps_ret (pe_lc (own := [("k", 4)]) (g := (gName 4)) (tt := tYes) (by rfl) sc__law_base.nd (pi_range1 (by rfl) n_range (pa_cons pe_int pa_nil)) (blkOk_by (own := [("k", 4)]) (N := ["stream", "names", "start", "step", "k"]) (sc := C8.fnScope s__law_base) (by decide +kernel)) (fun _ _ _ _ _ => (pg_name (i := 4) sc__law_base.nd rfl (Or.inl rfl))) (fun _ _ _ _ _ => pts_nil) (fun _ _ _ _ _ => (pe_ix ix_list (pv 1) (pe_op op_mod (pe_op op_add (pv 2) (pe_op op_mul (pv 3) (pv 4))) pe_int) (fun _ _ => rfl))))))))), r__law_base h⟩)
abbrev s__law_target : Stmt := topS 26
theorem sc__law_target : FnScope ["world", "held", "stream", "authors", "author"] ["world", "held", "stream"] (C8.fnScope s__law_target) := C8.fnScope_by (by decide +kernel)
theorem c__law_target {f : Addr} {fd : FuncData} (F : C8.Def K mg "_law_target" s__law_target f fd) (b : Binds K fd ["world", "held", "stream"] [])
  (c__law_next : C8.Cal P w K mg base 1 "_law_next" (spNext K) []) (n_sorted : mg "sorted" = none) (n_len : mg "len" = none) :
  C8.Cal P w K mg base 2 "_law_target" (spTarget9 K) [] :=
  C8.cal0 F b .nil sc__law_target (fun vs H Q E h => l__law_target h) (fun cdv A outer s H vs Q E hr h => ⟨t__law_target K,
  (pss_cons (ps_set (i := 3) sc__law_target.nd rfl (Or.inl rfl) (pe_callB (call_sortedD rfl) (by rfl) n_sorted (by decide +kernel) (pa_cons (pv 1) pa_nil)))
  (pss_cons (ps_set (i := 4) sc__law_target.nd rfl (Or.inl rfl) (pe_ix ix_list (pv 3) (C8.pe_c c__law_next hr (by decide) (by rfl) (pa_cons (pv 2) (pa_cons (pe_callB call_len_seq (by rfl) n_len (by decide +kernel) (pa_cons (pv 3) pa_nil)) pa_nil))) (fun _ _ => rfl)))
  (pss_one (ps_ret (pe_tup (pa_cons (pv 4) (pa_cons (pe_op op_add pe_int (C8.pe_c c__law_next hr (by decide) (by rfl) (pa_cons (pv 2) (pa_cons (pe_dget (Wp.hu1 hr) (pv 1) (pv 4) (fun _ _ => rfl)) pa_nil)))) pa_nil))))))), r__law_target h⟩)
abbrev s__law_act : Stmt := topS 27
theorem sc__law_act : FnScope ["world", "name", "roll", "stream", "came", "cuts", "keeper", "people", "other", "kind"] ["world", "name", "roll", "stream"] (C8.fnScope s__law_act) := C8.fnScope_by (by decide +kernel)
theorem c__law_act {f : Addr} {fd : FuncData} (F : C8.Def K mg "_law_act" s__law_act f fd) (b : Binds K fd ["world", "name", "roll", "stream"] [])
  (LC_Letter : IsC_Letter K C_Letter) (c__law_next : C8.Cal P w K mg base 1 "_law_next" (spNext K) []) (n_len : mg "len" = none) :
  C8.Cal P w K mg base 2 "_law_act" (spAct9 K C_Letter) [] :=
  C8.cal0 F b .nil sc__law_act (fun vs H Q E h => l__law_act h) (fun cdv A outer s H vs Q E hr h => ⟨t__law_act K C_Letter,
  (pss_cons (ps_asg (pv 2) (pg_lst rfl (pgs_cons (pg_name (i := 4) sc__law_act.nd rfl (Or.inl rfl)) (pgs_cons (pg_name (i := 5) sc__law_act.nd rfl (Or.inl rfl)) (pgs_cons (pg_name (i := 6) sc__law_act.nd rfl (Or.inl rfl)) pgs_nil)))))
  (pss_cons (ps_set (i := 7) sc__law_act.nd rfl (Or.inl rfl) (pe_dget (Wp.hu1 hr) (pv 0) pe_str (fun _ _ => rfl)))
  (pss_cons (ps_set (i := 8) sc__law_act.nd rfl (Or.inl rfl) (pe_ix ix_list (pv 7) (C8.pe_c c__law_next hr (by decide) (by rfl) (pa_cons (pv 3) (pa_cons (pe_callB call_len_seq (by rfl) n_len (by decide +kernel) (pa_cons (pv 7) pa_nil)) pa_nil))) (fun _ _ => rfl)))
  (pss_cons (ps_set (i := 9) sc__law_act.nd rfl (Or.inl rfl) (C8.pe_c c__law_next hr (by decide) (by rfl) (pa_cons (pv 3) (pa_cons pe_int pa_nil))))
  (pss_cons (ps_if (PW.pt (pw_and (pt_cmpR op_lt (pv 9) pe_int (nomark _)) (pw_and1 (pt_cmp (pc_dnotin (Wp.hu1 hr) (pv 8) (pv 4)))))) (pss_one (ps_ret (pe_tup (pa_cons pe_str (pa_cons (pv 8) pa_nil))))) pss_nil)
  (pss_cons (ps_if (PW.pt (pw_and (pt_cmp (pc_din (Wp.hu1 hr) (pv 8) (pv 4))) (pw_and (pt_cmp (pc_dnotin (Wp.hu1 hr) (pv 8) (pv 5))) (pw_and1 (pt_cmpR op_ne (pv 8) (pv 6) (nomark _)))))) (pss_one (ps_ret (pe_tup (pa_cons (pe_ix ix_tup (pe_tup (pa_cons pe_str (pa_cons pe_str (pa_cons pe_str (pa_cons pe_str pa_nil))))) (pv 9) (fun _ _ => rfl)) (pa_cons (pv 8) pa_nil))))) pss_nil)
  (pss_one (ps_ret (pe_tup (pa_cons pe_str pa_nil)))))))))), r__law_act LC_Letter h⟩)
abbrev s__first_that_has_seen : Stmt := topS 10
theorem sc__first_that_has_seen : FnScope ["ref", "row", "index", "letter"] ["ref", "row"] (C8.fnScope s__first_that_has_seen) := C8.fnScope_by (by decide +kernel)
theorem c__first_that_has_seen {f : Addr} {fd : FuncData} (F : C8.Def K mg "_first_that_has_seen" s__first_that_has_seen f fd) (b : Binds K fd ["ref", "row"] [])
  (LC_Letter : IsC_Letter K C_Letter) (c_Letter_has_seen : C8.Met P w K mg base 2 C_Letter "has_seen" (spSeenP K C_Letter) []) (n_enumerate : mg "enumerate" = none) (n_len : mg "len" = none) :
  C8.Cal P w K mg base 3 "_first_that_has_seen" (spFirst K C_Letter) [] :=
  C8.cal0 F b .nil sc__first_that_has_seen (fun vs H Q E h => l__first_that_has_seen h) (fun cdv A outer s H vs Q E hr h => ⟨t__first_that_has_seen K C_Letter,
  (pss_cons (ps_for PassesOwn.never rfl (pi_enum (by rfl) n_enumerate (pa_cons (pv 1) pa_nil)) (pg_tup rfl (pgs_cons (pg_name (i := 2) sc__first_that_has_seen.nd rfl (Or.inl rfl)) (pgs_cons (pg_name (i := 3) sc__first_that_has_seen.nd rfl (Or.inl rfl)) pgs_nil))) (pss_one (ps_if (pt_val (C8.pe_mt c_Letter_has_seen hr (by decide) (pv 3) (pa_cons (pv 0) pa_nil))) (pss_one (ps_ret (pv 2))) pss_nil)))
  (pss_one (ps_ret (pe_callB call_len_seq (by rfl) n_len (by decide +kernel) (pa_cons (pv 1) pa_nil))))), r__first_that_has_seen LC_Letter h⟩)
abbrev s__law_founding : Stmt := topS 19
theorem sc__law_founding : FnScope ["founder", "members"] ["founder", "members"] (C8.fnScope s__law_founding) := C8.fnScope_by (by decide +kernel)
theorem c__law_founding {f : Addr} {fd : FuncData} (F : C8.Def K mg "_law_founding" s__law_founding f fd) (b : Binds K fd ["founder", "members"] [])
  (LC_Letter : IsC_Letter K C_Letter) (c_Letter___init__ : C8.Mak P w K mg base 1 "Letter" C_Letter (spInit K C_Letter) []) (n_tuple : mg "tuple" = none) (n_sorted : mg "sorted" = none) :
  C8.Cal P w K mg base 3 "_law_founding" (spFounding K C_Letter) [] :=
  C8.cal0 F b .nil sc__law_founding (fun vs H Q E h => l__law_founding h) (fun cdv A outer s H vs Q E hr h => ⟨t__law_founding K C_Letter,
  (pss_one (ps_ret (C8.pe_mk c_Letter___init__ hr (by decide) (by rfl) (pa_cons (pv 0) (pa_cons pe_int (pa_cons pe_int (pa_cons (Wp.pe_tupZ (pa_cons (pe_tup (pa_cons (pv 0) (pa_cons pe_int pa_nil))) pa_nil)) (pa_cons (pe_tup (pa_cons pe_str (pa_cons pe_str (pa_cons (pe_callTy call_tuple_of (by rfl) n_tuple (by decide +kernel) (pa_cons (pe_callB cr_sortedS (by rfl) n_sorted (by decide +kernel) (pa_cons (pv 1) pa_nil)) pa_nil)) pa_nil)))) pa_nil)))))))), r__law_founding LC_Letter h⟩)
abbrev s__law_after : Stmt := topS 22
theorem sc__law_after : FnScope ["row", "ref", "index", "letter"] ["row", "ref"] (C8.fnScope s__law_after) := C8.fnScope_by (by decide +kernel)
theorem c__law_after {f : Addr} {fd : FuncData} (F : C8.Def K mg "_law_after" s__law_after f fd) (b : Binds K fd ["row", "ref"] [])
  (LC_Letter : IsC_Letter K C_Letter) (c_Letter_has_seen : C8.Met P w K mg base 2 C_Letter "has_seen" (spSeenP K C_Letter) []) :
  C8.Cal P w K mg base 3 "_law_after" (spAfter K C_Letter) [] :=
  C8.cal0 F b .nil sc__law_after (fun vs H Q E h => l__law_after h) (fun cdv A outer s H vs Q E hr h => ⟨t__law_after K C_Letter,
  (pss_cons (ps_set (i := 2) sc__law_after.nd rfl (Or.inl rfl) pe_int)
  (pss_cons (ps_for PassesOwn.never rfl (pi_list (pv 0)) (pg_name (i := 3) sc__law_after.nd rfl (Or.inl rfl)) (pss_one (ps_if (pt_not (pt_val (C8.pe_mt c_Letter_has_seen hr (by decide) (pv 3) (pa_cons (pv 1) pa_nil)))) (pss_one (ps_set (i := 2) sc__law_after.nd rfl (Or.inl rfl) (pe_op op_add (pv 2) pe_int))) pss_nil)))
  (pss_one (ps_ret (pv 2))))), r__law_after LC_Letter h⟩)
abbrev s__law_write : Stmt := topS 24
theorem sc__law_write : FnScope ["world", "name", "body", "held", "author", "top", "counts", "seen", "letter"] ["world", "name", "body"] (C8.fnScope s__law_write) := C8.fnScope_by (by decide +kernel)
theorem c__law_write {f : Addr} {fd : FuncData} (F : C8.Def K mg "_law_write" s__law_write f fd) (b : Binds K fd ["world", "name", "body"] [])
  (LC_Letter : IsC_Letter K C_Letter) (c_Letter___init__ : C8.Mak P w K mg base 1 "Letter" C_Letter (spInit K C_Letter) []) (n_max : mg "max" = none) (n_dict : mg "dict" = none) (n_tuple : mg "tuple" = none) (n_sorted : mg "sorted" = none) :
  C8.Cal P w K mg base 3 "_law_write" (spWrite K C_Letter) [] :=
  C8.cal0 F b .nil sc__law_write (fun vs H Q E h => l__law_write h) (fun cdv A outer s H vs Q E hr h => ⟨t__law_write K C_Letter,
  (pss_cons (ps_set (i := 3) sc__law_write.nd rfl (Or.inr rfl) (pe_dget (Wp.hu1 hr) (pe_dget (Wp.hu1 hr) (pv 0) pe_str (fun _ _ => rfl)) (pv 1) (fun _ _ => rfl)))
  (pss_cons (ps_set (i := 5) sc__law_write.nd rfl (Or.inl rfl) (pe_callB (cr_max rfl) (by rfl) n_max (by decide +kernel) (pa_cons (pe_lock (pe_lc (own := [("author", 4)]) (g := (gName 4)) (tt := tYes) (by rfl) sc__law_write.nd (pi_keys (pv 3)) (blkOk_by (own := [("author", 4)]) (N := ["world", "name", "body", "held", "author", "top", "counts", "seen", "letter"]) (sc := C8.fnScope s__law_write) (by decide +kernel)) (fun _ _ _ _ _ => (pg_name (i := 4) sc__law_write.nd rfl (Or.inl rfl))) (fun _ _ _ _ _ => pts_nil) (fun _ _ _ _ _ => (pe_fld (pe_ix ix_list (pe_dget (Wp.hu1 hr) (pe_dget (Wp.hu1 hr) (pv 0) pe_str (fun _ _ => rfl)) (pv 4) (fun _ _ => rfl)) (pe_op op_sub (pe_dget (Wp.hu1 hr) (pv 3) (pv 4) (fun _ _ => rfl)) pe_int) (fun _ _ => rfl)) rfl)))) pa_nil)))
  (pss_cons (ps_set (i := 6) sc__law_write.nd rfl (Or.inr rfl) (pe_callTy call_dictD (by rfl) n_dict (by decide +kernel) (pa_cons (pv 3) pa_nil)))
  (pss_cons (ps_dput (Wp.hu1 hr) (pv 6) (pv 1) (pe_op op_add (pe_dget2 (Wp.hu1 hr) (pv 6) (pv 1) pe_int ⟨rfl, rfl, rfl, rfl⟩) pe_int) rfl)
  (pss_cons (ps_set (i := 7) sc__law_write.nd rfl (Or.inl rfl) (pe_callTy Wp.call_tupleOfZ (by rfl) n_tuple (by decide +kernel) (pa_cons (pe_lc (own := [("author", 4)]) (g := (gName 4)) (tt := tYes) (by rfl) sc__law_write.nd (pi_list (pe_callB (call_sortedD rfl) (by rfl) n_sorted (by decide +kernel) (pa_cons (pv 6) pa_nil))) (blkOk_by (own := [("author", 4)]) (N := ["world", "name", "body", "held", "author", "top", "counts", "seen", "letter"]) (sc := C8.fnScope s__law_write) (by decide +kernel)) (fun _ _ _ _ _ => (pg_name (i := 4) sc__law_write.nd rfl (Or.inl rfl))) (fun _ _ _ _ _ => pts_nil) (fun _ _ _ _ _ => (pe_tup (pa_cons (pv 4) (pa_cons (pe_dget (Wp.hu1 hr) (pv 6) (pv 4) (fun _ _ => rfl)) pa_nil))))) pa_nil)))
  (pss_cons (ps_set (i := 8) sc__law_write.nd rfl (Or.inl rfl) (C8.pe_mk c_Letter___init__ hr (by decide) (by rfl) (pa_cons (pv 1) (pa_cons (pe_dget (Wp.hu1 hr) (pv 6) (pv 1) (fun _ _ => rfl)) (pa_cons (pe_op op_add (pv 5) pe_int) (pa_cons (pv 7) (pa_cons (pv 2) pa_nil)))))))
  (pss_cons (ps_if (pt_cmp (pc_dnotin (Wp.hu1 hr) (pv 1) (pe_dget (Wp.hu1 hr) (pv 0) pe_str (fun _ _ => rfl)))) (pss_one (ps_dput (Wp.hu1 hr) (pe_dget (Wp.hu1 hr) (pv 0) pe_str (fun _ _ => rfl)) (pv 1) (pe_lst pa_nil) rfl)) pss_nil)
  (pss_cons (ps_expr (pe_bm PySem.F.plainAttrs_list PySem.F.slot_list_append PySem.F.type_list_append mt_append (pe_dget (Wp.hu1 hr) (pe_dget (Wp.hu1 hr) (pv 0) pe_str (fun _ _ => rfl)) (pv 1) (fun _ _ => rfl)) (pa_cons (pv 8) pa_nil)))
  (pss_cons (ps_dput (Wp.hu1 hr) (pe_dget (Wp.hu1 hr) (pv 0) pe_str (fun _ _ => rfl)) (pv 1) (pv 6) rfl)
  (pss_one (ps_ret (pv 8)))))))))))), r__law_write LC_Letter h⟩)
abbrev s__law_talk : Stmt := topS 28
theorem sc__law_talk : FnScope ["world", "held", "stream", "kind"] ["world", "held", "stream"] (C8.fnScope s__law_talk) := C8.fnScope_by (by decide +kernel)
theorem c__law_talk {f : Addr} {fd : FuncData} (F : C8.Def K mg "_law_talk" s__law_talk f fd) (b : Binds K fd ["world", "held", "stream"] [])
  (LC_Letter : IsC_Letter K C_Letter) (c__law_next : C8.Cal P w K mg base 1 "_law_next" (spNext K) []) (c__law_target : C8.Cal P w K mg base 2 "_law_target" (spTarget9 K) []) (n_str : mg "str" = none) :
  C8.Cal P w K mg base 3 "_law_talk" (spTalk K C_Letter) [] :=
  C8.cal0 F b .nil sc__law_talk (fun vs H Q E h => l__law_talk h) (fun cdv A outer s H vs Q E hr h => ⟨t__law_talk K C_Letter,
  (pss_cons (ps_set (i := 3) sc__law_talk.nd rfl (Or.inl rfl) (C8.pe_c c__law_next hr (by decide) (by rfl) (pa_cons (pv 2) (pa_cons pe_int pa_nil))))
  (pss_cons (ps_if (pt_cmpR op_lt (pv 3) pe_int (nomark _)) (pss_one (ps_ret (pe_tup (pa_cons pe_str (pa_cons (pe_op op_add_str pe_str (pe_callTy call_str_int (by rfl) n_str (by decide +kernel) (pa_cons (C8.pe_c c__law_next hr (by decide) (by rfl) (pa_cons (pv 2) (pa_cons pe_int pa_nil))) pa_nil))) pa_nil))))) pss_nil)
  (pss_cons (ps_if (pt_cmpR op_eq (pv 3) pe_int (nomark _)) (pss_one (ps_ret (pe_tup (pa_cons pe_str (pa_cons (C8.pe_c c__law_target hr (by decide) (by rfl) (pa_cons (pv 0) (pa_cons (pv 1) (pa_cons (pv 2) pa_nil)))) (pa_cons pe_str pa_nil)))))) pss_nil)
  (pss_cons (ps_if (pt_cmpR op_eq (pv 3) pe_int (nomark _)) (pss_one (ps_ret (pe_tup (pa_cons pe_str (pa_cons (C8.pe_c c__law_target hr (by decide) (by rfl) (pa_cons (pv 0) (pa_cons (pv 1) (pa_cons (pv 2) pa_nil)))) (pa_cons pe_str pa_nil)))))) pss_nil)
  (pss_one (ps_ret (pe_tup (pa_cons pe_str pa_nil)))))))), r__law_talk LC_Letter h⟩)
abbrev s__law_came : Stmt := topS 30
theorem sc__law_came : FnScope ["roll", "people", "rows", "name"] ["roll", "people"] (C8.fnScope s__law_came) := C8.fnScope_by (by decide +kernel)
theorem c__law_came {f : Addr} {fd : FuncData} (F : C8.Def K mg "_law_came" s__law_came f fd) (b : Binds K fd ["roll", "people"] [])
  (LC_Roll : IsC_Roll K C_Roll) (LC_Letter : IsC_Letter K C_Letter) (c_Roll_is_known : C8.Met P w K mg base 1 C_Roll "is_known" (spKnown K C_Letter C_Roll) []) (c_Roll_came_by : C8.Met P w K mg base 2 C_Roll "came_by" (spCameBy K C_Letter C_Roll) []) (c_Letter_ref : Wp.Prp P w K mg base 1 C_Letter "ref" (spRefP K C_Letter)) (n_sorted : mg "sorted" = none) :
  C8.Cal P w K mg base 3 "_law_came" (spLCame K C_Letter C_Roll) [] :=
  C8.cal0 F b .nil sc__law_came (fun vs H Q E h => l__law_came h) (fun cdv A outer s H vs Q E hr h => ⟨t__law_came K C_Roll C_Letter,
  (pss_cons (ps_set (i := 2) sc__law_came.nd rfl (Or.inl rfl) (pe_lst pa_nil))
  (pss_cons (ps_for PassesOwn.never rfl (pi_list (pv 1)) (pg_name (i := 3) sc__law_came.nd rfl (Or.inl rfl)) (pss_one (ps_if (pt_val (C8.pe_mt c_Roll_is_known hr (by decide) (pv 0) (pa_cons (pv 3) pa_nil))) (pss_one (ps_expr (pe_bm PySem.F.plainAttrs_list PySem.F.slot_list_append PySem.F.type_list_append mt_append (pv 2) (pa_cons (pe_tup (pa_cons (pe_fld (C8.pe_mt c_Roll_came_by hr (by decide) (pv 0) (pa_cons (pv 3) pa_nil)) rfl) (pa_cons (Wp.pe_pp c_Letter_ref hr (by decide) (C8.pe_mt c_Roll_came_by hr (by decide) (pv 0) (pa_cons (pv 3) pa_nil)) rfl) (pa_cons (pv 3) pa_nil)))) pa_nil)))) pss_nil)))
  (pss_one (ps_ret (pe_callB (Wp.cr_sortedW (Nat.lt_of_succ_lt (Wp.hu65 hr))) (by rfl) n_sorted (by decide +kernel) (pa_cons (pv 2) pa_nil)))))), r__law_came LC_Roll LC_Letter h⟩)
abbrev s_roll_of : Stmt := topS 8
theorem sc_roll_of : FnScope ["founder", "rows", "founding", "name", "came", "limits", "keeper", "row", "at", "letter", "kind"] ["founder", "rows"] (C8.fnScope s_roll_of) := C8.fnScope_by (by decide +kernel)
theorem c_roll_of {f : Addr} {fd : FuncData} (F : C8.Def K mg "roll_of" s_roll_of f fd) (b : Binds K fd ["founder", "rows"] [])
  (LC_Letter : IsC_Letter K C_Letter) (LC_Roll : IsC_Roll K C_Roll) (c_is_act : C8.Cal P w K mg base 1 "is_act" (spIsAct K) []) (c__is_other_member : C8.Cal P w K mg base 1 "_is_other_member" (spOther K) []) (c_Letter_count : C8.Met P w K mg base 1 C_Letter "count" (spCount K C_Letter) []) (c__first_that_has_seen : C8.Cal P w K mg base 3 "_first_that_has_seen" (spFirst K C_Letter) []) (c_Letter_ref : Wp.Prp P w K mg base 1 C_Letter "ref" (spRefP K C_Letter)) (c_Roll___init__ : C8.Mak P w K mg base 1 "Roll" C_Roll (spRInit K C_Letter C_Roll) []) (n_len : mg "len" = none) :
  C8.Cal P w K mg base 4 "roll_of" (spRollOf K C_Letter C_Roll) [] :=
  C8.cal0 F b .nil sc_roll_of (fun vs H Q E h => l_roll_of h) (fun cdv A outer s H vs Q E hr h => ⟨t_roll_of K C_Letter C_Roll,
  (pss_cons (ps_set (i := 2) sc_roll_of.nd rfl (Or.inr rfl) (pe_ix ix_list (pe_dget (Wp.hu1 hr) (pv 1) (pv 0) (fun _ _ => rfl)) pe_int (fun _ _ => rfl)))
  (pss_cons (Wp.ps_setDc (i := 4) (own := [("name", 3)]) (g := (gName 3)) (tt := tYes) (by rfl) sc_roll_of.nd rfl rfl (Wp.sw_trueD rfl rfl rfl (by decide +kernel)) (pi_tup (pe_tup (pa_cons (pv 0) (StX.pa_star (pe_ix ix_tup (pe_fld (pv 2) rfl) pe_int (fun _ _ => rfl)) pa_nil)))) (blkOk_by (own := [("name", 3)]) (N := ["founder", "rows", "founding", "name", "came", "limits", "keeper", "row", "at", "letter", "kind"]) (sc := C8.fnScope s_roll_of) (by decide +kernel)) (fun _ _ _ _ _ => (pg_name (i := 3) sc_roll_of.nd rfl (Or.inl rfl))) (fun _ _ _ _ _ => pts_nil) (fun _ _ _ _ _ => (pv 3)) (fun _ _ _ _ _ => (pv 2)))
  (pss_cons (ps_set (i := 5) sc_roll_of.nd rfl (Or.inl rfl) pe_dnewK)
  (pss_cons (ps_set (i := 6) sc_roll_of.nd rfl (Or.inl rfl) (pv 0))
  (pss_cons (ps_par (i := 7) (j := 8) rfl sc_roll_of.nd rfl rfl (by decide) rfl rfl (pa_cons (pe_dget (Wp.hu1 hr) (pv 1) (pv 0) (fun _ _ => rfl)) (pa_cons pe_int pa_nil)) (by rfl))
  (pss_cons (ps_while PassesOwn.never (pt_cmpR op_lt (pv 8) (pe_callB call_len_seq (by rfl) n_len (by decide +kernel) (pa_cons (pv 7) pa_nil)) (nomark _)) (pss_cons (ps_set (i := 9) sc_roll_of.nd rfl (Or.inl rfl) (pe_ix ix_list (pv 7) (pv 8) (fun _ _ => rfl)))
  (pss_cons (ps_aug (i := 8) sc_roll_of.nd rfl (Or.inl rfl) pe_int ip_add)
  (pss_cons (ps_if (pt_not (pt_val (C8.pe_c c_is_act hr (by decide) (by rfl) (pa_cons (pe_fld (pv 9) rfl) pa_nil)))) (pss_one ps_continue) pss_nil)
  (pss_cons (ps_asg (pe_fld (pv 9) rfl) (pg_tup rfl (pgs_cons (pg_name (i := 10) sc_roll_of.nd rfl (Or.inl rfl)) (pgs_cons (pg_name (i := 3) sc_roll_of.nd rfl (Or.inl rfl)) pgs_nil))))
  (pss_one (ps_if (pt_cmpR op_eq (pv 10) pe_str (nomark _)) (pss_one (ps_expr (pe_dsetd (pv 4) (pv 3) (pv 9) ⟨rfl, rfl, rfl, rfl⟩))) (pss_one (ps_if (pt_val (C8.pe_c c__is_other_member hr (by decide) (by rfl) (pa_cons (pv 3) (pa_cons (pv 6) (pa_cons (pv 4) (pa_cons (pv 5) pa_nil)))))) (pss_one (ps_if (pt_cmpR op_eq (pv 10) pe_str (nomark _)) (pss_one (ps_dput (Wp.hu1 hr) (pv 5) (pv 3) (C8.pe_mt c_Letter_count hr (by decide) (pv 9) (pa_cons (pv 3) pa_nil)) rfl)) (pss_cons (ps_set (i := 6) sc_roll_of.nd rfl (Or.inl rfl) (pv 3))
  (pss_cons (ps_set (i := 7) sc_roll_of.nd rfl (Or.inl rfl) (pe_dget2 (Wp.hu1 hr) (pv 1) (pv 3) (pe_lst pa_nil) ⟨rfl, rfl, rfl, rfl⟩))
  (pss_one (ps_set (i := 8) sc_roll_of.nd rfl (Or.inl rfl) (C8.pe_c c__first_that_has_seen hr (by decide) (by rfl) (pa_cons (Wp.pe_pp c_Letter_ref hr (by decide) (pv 9) rfl) (pa_cons (pv 7) pa_nil))))))))) pss_nil)))))))))
  (pss_one (ps_ret (C8.pe_mk c_Roll___init__ hr (by decide) (by rfl) (pa_cons (pv 0) (pa_cons (pv 6) (pa_cons (pv 4) (pa_cons (pv 5) pa_nil))))))))))))), r_roll_of LC_Letter LC_Roll h⟩)
abbrev s__law_new_world : Stmt := topS 20
theorem sc__law_new_world : FnScope ["people", "many", "first", "world", "name"] ["people", "many"] (C8.fnScope s__law_new_world) := C8.fnScope_by (by decide +kernel)
theorem c__law_new_world {f : Addr} {fd : FuncData} (F : C8.Def K mg "_law_new_world" s__law_new_world f fd) (b : Binds K fd ["people", "many"] [])
  (LC_Letter : IsC_Letter K C_Letter) (c__law_founding : C8.Cal P w K mg base 3 "_law_founding" (spFounding K C_Letter) []) :
  C8.Cal P w K mg base 4 "_law_new_world" (spNewWorld K C_Letter) [] :=
  C8.cal0 F b .nil sc__law_new_world (fun vs H Q E h => l__law_new_world h) (fun cdv A outer s H vs Q E hr h => ⟨t__law_new_world K C_Letter,
  (pss_cons (ps_set (i := 2) sc__law_new_world.nd rfl (Or.inl rfl) (C8.pe_c c__law_founding hr (by decide) (by rfl) (pa_cons (pe_ix ix_list (pv 0) pe_int (fun _ _ => rfl)) (pa_cons (pe_slice sl_list (pv 0) (po_some pe_int) (po_some (pv 1))) pa_nil))))
  (pss_cons (ps_set (i := 3) sc__law_new_world.nd rfl (Or.inl rfl) (pe_disp (pps_cons pe_str (pv 0) (pps_cons pe_str (pe_ix ix_list (pv 0) pe_int (fun _ _ => rfl)) (pps_cons pe_str (pe_disp (pps_cons (pe_ix ix_list (pv 0) pe_int (fun _ _ => rfl)) (pe_lst (pa_cons (pv 2) pa_nil)) pps_nil) (by rfl) (by rfl) (fun z => by cases z) (by decide)) (pps_cons pe_str pe_dnewK pps_nil)))) (by rfl) (by rfl) (fun z => by cases z) (by decide)))
  (pss_cons (ps_for PassesOwn.never rfl (pi_list (pv 0)) (pg_name (i := 4) sc__law_new_world.nd rfl (Or.inl rfl)) (pss_one (ps_dput (Wp.hu1 hr) (pe_dget (Wp.hu1 hr) (pv 3) pe_str (fun _ _ => rfl)) (pv 4) pe_dnewK rfl)))
  (pss_cons (ps_dput (Wp.hu1 hr) (pe_dget (Wp.hu1 hr) (pv 3) pe_str (fun _ _ => rfl)) (pe_ix ix_list (pv 0) pe_int (fun _ _ => rfl)) (pe_disp (pps_cons (pe_ix ix_list (pv 0) pe_int (fun _ _ => rfl)) pe_int pps_nil) (by rfl) (by rfl) (fun z => by cases z) (by decide)) rfl)
  (pss_one (ps_ret (pv 3))))))), r__law_new_world LC_Letter h⟩)
abbrev s__law_roll : Stmt := topS 23
theorem sc__law_roll : FnScope ["world", "counts", "keeper", "first", "came", "name", "cuts", "row", "index", "turn", "letter", "kind", "fits"] ["world", "counts"] (C8.fnScope s__law_roll) := C8.fnScope_by (by decide +kernel)
theorem c__law_roll {f : Addr} {fd : FuncData} (F : C8.Def K mg "_law_roll" s__law_roll f fd) (b : Binds K fd ["world", "counts"] [])
  (LC_Letter : IsC_Letter K C_Letter) (c__law_row : C8.Cal P w K mg base 1 "_law_row" (spRow K C_Letter) []) (c_Letter_count : C8.Met P w K mg base 1 C_Letter "count" (spCount K C_Letter) []) (c__law_after : C8.Cal P w K mg base 3 "_law_after" (spAfter K C_Letter) []) (c_Letter_ref : Wp.Prp P w K mg base 1 C_Letter "ref" (spRefP K C_Letter)) (n_range : mg "range" = none) (n_sum : mg "sum" = none) (n_len : mg "len" = none) :
  C8.Cal P w K mg base 4 "_law_roll" (spLawRoll K C_Letter) [] :=
  C8.cal0 F b .nil sc__law_roll (fun vs H Q E h => l__law_roll h) (fun cdv A outer s H vs Q E hr h => ⟨t__law_roll K C_Letter,
  (pss_cons (ps_set (i := 2) sc__law_roll.nd rfl (Or.inl rfl) (pe_dget (Wp.hu1 hr) (pv 0) pe_str (fun _ _ => rfl)))
  (pss_cons (ps_set (i := 3) sc__law_roll.nd rfl (Or.inl rfl) (pe_ix ix_list (pe_dget (Wp.hu1 hr) (pe_dget (Wp.hu1 hr) (pv 0) pe_str (fun _ _ => rfl)) (pv 2) (fun _ _ => rfl)) pe_int (fun _ _ => rfl)))
  (pss_cons (ps_set (i := 4) sc__law_roll.nd rfl (Or.inl rfl) (pe_disp (pps_cons (pv 2) (pv 3) pps_nil) (by rfl) (by rfl) (fun z => by cases z) (by decide)))
  (pss_cons (ps_for PassesOwn.never rfl (pi_tup (pe_ix ix_tup (pe_fld (pv 3) rfl) pe_int (fun _ _ => rfl))) (pg_name (i := 5) sc__law_roll.nd rfl (Or.inl rfl)) (pss_one (ps_dput (Wp.hu1 hr) (pv 4) (pv 5) (pv 3) rfl)))
  (pss_cons (ps_set (i := 6) sc__law_roll.nd rfl (Or.inl rfl) pe_dnewK)
  (pss_cons (ps_set (i := 7) sc__law_roll.nd rfl (Or.inl rfl) (C8.pe_c c__law_row hr (by decide) (by rfl) (pa_cons (pv 0) (pa_cons (pv 1) (pa_cons (pv 2) pa_nil)))))
  (pss_cons (ps_set (i := 8) sc__law_roll.nd rfl (Or.inl rfl) pe_int)
  (pss_cons (ps_for PassesOwn.never rfl (pi_range1 (by rfl) n_range (pa_cons (pe_op op_add pe_int (pe_callB (cr_sum rfl) (by rfl) n_sum (by decide +kernel) (pa_cons (pe_lock (pe_lc (own := [("name", 5)]) (g := (gName 5)) (tt := tYes) (by rfl) sc__law_roll.nd (pi_keys (pv 1)) (blkOk_by (own := [("name", 5)]) (N := ["world", "counts", "keeper", "first", "came", "name", "cuts", "row", "index", "turn", "letter", "kind", "fits"]) (sc := C8.fnScope s__law_roll) (by decide +kernel)) (fun _ _ _ _ _ => (pg_name (i := 5) sc__law_roll.nd rfl (Or.inl rfl))) (fun _ _ _ _ _ => pts_nil) (fun _ _ _ _ _ => (pe_dget (Wp.hu1 hr) (pv 1) (pv 5) (fun _ _ => rfl))))) pa_nil))) pa_nil)) (pg_name (i := 9) sc__law_roll.nd rfl (Or.inl rfl)) (pss_cons (ps_if (pt_cmpR op_ge (pv 8) (pe_callB call_len_seq (by rfl) n_len (by decide +kernel) (pa_cons (pv 7) pa_nil)) (nomark _)) (pss_one ps_break) pss_nil)
  (pss_cons (ps_set (i := 10) sc__law_roll.nd rfl (Or.inl rfl) (pe_ix ix_list (pv 7) (pv 8) (fun _ _ => rfl)))
  (pss_cons (ps_set (i := 8) sc__law_roll.nd rfl (Or.inl rfl) (pe_op op_add (pv 8) pe_int))
  (pss_cons (ps_set (i := 11) sc__law_roll.nd rfl (Or.inl rfl) (pe_ix ix_tup (pe_fld (pv 10) rfl) pe_int (fun _ _ => rfl)))
  (pss_cons (ps_if (pt_cmpR op_notIn_seq (pv 11) (pe_tup (pa_cons pe_str (pa_cons pe_str (pa_cons pe_str pa_nil)))) (by rfl)) (pss_one ps_continue) pss_nil)
  (pss_cons (ps_set (i := 5) sc__law_roll.nd rfl (Or.inl rfl) (pe_ix ix_tup (pe_fld (pv 10) rfl) pe_int (fun _ _ => rfl)))
  (pss_cons (ps_set (i := 12) sc__law_roll.nd rfl (Or.inl rfl) (pe_and (pe_cmp (pc_din (Wp.hu1 hr) (pv 5) (pv 4))) (pe_and (pe_cmp (pc_dnotin (Wp.hu1 hr) (pv 5) (pv 6))) (pe_one (pe_cmpR op_ne (pv 5) (pv 2) (nomark _))))))
  (pss_cons (ps_if (PW.pt (pw_and (pt_cmpR op_eq (pv 11) pe_str (nomark _)) (pw_and1 (pt_cmp (pc_dnotin (Wp.hu1 hr) (pv 5) (pv 4)))))) (pss_one (ps_dput (Wp.hu1 hr) (pv 4) (pv 5) (pv 10) rfl)) pss_nil)
  (pss_cons (ps_if (PW.pt (pw_and (pt_cmpR op_eq (pv 11) pe_str (nomark _)) (pw_and1 (pt_val (pv 12))))) (pss_one (ps_dput (Wp.hu1 hr) (pv 6) (pv 5) (C8.pe_mt c_Letter_count hr (by decide) (pv 10) (pa_cons (pv 5) pa_nil)) rfl)) pss_nil)
  (pss_one (ps_if (PW.pt (pw_and (pt_cmpR op_eq (pv 11) pe_str (nomark _)) (pw_and1 (pt_val (pv 12))))) (pss_cons (ps_set (i := 2) sc__law_roll.nd rfl (Or.inl rfl) (pv 5))
  (pss_cons (ps_set (i := 7) sc__law_roll.nd rfl (Or.inl rfl) (C8.pe_c c__law_row hr (by decide) (by rfl) (pa_cons (pv 0) (pa_cons (pv 1) (pa_cons (pv 2) pa_nil)))))
  (pss_one (ps_set (i := 8) sc__law_roll.nd rfl (Or.inl rfl) (C8.pe_c c__law_after hr (by decide) (by rfl) (pa_cons (pv 7) (pa_cons (Wp.pe_pp c_Letter_ref hr (by decide) (pv 10) rfl) pa_nil))))))) pss_nil))))))))))))
  (pss_one (ps_ret (pe_lst (pa_cons (pv 4) (pa_cons (pv 6) (pa_cons (pv 2) pa_nil)))))))))))))), r__law_roll LC_Letter h⟩)
abbrev s__law_learn : Stmt := topS 25
theorem sc__law_learn : FnScope ["world", "name", "counts", "held", "merged", "author", "came", "cuts", "keeper"] ["world", "name", "counts"] (C8.fnScope s__law_learn) := C8.fnScope_by (by decide +kernel)
theorem c__law_learn {f : Addr} {fd : FuncData} (F : C8.Def K mg "_law_learn" s__law_learn f fd) (b : Binds K fd ["world", "name", "counts"] [])
  (LC_Letter : IsC_Letter K C_Letter) (c__law_roll : C8.Cal P w K mg base 4 "_law_roll" (spLawRoll K C_Letter) []) (n_dict : mg "dict" = none) (n_max : mg "max" = none) (n_min : mg "min" = none) :
  C8.Cal P w K mg base 5 "_law_learn" (spLearn K C_Letter) [] :=
  C8.cal0 F b .nil sc__law_learn (fun vs H Q E h => l__law_learn h) (fun cdv A outer s H vs Q E hr h => ⟨t__law_learn K C_Letter,
  (pss_cons (ps_set (i := 3) sc__law_learn.nd rfl (Or.inl rfl) (pe_dget (Wp.hu1 hr) (pe_dget (Wp.hu1 hr) (pv 0) pe_str (fun _ _ => rfl)) (pv 1) (fun _ _ => rfl)))
  (pss_cons (ps_set (i := 4) sc__law_learn.nd rfl (Or.inl rfl) (pe_callTy call_dictD (by rfl) n_dict (by decide +kernel) (pa_cons (pv 3) pa_nil)))
  (pss_cons (ps_lock (ps_for PassesOwn.never rfl (pi_keys (pv 2)) (pg_name (i := 5) sc__law_learn.nd rfl (Or.inl rfl)) (pss_one (ps_dput (Wp.hu1 hr) (pv 4) (pv 5) (pe_callB (call_max2 rfl) (by rfl) n_max (by decide +kernel) (pa_cons (pe_dget2 (Wp.hu1 hr) (pv 4) (pv 5) pe_int ⟨rfl, rfl, rfl, rfl⟩) (pa_cons (pe_dget (Wp.hu1 hr) (pv 2) (pv 5) (fun _ _ => rfl)) pa_nil))) rfl))))
  (pss_cons (ps_asg (C8.pe_c c__law_roll hr (by decide) (by rfl) (pa_cons (pv 0) (pa_cons (pv 4) pa_nil))) (pg_lst rfl (pgs_cons (pg_name (i := 6) sc__law_learn.nd rfl (Or.inl rfl)) (pgs_cons (pg_name (i := 7) sc__law_learn.nd rfl (Or.inl rfl)) (pgs_cons (pg_name (i := 8) sc__law_learn.nd rfl (Or.inl rfl)) pgs_nil)))))
  (pss_cons (ps_if (pt_cmp (pc_dnotin (Wp.hu1 hr) (pv 1) (pv 6))) (pss_one ps_retN) pss_nil)
  (pss_cons (ps_lock (ps_for PassesOwn.never rfl (pi_keys (pv 7)) (pg_name (i := 5) sc__law_learn.nd rfl (Or.inl rfl)) (pss_one (ps_if (pt_cmp (pc_din (Wp.hu1 hr) (pv 5) (pv 4))) (pss_one (ps_dput (Wp.hu1 hr) (pv 4) (pv 5) (pe_callB (call_max2 rfl) (by rfl) n_max (by decide +kernel) (pa_cons (pe_dget2 (Wp.hu1 hr) (pv 3) (pv 5) pe_int ⟨rfl, rfl, rfl, rfl⟩) (pa_cons (pe_callB (call_min2 rfl) (by rfl) n_min (by decide +kernel) (pa_cons (pe_dget (Wp.hu1 hr) (pv 4) (pv 5) (fun _ _ => rfl)) (pa_cons (pe_dget (Wp.hu1 hr) (pv 7) (pv 5) (fun _ _ => rfl)) pa_nil))) pa_nil))) rfl)) pss_nil))))
  (pss_cons (ps_dput (Wp.hu1 hr) (pe_dget (Wp.hu1 hr) (pv 0) pe_str (fun _ _ => rfl)) (pv 1) pe_dnewK rfl)
  (pss_one (ps_lock (ps_for PassesOwn.never rfl (pi_keys (pv 4)) (pg_name (i := 5) sc__law_learn.nd rfl (Or.inl rfl)) (pss_one (ps_if (pt_cmpR op_gt (pe_dget (Wp.hu1 hr) (pv 4) (pv 5) (fun _ _ => rfl)) pe_int (nomark _)) (pss_one (ps_dput (Wp.hu1 hr) (pe_dget (Wp.hu1 hr) (pe_dget (Wp.hu1 hr) (pv 0) pe_str (fun _ _ => rfl)) (pv 1) (fun _ _ => rfl)) (pv 5) (pe_dget (Wp.hu1 hr) (pv 4) (pv 5) (fun _ _ => rfl)) rfl)) pss_nil)))))))))))), r__law_learn LC_Letter h⟩)
abbrev s__law_step : Stmt := topS 29
theorem sc__law_step : FnScope ["world", "stream", "people", "name", "held", "kind", "other", "counts", "author", "number", "roll"] ["world", "stream"] (C8.fnScope s__law_step) := C8.fnScope_by (by decide +kernel)
theorem c__law_step {f : Addr} {fd : FuncData} (F : C8.Def K mg "_law_step" s__law_step f fd) (b : Binds K fd ["world", "stream"] [])
  (LC_Letter : IsC_Letter K C_Letter) (c__law_next : C8.Cal P w K mg base 1 "_law_next" (spNext K) []) (c__law_target : C8.Cal P w K mg base 2 "_law_target" (spTarget9 K) []) (c__law_learn : C8.Cal P w K mg base 5 "_law_learn" (spLearn K C_Letter) []) (c__law_roll : C8.Cal P w K mg base 4 "_law_roll" (spLawRoll K C_Letter) []) (c__law_write : C8.Cal P w K mg base 3 "_law_write" (spWrite K C_Letter) []) (c__law_act : C8.Cal P w K mg base 2 "_law_act" (spAct9 K C_Letter) []) (c__law_talk : C8.Cal P w K mg base 3 "_law_talk" (spTalk K C_Letter) []) (n_len : mg "len" = none) (n_dict : mg "dict" = none) :
  C8.Cal P w K mg base 6 "_law_step" (spStep K C_Letter) [] :=
  C8.cal0 F b .nil sc__law_step (fun vs H Q E h => l__law_step h) (fun cdv A outer s H vs Q E hr h => ⟨t__law_step K C_Letter,
  (pss_cons (ps_set (i := 2) sc__law_step.nd rfl (Or.inl rfl) (pe_dget (Wp.hu1 hr) (pv 0) pe_str (fun _ _ => rfl)))
  (pss_cons (ps_set (i := 3) sc__law_step.nd rfl (Or.inl rfl) (pe_ix ix_list (pv 2) (C8.pe_c c__law_next hr (by decide) (by rfl) (pa_cons (pv 1) (pa_cons (pe_callB call_len_seq (by rfl) n_len (by decide +kernel) (pa_cons (pv 2) pa_nil)) pa_nil))) (fun _ _ => rfl)))
  (pss_cons (ps_set (i := 4) sc__law_step.nd rfl (Or.inl rfl) (pe_dget (Wp.hu1 hr) (pe_dget (Wp.hu1 hr) (pv 0) pe_str (fun _ _ => rfl)) (pv 3) (fun _ _ => rfl)))
  (pss_cons (ps_set (i := 5) sc__law_step.nd rfl (Or.inl rfl) (C8.pe_c c__law_next hr (by decide) (by rfl) (pa_cons (pv 1) (pa_cons pe_int pa_nil))))
  (pss_cons (ps_if (PW.pt (pw_or (pt_cmpR op_lt (pv 5) pe_int (nomark _)) (pw_or1 (pt_cmpR op_eq (pe_callB call_lenD (by rfl) n_len (by decide +kernel) (pa_cons (pv 4) pa_nil)) pe_int (nomark _))))) (pss_cons (ps_set (i := 6) sc__law_step.nd rfl (Or.inl rfl) (pe_ix ix_list (pv 2) (C8.pe_c c__law_next hr (by decide) (by rfl) (pa_cons (pv 1) (pa_cons (pe_callB call_len_seq (by rfl) n_len (by decide +kernel) (pa_cons (pv 2) pa_nil)) pa_nil))) (fun _ _ => rfl)))
  (pss_cons (ps_set (i := 7) sc__law_step.nd rfl (Or.inl rfl) (pe_dget (Wp.hu1 hr) (pe_dget (Wp.hu1 hr) (pv 0) pe_str (fun _ _ => rfl)) (pv 6) (fun _ _ => rfl)))
  (pss_cons (ps_if (PW.pt (pw_and (pt_cmpR op_gt (pe_callB call_lenD (by rfl) n_len (by decide +kernel) (pa_cons (pv 7) pa_nil)) pe_int (nomark _)) (pw_and1 (pt_cmpR op_eq (C8.pe_c c__law_next hr (by decide) (by rfl) (pa_cons (pv 1) (pa_cons pe_int pa_nil))) pe_int (nomark _))))) (pss_cons (ps_asg (C8.pe_c c__law_target hr (by decide) (by rfl) (pa_cons (pv 0) (pa_cons (pv 7) (pa_cons (pv 1) pa_nil)))) (pg_tup rfl (pgs_cons (pg_name (i := 8) sc__law_step.nd rfl (Or.inl rfl)) (pgs_cons (pg_name (i := 9) sc__law_step.nd rfl (Or.inl rfl)) pgs_nil))))
  (pss_one (ps_set (i := 7) sc__law_step.nd rfl (Or.inl rfl) (pe_callTy (Wp.call_dictP rfl) (by rfl) n_dict (by decide +kernel) (pa_cons (pe_fld (pe_ix ix_list (pe_dget (Wp.hu1 hr) (pe_dget (Wp.hu1 hr) (pv 0) pe_str (fun _ _ => rfl)) (pv 8) (fun _ _ => rfl)) (pe_op op_sub (pv 9) pe_int) (fun _ _ => rfl)) rfl) pa_nil))))) pss_nil)
  (pss_cons (ps_if (pt_cmpR op_gt (pe_callB call_lenD (by rfl) n_len (by decide +kernel) (pa_cons (pv 7) pa_nil)) pe_int (nomark _)) (pss_one (ps_expr (C8.pe_c c__law_learn hr (by decide) (by rfl) (pa_cons (pv 0) (pa_cons (pv 3) (pa_cons (pv 7) pa_nil)))))) pss_nil)
  (pss_one (ps_ret pe_non)))))) pss_nil)
  (pss_cons (ps_set (i := 10) sc__law_step.nd rfl (Or.inl rfl) (C8.pe_c c__law_roll hr (by decide) (by rfl) (pa_cons (pv 0) (pa_cons (pv 4) pa_nil))))
  (pss_cons (ps_if (PW.pt (pw_or (pt_cmp (pc_dnotin (Wp.hu1 hr) (pv 3) (pe_ix ix_list (pv 10) pe_int (fun _ _ => rfl)))) (pw_or1 (pt_cmp (pc_din (Wp.hu1 hr) (pv 3) (pe_ix ix_list (pv 10) pe_int (fun _ _ => rfl))))))) (pss_one (ps_ret pe_non)) pss_nil)
  (pss_cons (ps_if (PW.pt (pw_and (pt_cmpR op_eq (pv 3) (pe_ix ix_list (pv 10) pe_int (fun _ _ => rfl)) (nomark _)) (pw_and1 (pt_cmpR op_gt (pv 5) pe_int (nomark _))))) (pss_one (ps_ret (C8.pe_c c__law_write hr (by decide) (by rfl) (pa_cons (pv 0) (pa_cons (pv 3) (pa_cons (C8.pe_c c__law_act hr (by decide) (by rfl) (pa_cons (pv 0) (pa_cons (pv 3) (pa_cons (pv 10) (pa_cons (pv 1) pa_nil))))) pa_nil)))))) pss_nil)
  (pss_one (ps_ret (C8.pe_c c__law_write hr (by decide) (by rfl) (pa_cons (pv 0) (pa_cons (pv 3) (pa_cons (C8.pe_c c__law_talk hr (by decide) (by rfl) (pa_cons (pv 0) (pa_cons (pv 4) (pa_cons (pv 1) pa_nil)))) pa_nil)))))))))))))), r__law_step LC_Letter h⟩)
abbrev s_law : Stmt := topS 32
theorem sc_law : FnScope ["script", "cell", "stream", "people", "world", "k", "rolls", "name", "held", "rows", "author", "one", "other", "mine", "theirs"] ["script"] (C8.fnScope s_law) := C8.fnScope_by (by decide +kernel)
theorem f_law {f : Addr} {fd : FuncData} (F : C8.Fun K "law" "law" s_law f fd)
  (LC_Roll : IsC_Roll K C_Roll) (LC_Letter : IsC_Letter K C_Letter) (c__law_stream : C8.Cal P w K mg base 1 "_law_stream" (spStream K) []) (c__law_base : C8.Cal P w K mg base 2 "_law_base" (spBase K) []) (c__law_next : C8.Cal P w K mg base 1 "_law_next" (spNext K) []) (c__law_new_world : C8.Cal P w K mg base 4 "_law_new_world" (spNewWorld K C_Letter) []) (c__law_step : C8.Cal P w K mg base 6 "_law_step" (spStep K C_Letter) []) (c__law_row : C8.Cal P w K mg base 1 "_law_row" (spRow K C_Letter) []) (c_roll_of : C8.Cal P w K mg base 4 "roll_of" (spRollOf K C_Letter C_Roll) []) (c_Roll_cuts : C8.Met P w K mg base 1 C_Roll "cuts" (spCuts K C_Letter C_Roll) []) (c__law_beginning : C8.Cal P w K mg base 1 "_law_beginning" (spBeginning K) []) (c__law_came : C8.Cal P w K mg base 3 "_law_came" (spLCame K C_Letter C_Roll) []) (c_Roll_is_known : C8.Met P w K mg base 1 C_Roll "is_known" (spKnown K C_Letter C_Roll) []) (n_len : mg "len" = none) (n_range : mg "range" = none) (n_min : mg "min" = none) :
  FnOk P w K mg base C8.CX0 7 f fd ["script"] (spLaw K) :=
  C8.fn0 F sc_law (fun vs H Q E h => l_law h) (fun cdv A outer s H vs Q E hr h => ⟨t_law K C_Roll C_Letter,
  (pss_cons (ps_set (i := 1) sc_law.nd rfl (Or.inl rfl) pe_int)
  (pss_cons (ps_if (pt_cmpR op_gt (pe_callB call_len_seq (by rfl) n_len (by decide +kernel) (pa_cons (pv 0) pa_nil)) pe_int (nomark _)) (pss_one (ps_set (i := 1) sc_law.nd rfl (Or.inl rfl) (pe_ix ix_list (pv 0) pe_int (fun _ _ => rfl)))) pss_nil)
  (pss_cons (ps_set (i := 2) sc_law.nd rfl (Or.inl rfl) (C8.pe_c c__law_stream hr (by decide) (by rfl) (pa_cons (pv 1) (pa_cons pe_int pa_nil))))
  (pss_cons (ps_set (i := 3) sc_law.nd rfl (Or.inl rfl) (pe_slice sl_list (C8.pe_c c__law_base hr (by decide) (by rfl) (pa_cons (pv 2) pa_nil)) po_none (po_some (pe_op op_add pe_int (C8.pe_c c__law_next hr (by decide) (by rfl) (pa_cons (pv 2) (pa_cons pe_int pa_nil)))))))
  (pss_cons (ps_set (i := 4) sc_law.nd rfl (Or.inl rfl) (C8.pe_c c__law_new_world hr (by decide) (by rfl) (pa_cons (pv 3) (pa_cons (pe_op op_add pe_int (C8.pe_c c__law_next hr (by decide) (by rfl) (pa_cons (pv 2) (pa_cons (pe_callB call_len_seq (by rfl) n_len (by decide +kernel) (pa_cons (pv 3) pa_nil)) pa_nil)))) pa_nil))))
  (pss_cons (ps_for PassesOwn.never rfl (pi_range2 (by rfl) n_range (pa_cons pe_int (pa_cons (pe_callB (call_min2 rfl) (by rfl) n_min (by decide +kernel) (pa_cons (pe_callB call_len_seq (by rfl) n_len (by decide +kernel) (pa_cons (pv 0) pa_nil)) (pa_cons pe_int pa_nil))) pa_nil))) (pg_name (i := 5) sc_law.nd rfl (Or.inl rfl)) (pss_one (ps_expr (C8.pe_c c__law_step hr (by decide) (by rfl) (pa_cons (pv 4) (pa_cons (C8.pe_c c__law_stream hr (by decide) (by rfl) (pa_cons (pe_ix ix_list (pv 0) (pv 5) (fun _ _ => rfl)) (pa_cons (pv 5) pa_nil))) pa_nil))))))
  (pss_cons (ps_set (i := 6) sc_law.nd rfl (Or.inl rfl) (pe_lst pa_nil))
  (pss_cons (ps_for PassesOwn.never rfl (pi_list (pv 3)) (pg_name (i := 7) sc_law.nd rfl (Or.inl rfl)) (pss_cons (ps_set (i := 8) sc_law.nd rfl (Or.inl rfl) (pe_dget (Wp.hu1 hr) (pe_dget (Wp.hu1 hr) (pv 4) pe_str (fun _ _ => rfl)) (pv 7) (fun _ _ => rfl)))
  (pss_cons (ps_set (i := 9) sc_law.nd rfl (Or.inl rfl) pe_dnewK)
  (pss_cons (ps_lock (ps_for PassesOwn.never rfl (pi_keys (pv 8)) (pg_name (i := 10) sc_law.nd rfl (Or.inl rfl)) (pss_one (ps_dput (Wp.hu1 hr) (pv 9) (pv 10) (C8.pe_c c__law_row hr (by decide) (by rfl) (pa_cons (pv 4) (pa_cons (pv 8) (pa_cons (pv 10) pa_nil)))) rfl))))
  (pss_one (ps_if (pt_cmpR op_gt (pe_callB call_lenD (by rfl) n_len (by decide +kernel) (pa_cons (pv 8) pa_nil)) pe_int (nomark _)) (pss_one (ps_expr (pe_bm PySem.F.plainAttrs_list PySem.F.slot_list_append PySem.F.type_list_append mt_append (pv 6) (pa_cons (C8.pe_c c_roll_of hr (by decide) (by rfl) (pa_cons (pe_ix ix_list (pv 3) pe_int (fun _ _ => rfl)) (pa_cons (pv 9) pa_nil))) pa_nil)))) pss_nil))))))
  (pss_cons (ps_for PassesOwn.never rfl (pi_list (pv 6)) (pg_name (i := 11) sc_law.nd rfl (Or.inl rfl)) (pss_one (ps_for PassesOwn.never rfl (pi_list (pv 6)) (pg_name (i := 12) sc_law.nd rfl (Or.inl rfl)) (pss_cons (ps_set (i := 13) sc_law.nd rfl (Or.inr rfl) (C8.pe_mt0 c_Roll_cuts hr (by decide) (pv 11)))
  (pss_cons (ps_set (i := 14) sc_law.nd rfl (Or.inr rfl) (C8.pe_mt0 c_Roll_cuts hr (by decide) (pv 12)))
  (pss_cons (ps_if (pt_not (pt_val (C8.pe_c c__law_beginning hr (by decide) (by rfl) (pa_cons (pe_lock (pe_lc (own := [("name", 7)]) (g := (gName 7)) (tt := tYes) (by rfl) sc_law.nd (pi_keys (pv 13)) (blkOk_by (own := [("name", 7)]) (N := ["script", "cell", "stream", "people", "world", "k", "rolls", "name", "held", "rows", "author", "one", "other", "mine", "theirs"]) (sc := C8.fnScope s_law) (by decide +kernel)) (fun _ _ _ _ _ => (pg_name (i := 7) sc_law.nd rfl (Or.inl rfl))) (fun _ _ _ _ _ => pts_nil) (fun _ _ _ _ _ => (pe_tup (pa_cons (pv 7) (pa_cons (pe_dget (Wp.hu1 hr) (pv 13) (pv 7) (fun _ _ => rfl)) pa_nil)))))) (pa_cons (pe_lock (pe_lc (own := [("name", 7)]) (g := (gName 7)) (tt := tYes) (by rfl) sc_law.nd (pi_keys (pv 14)) (blkOk_by (own := [("name", 7)]) (N := ["script", "cell", "stream", "people", "world", "k", "rolls", "name", "held", "rows", "author", "one", "other", "mine", "theirs"]) (sc := C8.fnScope s_law) (by decide +kernel)) (fun _ _ _ _ _ => (pg_name (i := 7) sc_law.nd rfl (Or.inl rfl))) (fun _ _ _ _ _ => pts_nil) (fun _ _ _ _ _ => (pe_tup (pa_cons (pv 7) (pa_cons (pe_dget (Wp.hu1 hr) (pv 14) (pv 7) (fun _ _ => rfl)) pa_nil)))))) pa_nil))))) (pss_one (ps_ret pe_bl)) pss_nil)
  (pss_cons (ps_if (pt_not (pt_val (C8.pe_c c__law_beginning hr (by decide) (by rfl) (pa_cons (C8.pe_c c__law_came hr (by decide) (by rfl) (pa_cons (pv 11) (pa_cons (pv 3) pa_nil))) (pa_cons (C8.pe_c c__law_came hr (by decide) (by rfl) (pa_cons (pv 12) (pa_cons (pv 3) pa_nil))) pa_nil))))) (pss_one (ps_ret pe_bl)) pss_nil)
  (pss_one (ps_if (PW.pt (pw_and (pt_cmpR op_lt (pe_callB call_lenD (by rfl) n_len (by decide +kernel) (pa_cons (pv 13) pa_nil)) (pe_callB call_lenD (by rfl) n_len (by decide +kernel) (pa_cons (pv 14) pa_nil)) (nomark _)) (pw_and1 (pt_not (pt_val (C8.pe_mt c_Roll_is_known hr (by decide) (pv 12) (pa_cons (pe_fld (pv 11) rfl) pa_nil))))))) (pss_one (ps_ret pe_bl)) pss_nil)))))))))
  (pss_one (ps_ret pe_bl))))))))))), r_law LC_Roll LC_Letter h⟩)
end
theorem all_mk {l : PySem.W.OpenLaw} {w : World} {K : PySem.W.Frag} {h : Heap} {mg : Str → Option Value} {fa f0 f1 f2 f3 f4 f5 f6 f7 f8 f9 f10 f11 f12 f13 f14 f15 f16 f17 f18 f19 f20 f21 f22 f23 f24 f25 f26 f27 f28 f29 C_Roll C_Letter p7 : Addr} (X : K.In h) (G : h.Ns mainGlobals mg) (hfa : mg "law" = some (.ref fa))
    {od0 an0 od1 an1 od2 an2 od3 an3 od4 an4 od5 an5 od6 an6 od7 an7 od8 an8 od9 an9 od10 an10 od11 an11 od12 an12 od13 an13 od14 an14 od15 an15 od16 an16 od17 an17 od18 an18 od19 an19 od20 an20 od21 an21 od22 an22 od23 an23 od24 an24 od25 an25 od26 an26 od27 an27 od28 an28 od29 an29 : Option Addr} {sl0 sl1 sl2 sl3 sl4 sl5 sl6 sl7 sl8 sl9 sl10 sl11 sl12 sl13 sl14 sl15 sl16 sl17 sl18 sl19 sl20 sl21 sl22 sl23 sl24 sl25 sl26 sl27 sl28 sl29 : Array (Option Value)} {oc0 kV0 dc0 pm0 cd0 ct0 oc1 kV1 dc1 pm1 cd1 ct1 oc2 kV2 dc2 pm2 cd2 ct2 oc3 kV3 dc3 pm3 cd3 ct3 oc4 kV4 dc4 pm4 cd4 ct4 oc5 kV5 dc5 pm5 cd5 ct5 oc6 kV6 dc6 pm6 cd6 ct6 oc7 kV7 dc7 pm7 cd7 ct7 oc8 kV8 dc8 pm8 cd8 ct8 oc9 kV9 dc9 pm9 cd9 ct9 oc10 kV10 dc10 pm10 cd10 ct10 oc11 kV11 dc11 pm11 cd11 ct11 oc12 kV12 dc12 pm12 cd12 ct12 oc13 kV13 dc13 pm13 cd13 ct13 oc14 kV14 dc14 pm14 cd14 ct14 oc15 kV15 dc15 pm15 cd15 ct15 oc16 kV16 dc16 pm16 cd16 ct16 oc17 kV17 dc17 pm17 cd17 ct17 oc18 kV18 dc18 pm18 cd18 ct18 oc19 kV19 dc19 pm19 cd19 ct19 oc20 kV20 dc20 pm20 cd20 ct20 oc21 kV21 dc21 pm21 cd21 ct21 oc22 kV22 dc22 pm22 cd22 ct22 oc23 kV23 dc23 pm23 cd23 ct23 oc24 kV24 dc24 pm24 cd24 ct24 oc25 kV25 dc25 pm25 cd25 ct25 oc26 kV26 dc26 pm26 cd26 ct26 oc27 kV27 dc27 pm27 cd27 ct27 oc28 kV28 dc28 pm28 cd28 ct28 oc29 kV29 dc29 pm29 cd29 ct29 : Value} {rest7 : List Value}
    (aC_Roll : PySem.W.nsIn K mainGlobals "Roll" = some (some (.ref C_Roll))) (pg_Roll : PySem.W.plainGet K C_Roll Str.empty = true) (hd_Roll : PySem.W.hasDictIn K C_Roll = true) (po_Roll : PySem.W.plainOver K C_Roll = true) (sa_Roll : PySem.W.findIn K (.ref C_Roll) "__setattr__" = some (some (.builtin "object.__setattr__"))) (mk_Roll : PySem.W.makesIn K C_Roll = true) (kc_Roll : PySem.W.keepIn K (.ref C_Roll) = true)
    (nf_Roll_founder : PySem.W.findIn K (.ref C_Roll) "founder" = some none)
    (nf_Roll_keeper : PySem.W.findIn K (.ref C_Roll) "keeper" = some none)
    (nf_Roll_came : PySem.W.findIn K (.ref C_Roll) "_came" = some none)
    (nf_Roll_limits : PySem.W.findIn K (.ref C_Roll) "_limits" = some none)
    (aC_Letter : PySem.W.nsIn K mainGlobals "Letter" = some (some (.ref C_Letter))) (pg_Letter : PySem.W.plainGet K C_Letter Str.empty = true) (hd_Letter : PySem.W.hasDictIn K C_Letter = true) (po_Letter : PySem.W.plainOver K C_Letter = true) (sa_Letter : PySem.W.findIn K (.ref C_Letter) "__setattr__" = some (some (.builtin "object.__setattr__"))) (mk_Letter : PySem.W.makesIn K C_Letter = true) (kc_Letter : PySem.W.keepIn K (.ref C_Letter) = true)
    (nf_Letter_author : PySem.W.findIn K (.ref C_Letter) "author" = some none)
    (nf_Letter_number : PySem.W.findIn K (.ref C_Letter) "number" = some none)
    (nf_Letter_stamp : PySem.W.findIn K (.ref C_Letter) "stamp" = some none)
    (nf_Letter_seen : PySem.W.findIn K (.ref C_Letter) "seen" = some none)
    (nf_Letter_body : PySem.W.findIn K (.ref C_Letter) "body" = some none)
    (nf_Letter_counts : PySem.W.findIn K (.ref C_Letter) "_counts" = some none)
    (a0 : PySem.W.nsIn K mainGlobals "is_act" = some (some (.ref f0))) (l0 : K.lookup f0 = some ⟨oc0, od0, .func (PySem.W.fnOf "is_act" "is_act" (C8.fnArgs s_is_act) (C8.fnBody s_is_act) (C8.fnScope s_is_act) .none kV0 dc0 pm0 an0 cd0 ct0), sl0⟩) (c0 : PySem.W.codeIn K cd0 "is_act" = true) (k0 : PySem.W.keepIn K (.ref f0) = true)
    (a1 : PySem.W.findIn K (.ref C_Roll) "__init__" = some (some (.ref f1))) (i1 : PySem.W.isFn K (.ref f1) = true) (l1 : K.lookup f1 = some ⟨oc1, od1, .func (PySem.W.fnOf "__init__" "Roll.__init__" (C8.fnArgs s_Roll___init__) (C8.fnBody s_Roll___init__) (C8.fnScope s_Roll___init__) .none kV1 dc1 pm1 an1 cd1 ct1), sl1⟩) (c1 : PySem.W.codeIn K cd1 "Roll.__init__" = true) (k1 : PySem.W.keepIn K (.ref f1) = true)
    (a2 : PySem.W.findIn K (.ref C_Roll) "cuts" = some (some (.ref f2))) (i2 : PySem.W.isFn K (.ref f2) = true) (l2 : K.lookup f2 = some ⟨oc2, od2, .func (PySem.W.fnOf "cuts" "Roll.cuts" (C8.fnArgs s_Roll_cuts) (C8.fnBody s_Roll_cuts) (C8.fnScope s_Roll_cuts) .none kV2 dc2 pm2 an2 cd2 ct2), sl2⟩) (c2 : PySem.W.codeIn K cd2 "Roll.cuts" = true) (k2 : PySem.W.keepIn K (.ref f2) = true)
    (a3 : PySem.W.findIn K (.ref C_Roll) "is_known" = some (some (.ref f3))) (i3 : PySem.W.isFn K (.ref f3) = true) (l3 : K.lookup f3 = some ⟨oc3, od3, .func (PySem.W.fnOf "is_known" "Roll.is_known" (C8.fnArgs s_Roll_is_known) (C8.fnBody s_Roll_is_known) (C8.fnScope s_Roll_is_known) .none kV3 dc3 pm3 an3 cd3 ct3), sl3⟩) (c3 : PySem.W.codeIn K cd3 "Roll.is_known" = true) (k3 : PySem.W.keepIn K (.ref f3) = true)
    (a4 : PySem.W.findIn K (.ref C_Roll) "_must_know" = some (some (.ref f4))) (i4 : PySem.W.isFn K (.ref f4) = true) (l4 : K.lookup f4 = some ⟨oc4, od4, .func (PySem.W.fnOf "_must_know" "Roll._must_know" (C8.fnArgs s_Roll__must_know) (C8.fnBody s_Roll__must_know) (C8.fnScope s_Roll__must_know) .none kV4 dc4 pm4 an4 cd4 ct4), sl4⟩) (c4 : PySem.W.codeIn K cd4 "Roll._must_know" = true) (k4 : PySem.W.keepIn K (.ref f4) = true)
    (a5 : PySem.W.nsIn K mainGlobals "_is_other_member" = some (some (.ref f5))) (l5 : K.lookup f5 = some ⟨oc5, od5, .func (PySem.W.fnOf "_is_other_member" "_is_other_member" (C8.fnArgs s__is_other_member) (C8.fnBody s__is_other_member) (C8.fnScope s__is_other_member) .none kV5 dc5 pm5 an5 cd5 ct5), sl5⟩) (c5 : PySem.W.codeIn K cd5 "_is_other_member" = true) (k5 : PySem.W.keepIn K (.ref f5) = true)
    (a6 : PySem.W.findIn K (.ref C_Letter) "__init__" = some (some (.ref f6))) (i6 : PySem.W.isFn K (.ref f6) = true) (l6 : K.lookup f6 = some ⟨oc6, od6, .func (PySem.W.fnOf "__init__" "Letter.__init__" (C8.fnArgs s_Letter___init__) (C8.fnBody s_Letter___init__) (C8.fnScope s_Letter___init__) .none kV6 dc6 pm6 an6 cd6 ct6), sl6⟩) (c6 : PySem.W.codeIn K cd6 "Letter.__init__" = true) (k6 : PySem.W.keepIn K (.ref f6) = true)
    (a7 : PySem.W.findIn K (.ref C_Letter) "ref" = some (some (.ref p7))) (g7 : PySem.W.specialIn K (.ref p7) "__get__" = some (some (.builtin "property.__get__"))) (t7_ : PySem.W.takesIn K (.ref p7) = some true) (r7 : PySem.W.recIn K p7 "property" = some (.ref f7 :: rest7)) (l7 : K.lookup f7 = some ⟨oc7, od7, .func (PySem.W.fnOf "ref" "Letter.ref" (C8.fnArgs s_Letter_ref) (C8.fnBody s_Letter_ref) (C8.fnScope s_Letter_ref) .none kV7 dc7 pm7 an7 cd7 ct7), sl7⟩) (c7 : PySem.W.codeIn K cd7 "Letter.ref" = true)
    (a8 : PySem.W.findIn K (.ref C_Letter) "count" = some (some (.ref f8))) (i8 : PySem.W.isFn K (.ref f8) = true) (l8 : K.lookup f8 = some ⟨oc8, od8, .func (PySem.W.fnOf "count" "Letter.count" (C8.fnArgs s_Letter_count) (C8.fnBody s_Letter_count) (C8.fnScope s_Letter_count) .none kV8 dc8 pm8 an8 cd8 ct8), sl8⟩) (c8 : PySem.W.codeIn K cd8 "Letter.count" = true) (k8 : PySem.W.keepIn K (.ref f8) = true)
    (a9 : PySem.W.nsIn K mainGlobals "_law_stream" = some (some (.ref f9))) (l9 : K.lookup f9 = some ⟨oc9, od9, .func (PySem.W.fnOf "_law_stream" "_law_stream" (C8.fnArgs s__law_stream) (C8.fnBody s__law_stream) (C8.fnScope s__law_stream) .none kV9 dc9 pm9 an9 cd9 ct9), sl9⟩) (c9 : PySem.W.codeIn K cd9 "_law_stream" = true) (k9 : PySem.W.keepIn K (.ref f9) = true)
    (a10 : PySem.W.nsIn K mainGlobals "_law_next" = some (some (.ref f10))) (l10 : K.lookup f10 = some ⟨oc10, od10, .func (PySem.W.fnOf "_law_next" "_law_next" (C8.fnArgs s__law_next) (C8.fnBody s__law_next) (C8.fnScope s__law_next) .none kV10 dc10 pm10 an10 cd10 ct10), sl10⟩) (c10 : PySem.W.codeIn K cd10 "_law_next" = true) (k10 : PySem.W.keepIn K (.ref f10) = true)
    (a11 : PySem.W.nsIn K mainGlobals "_law_row" = some (some (.ref f11))) (l11 : K.lookup f11 = some ⟨oc11, od11, .func (PySem.W.fnOf "_law_row" "_law_row" (C8.fnArgs s__law_row) (C8.fnBody s__law_row) (C8.fnScope s__law_row) .none kV11 dc11 pm11 an11 cd11 ct11), sl11⟩) (c11 : PySem.W.codeIn K cd11 "_law_row" = true) (k11 : PySem.W.keepIn K (.ref f11) = true)
    (a12 : PySem.W.nsIn K mainGlobals "_law_beginning" = some (some (.ref f12))) (l12 : K.lookup f12 = some ⟨oc12, od12, .func (PySem.W.fnOf "_law_beginning" "_law_beginning" (C8.fnArgs s__law_beginning) (C8.fnBody s__law_beginning) (C8.fnScope s__law_beginning) .none kV12 dc12 pm12 an12 cd12 ct12), sl12⟩) (c12 : PySem.W.codeIn K cd12 "_law_beginning" = true) (k12 : PySem.W.keepIn K (.ref f12) = true)
    (a13 : PySem.W.findIn K (.ref C_Roll) "came_by" = some (some (.ref f13))) (i13 : PySem.W.isFn K (.ref f13) = true) (l13 : K.lookup f13 = some ⟨oc13, od13, .func (PySem.W.fnOf "came_by" "Roll.came_by" (C8.fnArgs s_Roll_came_by) (C8.fnBody s_Roll_came_by) (C8.fnScope s_Roll_came_by) .none kV13 dc13 pm13 an13 cd13 ct13), sl13⟩) (c13 : PySem.W.codeIn K cd13 "Roll.came_by" = true) (k13 : PySem.W.keepIn K (.ref f13) = true)
    (a14 : PySem.W.findIn K (.ref C_Letter) "has_seen" = some (some (.ref f14))) (i14 : PySem.W.isFn K (.ref f14) = true) (l14 : K.lookup f14 = some ⟨oc14, od14, .func (PySem.W.fnOf "has_seen" "Letter.has_seen" (C8.fnArgs s_Letter_has_seen) (C8.fnBody s_Letter_has_seen) (C8.fnScope s_Letter_has_seen) .none kV14 dc14 pm14 an14 cd14 ct14), sl14⟩) (c14 : PySem.W.codeIn K cd14 "Letter.has_seen" = true) (k14 : PySem.W.keepIn K (.ref f14) = true)
    (a15 : PySem.W.nsIn K mainGlobals "_law_base" = some (some (.ref f15))) (l15 : K.lookup f15 = some ⟨oc15, od15, .func (PySem.W.fnOf "_law_base" "_law_base" (C8.fnArgs s__law_base) (C8.fnBody s__law_base) (C8.fnScope s__law_base) .none kV15 dc15 pm15 an15 cd15 ct15), sl15⟩) (c15 : PySem.W.codeIn K cd15 "_law_base" = true) (k15 : PySem.W.keepIn K (.ref f15) = true)
    (a16 : PySem.W.nsIn K mainGlobals "_law_target" = some (some (.ref f16))) (l16 : K.lookup f16 = some ⟨oc16, od16, .func (PySem.W.fnOf "_law_target" "_law_target" (C8.fnArgs s__law_target) (C8.fnBody s__law_target) (C8.fnScope s__law_target) .none kV16 dc16 pm16 an16 cd16 ct16), sl16⟩) (c16 : PySem.W.codeIn K cd16 "_law_target" = true) (k16 : PySem.W.keepIn K (.ref f16) = true)
    (a17 : PySem.W.nsIn K mainGlobals "_law_act" = some (some (.ref f17))) (l17 : K.lookup f17 = some ⟨oc17, od17, .func (PySem.W.fnOf "_law_act" "_law_act" (C8.fnArgs s__law_act) (C8.fnBody s__law_act) (C8.fnScope s__law_act) .none kV17 dc17 pm17 an17 cd17 ct17), sl17⟩) (c17 : PySem.W.codeIn K cd17 "_law_act" = true) (k17 : PySem.W.keepIn K (.ref f17) = true)
    (a18 : PySem.W.nsIn K mainGlobals "_first_that_has_seen" = some (some (.ref f18))) (l18 : K.lookup f18 = some ⟨oc18, od18, .func (PySem.W.fnOf "_first_that_has_seen" "_first_that_has_seen" (C8.fnArgs s__first_that_has_seen) (C8.fnBody s__first_that_has_seen) (C8.fnScope s__first_that_has_seen) .none kV18 dc18 pm18 an18 cd18 ct18), sl18⟩) (c18 : PySem.W.codeIn K cd18 "_first_that_has_seen" = true) (k18 : PySem.W.keepIn K (.ref f18) = true)
    (a19 : PySem.W.nsIn K mainGlobals "_law_founding" = some (some (.ref f19))) (l19 : K.lookup f19 = some ⟨oc19, od19, .func (PySem.W.fnOf "_law_founding" "_law_founding" (C8.fnArgs s__law_founding) (C8.fnBody s__law_founding) (C8.fnScope s__law_founding) .none kV19 dc19 pm19 an19 cd19 ct19), sl19⟩) (c19 : PySem.W.codeIn K cd19 "_law_founding" = true) (k19 : PySem.W.keepIn K (.ref f19) = true)
    (a20 : PySem.W.nsIn K mainGlobals "_law_after" = some (some (.ref f20))) (l20 : K.lookup f20 = some ⟨oc20, od20, .func (PySem.W.fnOf "_law_after" "_law_after" (C8.fnArgs s__law_after) (C8.fnBody s__law_after) (C8.fnScope s__law_after) .none kV20 dc20 pm20 an20 cd20 ct20), sl20⟩) (c20 : PySem.W.codeIn K cd20 "_law_after" = true) (k20 : PySem.W.keepIn K (.ref f20) = true)
    (a21 : PySem.W.nsIn K mainGlobals "_law_write" = some (some (.ref f21))) (l21 : K.lookup f21 = some ⟨oc21, od21, .func (PySem.W.fnOf "_law_write" "_law_write" (C8.fnArgs s__law_write) (C8.fnBody s__law_write) (C8.fnScope s__law_write) .none kV21 dc21 pm21 an21 cd21 ct21), sl21⟩) (c21 : PySem.W.codeIn K cd21 "_law_write" = true) (k21 : PySem.W.keepIn K (.ref f21) = true)
    (a22 : PySem.W.nsIn K mainGlobals "_law_talk" = some (some (.ref f22))) (l22 : K.lookup f22 = some ⟨oc22, od22, .func (PySem.W.fnOf "_law_talk" "_law_talk" (C8.fnArgs s__law_talk) (C8.fnBody s__law_talk) (C8.fnScope s__law_talk) .none kV22 dc22 pm22 an22 cd22 ct22), sl22⟩) (c22 : PySem.W.codeIn K cd22 "_law_talk" = true) (k22 : PySem.W.keepIn K (.ref f22) = true)
    (a23 : PySem.W.nsIn K mainGlobals "_law_came" = some (some (.ref f23))) (l23 : K.lookup f23 = some ⟨oc23, od23, .func (PySem.W.fnOf "_law_came" "_law_came" (C8.fnArgs s__law_came) (C8.fnBody s__law_came) (C8.fnScope s__law_came) .none kV23 dc23 pm23 an23 cd23 ct23), sl23⟩) (c23 : PySem.W.codeIn K cd23 "_law_came" = true) (k23 : PySem.W.keepIn K (.ref f23) = true)
    (a24 : PySem.W.nsIn K mainGlobals "roll_of" = some (some (.ref f24))) (l24 : K.lookup f24 = some ⟨oc24, od24, .func (PySem.W.fnOf "roll_of" "roll_of" (C8.fnArgs s_roll_of) (C8.fnBody s_roll_of) (C8.fnScope s_roll_of) .none kV24 dc24 pm24 an24 cd24 ct24), sl24⟩) (c24 : PySem.W.codeIn K cd24 "roll_of" = true) (k24 : PySem.W.keepIn K (.ref f24) = true)
    (a25 : PySem.W.nsIn K mainGlobals "_law_new_world" = some (some (.ref f25))) (l25 : K.lookup f25 = some ⟨oc25, od25, .func (PySem.W.fnOf "_law_new_world" "_law_new_world" (C8.fnArgs s__law_new_world) (C8.fnBody s__law_new_world) (C8.fnScope s__law_new_world) .none kV25 dc25 pm25 an25 cd25 ct25), sl25⟩) (c25 : PySem.W.codeIn K cd25 "_law_new_world" = true) (k25 : PySem.W.keepIn K (.ref f25) = true)
    (a26 : PySem.W.nsIn K mainGlobals "_law_roll" = some (some (.ref f26))) (l26 : K.lookup f26 = some ⟨oc26, od26, .func (PySem.W.fnOf "_law_roll" "_law_roll" (C8.fnArgs s__law_roll) (C8.fnBody s__law_roll) (C8.fnScope s__law_roll) .none kV26 dc26 pm26 an26 cd26 ct26), sl26⟩) (c26 : PySem.W.codeIn K cd26 "_law_roll" = true) (k26 : PySem.W.keepIn K (.ref f26) = true)
    (a27 : PySem.W.nsIn K mainGlobals "_law_learn" = some (some (.ref f27))) (l27 : K.lookup f27 = some ⟨oc27, od27, .func (PySem.W.fnOf "_law_learn" "_law_learn" (C8.fnArgs s__law_learn) (C8.fnBody s__law_learn) (C8.fnScope s__law_learn) .none kV27 dc27 pm27 an27 cd27 ct27), sl27⟩) (c27 : PySem.W.codeIn K cd27 "_law_learn" = true) (k27 : PySem.W.keepIn K (.ref f27) = true)
    (a28 : PySem.W.nsIn K mainGlobals "_law_step" = some (some (.ref f28))) (l28 : K.lookup f28 = some ⟨oc28, od28, .func (PySem.W.fnOf "_law_step" "_law_step" (C8.fnArgs s__law_step) (C8.fnBody s__law_step) (C8.fnScope s__law_step) .none kV28 dc28 pm28 an28 cd28 ct28), sl28⟩) (c28 : PySem.W.codeIn K cd28 "_law_step" = true) (k28 : PySem.W.keepIn K (.ref f28) = true)
    (a29 : PySem.W.nsIn K mainGlobals "law" = some (some (.ref f29))) (l29 : K.lookup f29 = some ⟨oc29, od29, .func (PySem.W.fnOf "law" "law" (C8.fnArgs s_law) (C8.fnBody s_law) (C8.fnScope s_law) .none kV29 dc29 pm29 an29 cd29 ct29), sl29⟩) (c29 : PySem.W.codeIn K cd29 "law" = true) (k29 : PySem.W.keepIn K (.ref f29) = true)
    (z0 : PySem.W.nsIn K mainGlobals "dict" = some none)
    (z1 : PySem.W.nsIn K mainGlobals "int" = some none)
    (z2 : PySem.W.nsIn K mainGlobals "len" = some none)
    (z3 : PySem.W.nsIn K mainGlobals "range" = some none)
    (z4 : PySem.W.nsIn K mainGlobals "sorted" = some none)
    (z5 : PySem.W.nsIn K mainGlobals "enumerate" = some none)
    (z6 : PySem.W.nsIn K mainGlobals "tuple" = some none)
    (z7 : PySem.W.nsIn K mainGlobals "max" = some none)
    (z8 : PySem.W.nsIn K mainGlobals "str" = some none)
    (z9 : PySem.W.nsIn K mainGlobals "sum" = some none)
    (z10 : PySem.W.nsIn K mainGlobals "min" = some none)
    : ∃ fd : FuncData, (∀ (s : Shared) (v : Value), BindsTo s fd ⟨[v], []⟩ [("script", v)]) ∧ ∀ base : Heap, K.In base → base.Ns mainGlobals mg → FnOk l.prog w K mg base C8.CX0 7 fa fd ["script"] (spLaw K) := by
  have e := hfa.symm.trans (PySem.W.mg_of X G a29)
  cases e
  have n_dict : mg "dict" = none := PySem.W.mg_none_of X G z0
  have n_int : mg "int" = none := PySem.W.mg_none_of X G z1
  have n_len : mg "len" = none := PySem.W.mg_none_of X G z2
  have n_range : mg "range" = none := PySem.W.mg_none_of X G z3
  have n_sorted : mg "sorted" = none := PySem.W.mg_none_of X G z4
  have n_enumerate : mg "enumerate" = none := PySem.W.mg_none_of X G z5
  have n_tuple : mg "tuple" = none := PySem.W.mg_none_of X G z6
  have n_max : mg "max" = none := PySem.W.mg_none_of X G z7
  have n_str : mg "str" = none := PySem.W.mg_none_of X G z8
  have n_sum : mg "sum" = none := PySem.W.mg_none_of X G z9
  have n_min : mg "min" = none := PySem.W.mg_none_of X G z10
  have LC_Roll : IsC_Roll K C_Roll := ⟨⟨pg_Roll, hd_Roll, po_Roll, sa_Roll⟩, nf_Roll_founder, nf_Roll_keeper, nf_Roll_came, nf_Roll_limits⟩
  have LC_Letter : IsC_Letter K C_Letter := ⟨⟨pg_Letter, hd_Letter, po_Letter, sa_Letter⟩, nf_Letter_author, nf_Letter_number, nf_Letter_stamp, nf_Letter_seen, nf_Letter_body, nf_Letter_counts⟩
  have F0 : C8.Fun K "is_act" "is_act" s_is_act _ _ := ⟨⟨_, _, _, _, _, _, _, _, _, _, rfl, l0, c0⟩⟩
  have F1 : C8.Fun K "__init__" "Roll.__init__" s_Roll___init__ _ _ := ⟨⟨_, _, _, _, _, _, _, _, _, _, rfl, l1, c1⟩⟩
  have F2 : C8.Fun K "cuts" "Roll.cuts" s_Roll_cuts _ _ := ⟨⟨_, _, _, _, _, _, _, _, _, _, rfl, l2, c2⟩⟩
  have F3 : C8.Fun K "is_known" "Roll.is_known" s_Roll_is_known _ _ := ⟨⟨_, _, _, _, _, _, _, _, _, _, rfl, l3, c3⟩⟩
  have F4 : C8.Fun K "_must_know" "Roll._must_know" s_Roll__must_know _ _ := ⟨⟨_, _, _, _, _, _, _, _, _, _, rfl, l4, c4⟩⟩
  have F5 : C8.Fun K "_is_other_member" "_is_other_member" s__is_other_member _ _ := ⟨⟨_, _, _, _, _, _, _, _, _, _, rfl, l5, c5⟩⟩
  have F6 : C8.Fun K "__init__" "Letter.__init__" s_Letter___init__ _ _ := ⟨⟨_, _, _, _, _, _, _, _, _, _, rfl, l6, c6⟩⟩
  have F7 : C8.Fun K "ref" "Letter.ref" s_Letter_ref _ _ := ⟨⟨_, _, _, _, _, _, _, _, _, _, rfl, l7, c7⟩⟩
  have F8 : C8.Fun K "count" "Letter.count" s_Letter_count _ _ := ⟨⟨_, _, _, _, _, _, _, _, _, _, rfl, l8, c8⟩⟩
  have F9 : C8.Fun K "_law_stream" "_law_stream" s__law_stream _ _ := ⟨⟨_, _, _, _, _, _, _, _, _, _, rfl, l9, c9⟩⟩
  have F10 : C8.Fun K "_law_next" "_law_next" s__law_next _ _ := ⟨⟨_, _, _, _, _, _, _, _, _, _, rfl, l10, c10⟩⟩
  have F11 : C8.Fun K "_law_row" "_law_row" s__law_row _ _ := ⟨⟨_, _, _, _, _, _, _, _, _, _, rfl, l11, c11⟩⟩
  have F12 : C8.Fun K "_law_beginning" "_law_beginning" s__law_beginning _ _ := ⟨⟨_, _, _, _, _, _, _, _, _, _, rfl, l12, c12⟩⟩
  have F13 : C8.Fun K "came_by" "Roll.came_by" s_Roll_came_by _ _ := ⟨⟨_, _, _, _, _, _, _, _, _, _, rfl, l13, c13⟩⟩
  have F14 : C8.Fun K "has_seen" "Letter.has_seen" s_Letter_has_seen _ _ := ⟨⟨_, _, _, _, _, _, _, _, _, _, rfl, l14, c14⟩⟩
  have F15 : C8.Fun K "_law_base" "_law_base" s__law_base _ _ := ⟨⟨_, _, _, _, _, _, _, _, _, _, rfl, l15, c15⟩⟩
  have F16 : C8.Fun K "_law_target" "_law_target" s__law_target _ _ := ⟨⟨_, _, _, _, _, _, _, _, _, _, rfl, l16, c16⟩⟩
  have F17 : C8.Fun K "_law_act" "_law_act" s__law_act _ _ := ⟨⟨_, _, _, _, _, _, _, _, _, _, rfl, l17, c17⟩⟩
  have F18 : C8.Fun K "_first_that_has_seen" "_first_that_has_seen" s__first_that_has_seen _ _ := ⟨⟨_, _, _, _, _, _, _, _, _, _, rfl, l18, c18⟩⟩
  have F19 : C8.Fun K "_law_founding" "_law_founding" s__law_founding _ _ := ⟨⟨_, _, _, _, _, _, _, _, _, _, rfl, l19, c19⟩⟩
  have F20 : C8.Fun K "_law_after" "_law_after" s__law_after _ _ := ⟨⟨_, _, _, _, _, _, _, _, _, _, rfl, l20, c20⟩⟩
  have F21 : C8.Fun K "_law_write" "_law_write" s__law_write _ _ := ⟨⟨_, _, _, _, _, _, _, _, _, _, rfl, l21, c21⟩⟩
  have F22 : C8.Fun K "_law_talk" "_law_talk" s__law_talk _ _ := ⟨⟨_, _, _, _, _, _, _, _, _, _, rfl, l22, c22⟩⟩
  have F23 : C8.Fun K "_law_came" "_law_came" s__law_came _ _ := ⟨⟨_, _, _, _, _, _, _, _, _, _, rfl, l23, c23⟩⟩
  have F24 : C8.Fun K "roll_of" "roll_of" s_roll_of _ _ := ⟨⟨_, _, _, _, _, _, _, _, _, _, rfl, l24, c24⟩⟩
  have F25 : C8.Fun K "_law_new_world" "_law_new_world" s__law_new_world _ _ := ⟨⟨_, _, _, _, _, _, _, _, _, _, rfl, l25, c25⟩⟩
  have F26 : C8.Fun K "_law_roll" "_law_roll" s__law_roll _ _ := ⟨⟨_, _, _, _, _, _, _, _, _, _, rfl, l26, c26⟩⟩
  have F27 : C8.Fun K "_law_learn" "_law_learn" s__law_learn _ _ := ⟨⟨_, _, _, _, _, _, _, _, _, _, rfl, l27, c27⟩⟩
  have F28 : C8.Fun K "_law_step" "_law_step" s__law_step _ _ := ⟨⟨_, _, _, _, _, _, _, _, _, _, rfl, l28, c28⟩⟩
  have F29 : C8.Fun K "law" "law" s_law _ _ := ⟨⟨_, _, _, _, _, _, _, _, _, _, rfl, l29, c29⟩⟩
  refine ⟨PySem.W.fnOf "law" "law" (C8.fnArgs s_law) (C8.fnBody s_law) (C8.fnScope s_law) .none kV29 dc29 pm29 an29 cd29 ct29, fun s v => .of_eq rfl, fun base _ _ => ?_⟩
  have c_is_act := c_is_act (P := l.prog) (w := w) (base := base) ⟨F0, PySem.W.mg_of X G a0, k0⟩ (F0.binds rfl fun _ _ _ _ _ _ us hl => match us, hl with | [_], _ => rfl) 
  have c_Roll___init__ := c_Roll___init__ (P := l.prog) (w := w) (base := base) ⟨mk_Roll, a1, i1, kc_Roll⟩ (PySem.W.mg_of X G aC_Roll) F1 (F1.binds rfl fun _ _ _ _ _ _ us hl => match us, hl with | [_, _, _, _, _], _ => rfl) LC_Roll LC_Letter n_dict
  have c_Roll_cuts := c_Roll_cuts (P := l.prog) (w := w) (mg := mg) (base := base) ⟨a2, i2, k2⟩ F2 (F2.binds rfl fun _ _ _ _ _ _ us hl => match us, hl with | [_], _ => rfl) LC_Roll LC_Letter n_dict
  have c_Roll_is_known := c_Roll_is_known (P := l.prog) (w := w) (mg := mg) (base := base) ⟨a3, i3, k3⟩ F3 (F3.binds rfl fun _ _ _ _ _ _ us hl => match us, hl with | [_, _], _ => rfl) LC_Roll LC_Letter
  have c_Roll__must_know := c_Roll__must_know (P := l.prog) (w := w) (mg := mg) (base := base) ⟨a4, i4, k4⟩ F4 (F4.binds rfl fun _ _ _ _ _ _ us hl => match us, hl with | [_, _], _ => rfl) LC_Roll LC_Letter
  have c__is_other_member := c__is_other_member (P := l.prog) (w := w) (base := base) ⟨F5, PySem.W.mg_of X G a5, k5⟩ (F5.binds rfl fun _ _ _ _ _ _ us hl => match us, hl with | [_, _, _, _], _ => rfl) 
  have c_Letter___init__ := c_Letter___init__ (P := l.prog) (w := w) (base := base) ⟨mk_Letter, a6, i6, kc_Letter⟩ (PySem.W.mg_of X G aC_Letter) F6 (F6.binds rfl fun _ _ _ _ _ _ us hl => match us, hl with | [_, _, _, _, _, _], _ => rfl) LC_Letter
  have c_Letter_ref := c_Letter_ref (P := l.prog) (w := w) (mg := mg) (base := base) ⟨a7, g7, t7_, ⟨_, r7⟩⟩ F7 (F7.binds rfl fun _ _ _ _ _ _ us hl => match us, hl with | [_], _ => rfl) LC_Letter
  have c_Letter_count := c_Letter_count (P := l.prog) (w := w) (mg := mg) (base := base) ⟨a8, i8, k8⟩ F8 (F8.binds rfl fun _ _ _ _ _ _ us hl => match us, hl with | [_, _], _ => rfl) LC_Letter
  have c__law_stream := c__law_stream (P := l.prog) (w := w) (base := base) ⟨F9, PySem.W.mg_of X G a9, k9⟩ (F9.binds rfl fun _ _ _ _ _ _ us hl => match us, hl with | [_, _], _ => rfl) n_int
  have c__law_next := c__law_next (P := l.prog) (w := w) (base := base) ⟨F10, PySem.W.mg_of X G a10, k10⟩ (F10.binds rfl fun _ _ _ _ _ _ us hl => match us, hl with | [_, _], _ => rfl) n_int
  have c__law_row := c__law_row (P := l.prog) (w := w) (base := base) ⟨F11, PySem.W.mg_of X G a11, k11⟩ (F11.binds rfl fun _ _ _ _ _ _ us hl => match us, hl with | [_, _, _], _ => rfl) LC_Letter
  have c__law_beginning := c__law_beginning (P := l.prog) (w := w) (base := base) ⟨F12, PySem.W.mg_of X G a12, k12⟩ (F12.binds rfl fun _ _ _ _ _ _ us hl => match us, hl with | [_, _], _ => rfl) n_len
  have c_Roll_came_by := c_Roll_came_by (P := l.prog) (w := w) (mg := mg) (base := base) ⟨a13, i13, k13⟩ F13 (F13.binds rfl fun _ _ _ _ _ _ us hl => match us, hl with | [_, _], _ => rfl) LC_Roll LC_Letter c_Roll__must_know
  have c_Letter_has_seen := c_Letter_has_seen (P := l.prog) (w := w) (mg := mg) (base := base) ⟨a14, i14, k14⟩ F14 (F14.binds rfl fun _ _ _ _ _ _ us hl => match us, hl with | [_, _], _ => rfl) LC_Letter c_Letter_count
  have c__law_base := c__law_base (P := l.prog) (w := w) (base := base) ⟨F15, PySem.W.mg_of X G a15, k15⟩ (F15.binds rfl fun _ _ _ _ _ _ us hl => match us, hl with | [_], _ => rfl) c__law_next n_range
  have c__law_target := c__law_target (P := l.prog) (w := w) (base := base) ⟨F16, PySem.W.mg_of X G a16, k16⟩ (F16.binds rfl fun _ _ _ _ _ _ us hl => match us, hl with | [_, _, _], _ => rfl) c__law_next n_sorted n_len
  have c__law_act := c__law_act (P := l.prog) (w := w) (base := base) ⟨F17, PySem.W.mg_of X G a17, k17⟩ (F17.binds rfl fun _ _ _ _ _ _ us hl => match us, hl with | [_, _, _, _], _ => rfl) LC_Letter c__law_next n_len
  have c__first_that_has_seen := c__first_that_has_seen (P := l.prog) (w := w) (base := base) ⟨F18, PySem.W.mg_of X G a18, k18⟩ (F18.binds rfl fun _ _ _ _ _ _ us hl => match us, hl with | [_, _], _ => rfl) LC_Letter c_Letter_has_seen n_enumerate n_len
  have c__law_founding := c__law_founding (P := l.prog) (w := w) (base := base) ⟨F19, PySem.W.mg_of X G a19, k19⟩ (F19.binds rfl fun _ _ _ _ _ _ us hl => match us, hl with | [_, _], _ => rfl) LC_Letter c_Letter___init__ n_tuple n_sorted
  have c__law_after := c__law_after (P := l.prog) (w := w) (base := base) ⟨F20, PySem.W.mg_of X G a20, k20⟩ (F20.binds rfl fun _ _ _ _ _ _ us hl => match us, hl with | [_, _], _ => rfl) LC_Letter c_Letter_has_seen
  have c__law_write := c__law_write (P := l.prog) (w := w) (base := base) ⟨F21, PySem.W.mg_of X G a21, k21⟩ (F21.binds rfl fun _ _ _ _ _ _ us hl => match us, hl with | [_, _, _], _ => rfl) LC_Letter c_Letter___init__ n_max n_dict n_tuple n_sorted
  have c__law_talk := c__law_talk (P := l.prog) (w := w) (base := base) ⟨F22, PySem.W.mg_of X G a22, k22⟩ (F22.binds rfl fun _ _ _ _ _ _ us hl => match us, hl with | [_, _, _], _ => rfl) LC_Letter c__law_next c__law_target n_str
  have c__law_came := c__law_came (P := l.prog) (w := w) (base := base) ⟨F23, PySem.W.mg_of X G a23, k23⟩ (F23.binds rfl fun _ _ _ _ _ _ us hl => match us, hl with | [_, _], _ => rfl) LC_Roll LC_Letter c_Roll_is_known c_Roll_came_by c_Letter_ref n_sorted
  have c_roll_of := c_roll_of (P := l.prog) (w := w) (base := base) ⟨F24, PySem.W.mg_of X G a24, k24⟩ (F24.binds rfl fun _ _ _ _ _ _ us hl => match us, hl with | [_, _], _ => rfl) LC_Letter LC_Roll c_is_act c__is_other_member c_Letter_count c__first_that_has_seen c_Letter_ref c_Roll___init__ n_len
  have c__law_new_world := c__law_new_world (P := l.prog) (w := w) (base := base) ⟨F25, PySem.W.mg_of X G a25, k25⟩ (F25.binds rfl fun _ _ _ _ _ _ us hl => match us, hl with | [_, _], _ => rfl) LC_Letter c__law_founding
  have c__law_roll := c__law_roll (P := l.prog) (w := w) (base := base) ⟨F26, PySem.W.mg_of X G a26, k26⟩ (F26.binds rfl fun _ _ _ _ _ _ us hl => match us, hl with | [_, _], _ => rfl) LC_Letter c__law_row c_Letter_count c__law_after c_Letter_ref n_range n_sum n_len
  have c__law_learn := c__law_learn (P := l.prog) (w := w) (base := base) ⟨F27, PySem.W.mg_of X G a27, k27⟩ (F27.binds rfl fun _ _ _ _ _ _ us hl => match us, hl with | [_, _, _], _ => rfl) LC_Letter c__law_roll n_dict n_max n_min
  have c__law_step := c__law_step (P := l.prog) (w := w) (base := base) ⟨F28, PySem.W.mg_of X G a28, k28⟩ (F28.binds rfl fun _ _ _ _ _ _ us hl => match us, hl with | [_, _], _ => rfl) LC_Letter c__law_next c__law_target c__law_learn c__law_roll c__law_write c__law_act c__law_talk n_len n_dict
  exact f_law F29 LC_Roll LC_Letter c__law_stream c__law_base c__law_next c__law_new_world c__law_step c__law_row c_roll_of c_Roll_cuts c__law_beginning c__law_came c_Roll_is_known n_len n_range n_min
end T
open PySem PySem.W PyProof.Rows
set_option maxHeartbeats 0 in
theorem PySem.Challenge.cw_lettersonce_k21_whole_rolls_one_of_the_o_holds : PySem.Challenge.rw_lettersonce_k21_whole_rolls_one_of_the_o.Holds := by
  w_on; o_law; k_head; (case hw => w_witness2)
  k_fill
  refine L2.walk_of (l := PySem.Challenge.rw_lettersonce_k21_whole_rolls_one_of_the_o) (n := 63) (k := 7) (x := "script") (CX := fun _ => C8.CX0) (sp := fun w => T.spLaw _) rfl (by decide) rfl ⟨rfl, by decide, by decide⟩ (fun w h Y => PySem.W.kIn_of Y) ?F (fun _ _ a ns hl _ hS => ⟨a, ns, rfl, hS, hl, fun _ => rfl⟩) (fun _ _ _ _ _ h => h)
  case F =>
    intro w mg fa h KX G hmg
    refine' T.all_mk KX G hmg ?aC_Roll ?pg_Roll ?hd_Roll ?po_Roll ?sa_Roll ?mk_Roll ?kc_Roll ?nf_Roll_founder ?nf_Roll_keeper ?nf_Roll_came ?nf_Roll_limits ?aC_Letter ?pg_Letter ?hd_Letter ?po_Letter ?sa_Letter ?mk_Letter ?kc_Letter ?nf_Letter_author ?nf_Letter_number ?nf_Letter_stamp ?nf_Letter_seen ?nf_Letter_body ?nf_Letter_counts ?a0 ?l0 ?c0 ?k0 ?a1 ?i1 ?l1 ?c1 ?k1 ?a2 ?i2 ?l2 ?c2 ?k2 ?a3 ?i3 ?l3 ?c3 ?k3 ?a4 ?i4 ?l4 ?c4 ?k4 ?a5 ?l5 ?c5 ?k5 ?a6 ?i6 ?l6 ?c6 ?k6 ?a7 ?g7 ?t7_ ?r7 ?l7 ?c7 ?a8 ?i8 ?l8 ?c8 ?k8 ?a9 ?l9 ?c9 ?k9 ?a10 ?l10 ?c10 ?k10 ?a11 ?l11 ?c11 ?k11 ?a12 ?l12 ?c12 ?k12 ?a13 ?i13 ?l13 ?c13 ?k13 ?a14 ?i14 ?l14 ?c14 ?k14 ?a15 ?l15 ?c15 ?k15 ?a16 ?l16 ?c16 ?k16 ?a17 ?l17 ?c17 ?k17 ?a18 ?l18 ?c18 ?k18 ?a19 ?l19 ?c19 ?k19 ?a20 ?l20 ?c20 ?k20 ?a21 ?l21 ?c21 ?k21 ?a22 ?l22 ?c22 ?k22 ?a23 ?l23 ?c23 ?k23 ?a24 ?l24 ?c24 ?k24 ?a25 ?l25 ?c25 ?k25 ?a26 ?l26 ?c26 ?k26 ?a27 ?l27 ?c27 ?k27 ?a28 ?l28 ?c28 ?k28 ?a29 ?l29 ?c29 ?k29 ?z0 ?z1 ?z2 ?z3 ?z4 ?z5 ?z6 ?z7 ?z8 ?z9 ?z10
    (case aC_Roll => k_is); (case pg_Roll => k_is); (case hd_Roll => k_is); (case po_Roll => k_is); (case sa_Roll => k_is); (case mk_Roll => k_is); (case kc_Roll => k_is); (case nf_Roll_founder => k_is); (case nf_Roll_keeper => k_is); (case nf_Roll_came => k_is); (case nf_Roll_limits => k_is); (case aC_Letter => k_is); (case pg_Letter => k_is); (case hd_Letter => k_is); (case po_Letter => k_is); (case sa_Letter => k_is); (case mk_Letter => k_is); (case kc_Letter => k_is); (case nf_Letter_author => k_is); (case nf_Letter_number => k_is); (case nf_Letter_stamp => k_is); (case nf_Letter_seen => k_is); (case nf_Letter_body => k_is); (case nf_Letter_counts => k_is); (case a0 => k_is); (case l0 => k_is); (case c0 => k_is); (case k0 => k_is); (case a1 => k_is); (case i1 => k_is); (case l1 => k_is); (case c1 => k_is); (case k1 => k_is); (case a2 => k_is); (case i2 => k_is); (case l2 => k_is); (case c2 => k_is); (case k2 => k_is); (case a3 => k_is); (case i3 => k_is); (case l3 => k_is); (case c3 => k_is); (case k3 => k_is); (case a4 => k_is); (case i4 => k_is); (case l4 => k_is); (case c4 => k_is); (case k4 => k_is); (case a5 => k_is); (case l5 => k_is); (case c5 => k_is); (case k5 => k_is); (case a6 => k_is); (case i6 => k_is); (case l6 => k_is); (case c6 => k_is); (case k6 => k_is); (case a7 => k_is); (case g7 => k_is); (case t7_ => k_is); (case r7 => k_is); (case l7 => k_is); (case c7 => k_is); (case a8 => k_is); (case i8 => k_is); (case l8 => k_is); (case c8 => k_is); (case k8 => k_is); (case a9 => k_is); (case l9 => k_is); (case c9 => k_is); (case k9 => k_is); (case a10 => k_is); (case l10 => k_is); (case c10 => k_is); (case k10 => k_is); (case a11 => k_is); (case l11 => k_is); (case c11 => k_is); (case k11 => k_is); (case a12 => k_is); (case l12 => k_is); (case c12 => k_is); (case k12 => k_is); (case a13 => k_is); (case i13 => k_is); (case l13 => k_is); (case c13 => k_is); (case k13 => k_is); (case a14 => k_is); (case i14 => k_is); (case l14 => k_is); (case c14 => k_is); (case k14 => k_is); (case a15 => k_is); (case l15 => k_is); (case c15 => k_is); (case k15 => k_is); (case a16 => k_is); (case l16 => k_is); (case c16 => k_is); (case k16 => k_is); (case a17 => k_is); (case l17 => k_is); (case c17 => k_is); (case k17 => k_is); (case a18 => k_is); (case l18 => k_is); (case c18 => k_is); (case k18 => k_is); (case a19 => k_is); (case l19 => k_is); (case c19 => k_is); (case k19 => k_is); (case a20 => k_is); (case l20 => k_is); (case c20 => k_is); (case k20 => k_is); (case a21 => k_is); (case l21 => k_is); (case c21 => k_is); (case k21 => k_is); (case a22 => k_is); (case l22 => k_is); (case c22 => k_is); (case k22 => k_is); (case a23 => k_is); (case l23 => k_is); (case c23 => k_is); (case k23 => k_is); (case a24 => k_is); (case l24 => k_is); (case c24 => k_is); (case k24 => k_is); (case a25 => k_is); (case l25 => k_is); (case c25 => k_is); (case k25 => k_is); (case a26 => k_is); (case l26 => k_is); (case c26 => k_is); (case k26 => k_is); (case a27 => k_is); (case l27 => k_is); (case c27 => k_is); (case k27 => k_is); (case a28 => k_is); (case l28 => k_is); (case c28 => k_is); (case k28 => k_is); (case a29 => k_is); (case l29 => k_is); (case c29 => k_is); (case k29 => k_is); (case z0 => k_is); (case z1 => k_is); (case z2 => k_is); (case z3 => k_is); (case z4 => k_is); (case z5 => k_is); (case z6 => k_is); (case z7 => k_is); (case z8 => k_is); (case z9 => k_is); (case z10 => k_is)
