import PyProof.Rows.All
import Wide.All
import OpenK.AllK
import Wide.FinOn
import HandS.ForMost
import HandS.IsInst
import HandS.More
import PyProof.TypeEq
import PyProof.InstEq
import HandS.Codes
import HandS.TupLe
import HandS.Walk
import HandS.StrMore
import PyProof.StrBlock2
import HandS.Property
import HandS.DictComp
import PySem.Challenge.RW_lettersonce_k09_fold
set_option Elab.async false
set_option linter.all false
set_option maxRecDepth 100000
set_option maxHeartbeats 4000000
namespace TyNe
open PySem PySem.Spec PyProof.Rows L2 PySem.TypeEq Builtin

theorem slot_type_ne : Slot "type" (cmpInfo .NotEq).2.1 "object.__ne__" :=
  .of (owner := "object") (n := "__ne__") (by rw [typeLookup_type, builtinLookup_eq_fast]; kernel_rfl) (by decide +kernel) (by decide +kernel) (by decide +kernel)
    (by first | exact .inl (by decide +kernel) | exact .inr (by decide +kernel)) (by rw [isSubtype_type]; kernel_rfl)
theorem slot_type_ne_refl : Slot "type" (cmpInfo .NotEq).2.2 "object.__ne__" :=
  .of (owner := "object") (n := "__ne__") (by rw [typeLookup_type, builtinLookup_eq_fast]; kernel_rfl) (by decide +kernel) (by decide +kernel) (by decide +kernel)
    (by first | exact .inl (by decide +kernel) | exact .inr (by decide +kernel)) (by rw [isSubtype_type]; kernel_rfl)
theorem slot_type_eq' : Slot "type" "__eq__" "object.__eq__" := slot_type_eq
section
variable {prog : Program} {w : World} {A : Around} {E : Value → Shared → Prop} {s : Shared}
theorem ne_entry_same {X : String} (hX : ∀ s' : Shared, s'.TypeIs (.type X) "type") {Q : Fin → Shared → Prop} (h : Q (.done (.ret (.bool false))) s) :
    wpAny (model prog w) A (Builtin.«object.__ne__» ⟨[.type X, .type X], []⟩) Q E s := by
  unfold Builtin.«object.__ne__»
  repeat (first
    | with_reducible refine wpAny_cRoomFor_or (.inl rfl) ?_
    | (refine wpAny_bind (m := callSpecialIfBound? (.type X) (Str.ofString "__eq__") [.type X]) (wpAny_callSpecialIfBound?_slot (hX s) slot_type_eq'
        (call_gives slot_type_eq' (hX s) F.entry_object_eq (F.args_object_eq_2 _ _) (object_eq_same rfl (by simp)) ?_)))
    | wp_step)
  show wpAny _ A _ Q E s
  repeat (first | exact h | exact wpAny_pure h | (refine wpAny_bind (m := truthy (.bool _)) (wpAny_truthy_bool ?_)) | wp_step)
theorem ne_entry_other {X Y : String} (hX : ∀ s' : Shared, s'.TypeIs (.type X) "type") (hne : (Value.type X == Value.type Y) = false) {Q : Fin → Shared → Prop} (h : Q (.done (.ret .notImplemented)) s) :
    wpAny (model prog w) A (Builtin.«object.__ne__» ⟨[.type X, .type Y], []⟩) Q E s := by
  unfold Builtin.«object.__ne__»
  repeat (first
    | with_reducible refine wpAny_cRoomFor_or (.inl rfl) ?_
    | (refine wpAny_bind (m := callSpecialIfBound? (.type X) (Str.ofString "__eq__") [.type Y]) (wpAny_callSpecialIfBound?_slot (hX s) slot_type_eq'
        (call_gives slot_type_eq' (hX s) F.entry_object_eq (F.args_object_eq_2 _ _) (object_eq_other rfl hne) ?_)))
    | wp_step)
  show wpAny _ A _ Q E s
  repeat (first | exact h | exact wpAny_pure h | wp_step)
theorem call_ne_same {X : String} (hX : ∀ s' : Shared, s'.TypeIs (.type X) "type") {Q : Value → Shared → Prop} (h : Q (.bool false) s) :
    wpAny (model prog w) A (call (.builtin "object.__ne__") [.type X, .type X]) Q E s :=
  wpAny_call_entry slot_type_ne (hX s) F.cmpEntry_ne (ne_entry_same hX ⟨_, rfl, h⟩) (F.cmpArgs_ne _ _)
theorem call_ne_other {X Y : String} (hX : ∀ s' : Shared, s'.TypeIs (.type X) "type") (hne : (Value.type X == Value.type Y) = false) {Q : Value → Shared → Prop} (h : Q .notImplemented s) :
    wpAny (model prog w) A (call (.builtin "object.__ne__") [.type X, .type Y]) Q E s :=
  wpAny_call_entry slot_type_ne (hX s) F.cmpEntry_ne (ne_entry_other hX hne ⟨_, rfl, h⟩) (F.cmpArgs_ne _ _)
theorem ne_type_same {Q : Value → Shared → Prop} {X : String} (hX : ∀ s' : Shared, s'.TypeIs (.type X) "type") (h : Q (.bool false) s) : wpAny (model prog w) A (compareOp .NotEq (.type X) (.type X)) Q E s := by
  show wpAny _ A (richCompare .NotEq _ _) Q E s
  exact wpAny_richCompare_same (T := "type") (hX s) (hX s) slot_type_ne (call_ne_same hX ⟨(by intro e; cases e), h⟩)
theorem rich_ne_decline {M : Model} {a b : Value} {T id : String} {k : Bool} {Q : Value → Shared → Prop} (ha : ∀ s' : Shared, s'.TypeIs a T) (hb : ∀ s' : Shared, s'.TypeIs b T)
    (h1 : Slot T (cmpInfo .NotEq).2.1 id) (h2 : Slot T (cmpInfo .NotEq).2.2 id) (hv : [a, b].any Value.onHeap = false) (hk : isSame a b = pure k)
    (hc : wpAny M A (call (.builtin id) [a, b]) (fun v s₁ => v = .notImplemented ∧ wpAny M A (call (.builtin id) [b, a]) (fun v s₂ => v = .notImplemented ∧ Q (.bool (!k)) s₂) E s₁) E s) :
    wpAny M A (richCompare .NotEq a b) Q E s := by
  rcases hi : cmpInfo CmpOp.NotEq with ⟨sym, f, r⟩
  rw [hi] at h1 h2
  simp only [richCompare, hi, (ha s).oneThing_none]
  try with_reducible refine wpAny_holding ?_
  refine wpAny_bind (wpAny_cRoomFor_or (.inl hv) ?_)
  refine wpAny_bind (wpAny_typeOf (ha s) (wpAny_bind (wpAny_typeOf (hb s) ?_)))
  simp only [bne_self_eq_false, Bool.false_eq_true, if_false, pure_bind, Bool.not_false, if_true]
  refine wpAny_bind (m := tryCompare a _ b) (wpAny_tryCompare_declines (ha s) h1 (wpAny_mono hc (fun v s₁ h₁ => ⟨h₁.1, ?_⟩) fun _ _ x => x))
  refine wpAny_bind (m := tryCompare b _ a) (wpAny_tryCompare_declines (hb s₁) h2 (wpAny_mono h₁.2 (fun v s₂ h₂ => ⟨h₂.1, ?_⟩) fun _ _ x => x))
  refine wpAny_bind (wpAny_rule (wpAny_bind (wpAny_of_eq hk (wpAny_pure h₂.2))))
theorem ne_type_other {Q : Value → Shared → Prop} {X Y : String} (hX : ∀ s' : Shared, s'.TypeIs (.type X) "type") (hY : ∀ s' : Shared, s'.TypeIs (.type Y) "type") (hne : (Value.type X == Value.type Y) = false) (h : Q (.bool true) s) : wpAny (model prog w) A (compareOp .NotEq (.type X) (.type Y)) Q E s := by
  have hne' : (Value.type Y == Value.type X) = false := by
    rw [Bool.eq_false_iff] at hne ⊢
    intro e
    exact hne (by rw [beq_iff_eq] at e ⊢; exact e.symm)
  show wpAny _ A (richCompare .NotEq _ _) Q E s
  exact rich_ne_decline (T := "type") (k := false) hX hY slot_type_ne slot_type_ne_refl rfl (by rw [isSame_plain rfl, hne])
    (call_ne_other hX hne ⟨rfl, call_ne_other hY hne' ⟨rfl, h⟩⟩)
end
/-- the types whose own type is plainly `type` -/
def Ty9 (a : String) : Prop := ∀ s' : Shared, s'.TypeIs (.type a) "type"
section
variable {X : Cx}
def rEqTy : R2 := fun x y H Q => ∃ a b, x = .ty a ∧ y = .ty b ∧ Ty9 a ∧ Ty9 b ∧ Q (.bl (decide (a = b))) H
def rNeTy : R2 := fun x y H Q => ∃ a b, x = .ty a ∧ y = .ty b ∧ Ty9 a ∧ Ty9 b ∧ Q (.bl (!decide (a = b))) H
theorem op_eqTy : OpR X (compareOp .Eq) rEqTy := by
  intro pins s σ H x y v u Q I rx ry h
  obtain ⟨a, b, rfl, rfl, ta, tb, q⟩ := h
  cases (show v = Value.type a from rx)
  cases (show u = Value.type b from ry)
  by_cases e : a = b
  · subst e
    exact eq_type_same ta (fin_bl I q (by simp))
  · exact eq_type_other ta tb (by rw [ty_beq]; exact decide_eq_false e) (fin_bl I q (by simp [e]))
theorem op_neTy : OpR X (compareOp .NotEq) rNeTy := by
  intro pins s σ H x y v u Q I rx ry h
  obtain ⟨a, b, rfl, rfl, ta, tb, q⟩ := h
  cases (show v = Value.type a from rx)
  cases (show u = Value.type b from ry)
  by_cases e : a = b
  · subst e
    exact ne_type_same ta (fin_bl I q (by simp))
  · exact ne_type_other ta tb (by rw [ty_beq]; exact decide_eq_false e) (fin_bl I q (by simp [e]))
end
end TyNe

namespace Wp
open PySem PySem.Spec PyProof.Rows L2 TyNe

/-! ### the rules' readings under short names -/
abbrev qAdd : R2 := rI0 fun i j => .int (i + j)
abbrev qSub : R2 := rI0 fun i j => .int (i - j)
abbrev qMul : R2 := rI CMul fun i j => .int (i * j)
abbrev qFdiv : R2 := rI CDiv fun i j => .int (i / j)
abbrev qMod : R2 := rI (fun _ j => 0 < j) fun i j => .int (i % j)
abbrev qPow : R2 := rI CPow fun i j => .int (i ^ j.toNat)
abbrev qNeg : V → Hp → VK → Prop := rU fun i => .int (-i)
abbrev qLt : R2 := rI0 fun i j => .bl (decide (i < j))
abbrev qLe : R2 := rI0 fun i j => .bl (decide (i ≤ j))
abbrev qGt : R2 := rI0 fun i j => .bl (decide (j < i))
abbrev qGe : R2 := rI0 fun i j => .bl (decide (j ≤ i))
abbrev qAddS : R2 := fun x y H Q => ∃ i j, x = .str i ∧ y = .str j ∧ i.length + j.length ≤ sizeLine ∧ Q (.str (i ++ j)) H
abbrev qInSign : R2 := fun x y H Q => ∃ (c : Nat) (z : Str), x = .str ⟨#[c]⟩ ∧ y = .str z ∧ Q (.bl (decide (c ∈ z.cps.toList))) H
abbrev qNinSign : R2 := fun x y H Q => ∃ (c : Nat) (z : Str), x = .str ⟨#[c]⟩ ∧ y = .str z ∧ Q (.bl (!decide (c ∈ z.cps.toList))) H
abbrev qLtS : R2 := fun x y H Q => ∃ i j, x = .str i ∧ y = .str j ∧ Q (.bl (decide (i.cps.toList < j.cps.toList))) H
abbrev qLeS : R2 := fun x y H Q => ∃ i j, x = .str i ∧ y = .str j ∧ Q (.bl (!decide (j.cps.toList < i.cps.toList))) H
abbrev qGtS : R2 := fun x y H Q => ∃ i j, x = .str i ∧ y = .str j ∧ Q (.bl (decide (j.cps.toList < i.cps.toList))) H
abbrev qGeS : R2 := fun x y H Q => ∃ i j, x = .str i ∧ y = .str j ∧ Q (.bl (!decide (i.cps.toList < j.cps.toList))) H
abbrev qIsBl : R2 := fun x y H Q => ∃ a b, x = .bl a ∧ y = .bl b ∧ Q (.bl (decide (a = b))) H
abbrev qLenStr : List V → Hp → VK → Prop := fun xs H Q => ∃ z, xs = [.str z] ∧ z.length ≤ sizeLine ∧ Q (.int z.length) H
abbrev qLenSeq (K : PySem.W.Frag) : List V → Hp → VK → Prop := fun xs H Q => ∃ p ys, xs = [.ref p] ∧ (SqL K H p ys ∨ SqT K H p ys) ∧ Q (.int ys.length) H
abbrev qInt1 : List V → Hp → VK → Prop := fun xs H Q => (∃ i, xs = [.int i] ∧ Q (.int i) H) ∨ ∃ k, xs = [.bl k] ∧ Q (.int (if k then 1 else 0)) H
abbrev qStrInt : List V → Hp → VK → Prop := fun xs H Q => ∃ i : Int, xs = [.int i] ∧ i.natAbs.log2 < 1920 ∧ Q (.str (toString i)) H
abbrev qTupleOf (K : PySem.W.Frag) : List V → Hp → VK → Prop := fun xs H Q => ∃ p ys, xs = [.ref p] ∧ ((SqL K H p ys ∧ ∀ l, H l = none → Q (.ref l) (upd H l (.tup ys))) ∨ (SqT K H p ys ∧ Q (.ref p) H))
abbrev qListOf (K : PySem.W.Frag) : List V → Hp → VK → Prop := fun xs H Q => ∃ p ys, xs = [.ref p] ∧ (SqL K H p ys ∨ SqT K H p ys) ∧ ∀ l, H l = none → Q (.ref l) (upd H l (.lst ys))
abbrev qIsN : R2 := fun x y H Q => y = .non ∧ Q (.bl (decide (x = .non))) H
abbrev qNotN : R2 := fun x y H Q => y = .non ∧ Q (.bl (!decide (x = .non))) H
abbrev qMax2 : List V → Hp → VK → Prop := fun xs H Q => ∃ i j, xs = [.int i, .int j] ∧ Q (.int (if j > i then j else i)) H
abbrev qMin2 : List V → Hp → VK → Prop := fun xs H Q => ∃ i j, xs = [.int i, .int j] ∧ Q (.int (if j < i then j else i)) H

/-! ### heaps -/
/-- what was tracked stands as it stood, but p -/
def Kp (p : Addr) (H H' : Hp) : Prop := ∀ b o, b ≠ p → H b = some o → H' b = some o
theorem Same.kp {p : Addr} {H H' : Hp} (h : Same H H') : Kp p H H' := fun b o _ e => h b o e
theorem Kp.refl {p : Addr} {H : Hp} : Kp p H H := fun _ _ _ e => e
theorem Kp.trans {p : Addr} {H H1 H2 : Hp} (a : Kp p H H1) (b : Kp p H1 H2) : Kp p H H2 := fun c o n e => b c o n (a c o n e)
theorem Kp.get {p : Addr} {H H' : Hp} (h : Kp p H H') {b : Addr} {o : HO} (n : b ≠ p) (e : H b = some o) : H' b = some o := h b o n e
theorem Kp.updp {p : Addr} {H H' : Hp} {o : HO} (h : Kp p H H') : Kp p H (upd H' p o) := fun b u n e => by
  rw [upd_ne n]
  exact h b u n e
theorem Kp.upd {p a : Addr} {H H' : Hp} {o : HO} (h : Kp p H H') (n : H a = none) : Kp p H (upd H' a o) := fun b u m e => by
  rw [upd_ne (ne_of_none e n)]
  exact h b u m e
theorem Same.upd {a : Addr} {H H' : Hp} {o : HO} (h : Same H H') (n : H a = none) : Same H (L2.upd H' a o) := fun b u e => by
  rw [upd_ne (ne_of_none e n)]
  exact h b u e
theorem Kp.same {p : Addr} {H H' : Hp} (h : Kp p H H') (n : H p = none) : Same H H' := fun b o e => h b o (ne_of_none e n) e
theorem Kp.free {p a : Addr} {H H' : Hp} (h : Kp p H H') (n : a ≠ p) (e : H' a = none) : H a = none := by
  cases q : H a with
  | none => rfl
  | some o => rw [h a o n q] at e; cases e
/-- a stream -/
def Stm (H : Hp) (p : Addr) : Prop := ∃ a b : Int, H p = some (.lst [.int a, .int b]) ∧ 0 ≤ a ∧ 0 ≤ b
theorem Stm.ne {H : Hp} {p a : Addr} (h : Stm H p) (e : H a = none) : a ≠ p := by
  obtain ⟨x, y, h, _⟩ := h
  exact (ne_of_none h e).symm
theorem Stm.same {H H' : Hp} {p : Addr} (h : Stm H p) (s : Same H H') : Stm H' p := by
  obtain ⟨x, y, h, r⟩ := h
  exact ⟨x, y, s _ _ h, r⟩
theorem Stm.up {H : Hp} {p a : Addr} {o : HO} (h : Stm H p) (e : H a = none) : Stm (L2.upd H a o) p := by
  obtain ⟨x, y, h, r⟩ := h
  exact ⟨x, y, by rw [upd_ne (ne_of_none h e)]; exact h, r⟩

/-! ### steps, in the order of the reading -/
section
variable {K : PySem.W.Frag} {σ : L2.St} {H : Hp} {Q : VK} {v : V} {ta tb tc te : TE} {tt uu : TT} {r r' : R2} {D : Ends} {t u : TS}
theorem w_var {i : Nat} (h : σ[i]? = some (some v)) (q : Q v H) : tVar i σ H Q := ⟨v, h, q⟩
theorem w_c (q : Q v H) : tC v σ H Q := q
theorem w_op (q : ta σ H fun x H1 => tb σ H1 fun y H2 => r x y H2 Q) : tOp r ta tb σ H Q := q
theorem w_un {r : V → Hp → VK → Prop} (q : ta σ H fun x H1 => r x H1 Q) : tUn r ta σ H Q := q
theorem w_I0 {g : Int → Int → V} {i j : Int} (q : Q (g i j) H) : rI0 g (.int i) (.int j) H Q := ⟨i, j, rfl, rfl, q⟩
theorem w_I {C : Int → Int → Prop} {g : Int → Int → V} {i j : Int} (c : C i j) (q : Q (g i j) H) : rI C g (.int i) (.int j) H Q := ⟨i, j, rfl, rfl, c, q⟩
theorem w_U {g : Int → V} {i : Int} (q : Q (g i) H) : rU g (.int i) H Q := ⟨i, rfl, q⟩
theorem w_eqI {i j : Int} (q : Q (.bl (decide (i = j))) H) : rEq (.int i) (.int j) H Q := ⟨rfl, by
  have e : decide (V.int i = V.int j) = decide (i = j) := by rw [decide_eq_decide]; exact ⟨fun z => V.int.inj z, fun z => by rw [z]⟩
  rw [e]; exact q⟩
theorem w_neI {i j : Int} (q : Q (.bl (decide (i ≠ j))) H) : rNe (.int i) (.int j) H Q := ⟨rfl, by
  have e : (!decide (V.int i = V.int j)) = decide (i ≠ j) := by rw [decide_not]; congr 1; rw [decide_eq_decide]; exact ⟨fun z => V.int.inj z, fun z => by rw [z]⟩
  rw [e]; exact q⟩
theorem w_eqS {i j : Str} (q : Q (.bl (decide (i = j))) H) : rEq (.str i) (.str j) H Q := ⟨rfl, by
  have e : decide (V.str i = V.str j) = decide (i = j) := by rw [decide_eq_decide]; exact ⟨fun z => V.str.inj z, fun z => by rw [z]⟩
  rw [e]; exact q⟩
theorem w_neS {i j : Str} (q : Q (.bl (decide (i ≠ j))) H) : rNe (.str i) (.str j) H Q := ⟨rfl, by
  have e : (!decide (V.str i = V.str j)) = decide (i ≠ j) := by rw [decide_not]; congr 1; rw [decide_eq_decide]; exact ⟨fun z => V.str.inj z, fun z => by rw [z]⟩
  rw [e]; exact q⟩
theorem w_eqB {i j : Bool} (q : Q (.bl (decide (i = j))) H) : rEq (.bl i) (.bl j) H Q := ⟨rfl, by
  have e : decide (V.bl i = V.bl j) = decide (i = j) := by rw [decide_eq_decide]; exact ⟨fun z => V.bl.inj z, fun z => by rw [z]⟩
  rw [e]; exact q⟩
theorem w_eqTy {a b : String} (ha : Ty9 a) (hb : Ty9 b) (q : Q (.bl (decide (a = b))) H) : rEqTy (.ty a) (.ty b) H Q := ⟨a, b, rfl, rfl, ha, hb, q⟩
theorem w_neTy {a b : String} (ha : Ty9 a) (hb : Ty9 b) (q : Q (.bl (decide (a ≠ b))) H) : rNeTy (.ty a) (.ty b) H Q := ⟨a, b, rfl, rfl, ha, hb, by rw [← decide_not]; exact q⟩
theorem w_addS {i j : Str} (h : i.length + j.length ≤ sizeLine) (q : Q (.str (i ++ j)) H) : qAddS (.str i) (.str j) H Q := ⟨i, j, rfl, rfl, h, q⟩
theorem w_inSign {c : Nat} {z : Str} (q : Q (.bl (decide (c ∈ z.cps.toList))) H) : qInSign (.str ⟨#[c]⟩) (.str z) H Q := ⟨c, z, rfl, rfl, q⟩
theorem w_ninSign {c : Nat} {z : Str} (q : Q (.bl (!decide (c ∈ z.cps.toList))) H) : qNinSign (.str ⟨#[c]⟩) (.str z) H Q := ⟨c, z, rfl, rfl, q⟩
theorem w_ixL {p : Addr} {xs : List V} {i : Int} (h : SqL K H p xs) (ha : atI xs i = some v) (q : Q v H) : rIxL K (.ref p) (.int i) H Q := ⟨p, xs, i, v, rfl, rfl, h, ha, q⟩
theorem w_ixT {p : Addr} {xs : List V} {i : Int} (h : SqT K H p xs) (ha : atI xs i = some v) (q : Q v H) : rIxT K (.ref p) (.int i) H Q := ⟨p, xs, i, v, rfl, rfl, h, ha, q⟩
theorem w_ixS {z : Str} {i : Int} {c : Nat} (h : z.length ≤ sizeLine) (ha : atI z.cps.toList i = some c) (q : Q (.str ⟨#[c]⟩) H) : rIxS (.str z) (.int i) H Q := ⟨z, i, c, rfl, rfl, h, ha, q⟩
theorem w_nil {R : List V → Hp → Prop} (q : R [] H) : tNil σ H R := q
theorem w_cons {tr : TA} {R : List V → Hp → Prop} (q : ta σ H fun x H1 => tr σ H1 fun xs H2 => R (x :: xs) H2) : tCons ta tr σ H R := q
theorem w_tup {tr : TA} (q : tr σ H fun xs H1 => xs.length ≤ sizeLine ∧ ∀ p, H1 p = none → Q (.ref p) (upd H1 p (.tup xs))) : tTup tr σ H Q := q
theorem w_lst {tr : TA} (q : tr σ H fun xs H1 => xs.length ≤ sizeLine ∧ ∀ p, H1 p = none → Q (.ref p) (upd H1 p (.lst xs))) : tLst tr σ H Q := q
theorem w_cb {r : List V → Hp → VK → Prop} {tr : TA} (q : tr σ H fun vs H1 => r vs H1 Q) : tCB r tr σ H Q := q
theorem w_lenStr {z : Str} (h : z.length ≤ sizeLine) (q : Q (.int z.length) H) : qLenStr [.str z] H Q := ⟨z, rfl, h, q⟩
theorem w_lenL {p : Addr} {xs : List V} (h : SqL K H p xs) (q : Q (.int xs.length) H) : qLenSeq K [.ref p] H Q := ⟨p, xs, rfl, .inl h, q⟩
theorem w_lenT {p : Addr} {xs : List V} (h : SqT K H p xs) (q : Q (.int xs.length) H) : qLenSeq K [.ref p] H Q := ⟨p, xs, rfl, .inr h, q⟩
theorem w_int1 {i : Int} (q : Q (.int i) H) : qInt1 [.int i] H Q := .inl ⟨i, rfl, q⟩
theorem w_int1b {c : Prop} [Decidable c] (q : Q (.int (if c then 1 else 0)) H) : qInt1 [.bl (decide c)] H Q := .inr ⟨_, rfl, by
  by_cases h : c
  · simp only [h, decide_true, if_true] at q ⊢; exact q
  · simp only [h, decide_false, if_false, Bool.false_eq_true] at q ⊢; exact q⟩
theorem w_strInt {i : Int} (h0 : 0 ≤ i) (h1 : i ≤ 100000000000000000000) (q : Q (.str (toString i)) H) : qStrInt [.int i] H Q := ⟨i, rfl, by
  have h2 : i.natAbs ≤ 100000000000000000000 := by omega
  have h3 : i.natAbs.log2 < 67 := by
    by_cases h : i.natAbs = 0
    · rw [h]; decide
    · exact (Nat.log2_lt h).mpr (Nat.lt_of_le_of_lt h2 (by decide))
  omega, q⟩
theorem w_tupleOfL {p : Addr} {ys : List V} (h : SqL K H p ys) (q : ∀ l, H l = none → Q (.ref l) (upd H l (.tup ys))) : qTupleOf K [.ref p] H Q := ⟨p, ys, rfl, .inl ⟨h, q⟩⟩
theorem w_tupleOfT {p : Addr} {ys : List V} (h : SqT K H p ys) (q : Q (.ref p) H) : qTupleOf K [.ref p] H Q := ⟨p, ys, rfl, .inr ⟨h, q⟩⟩
theorem w_listOf {p : Addr} {ys : List V} (h : SqL K H p ys ∨ SqT K H p ys) (q : ∀ l, H l = none → Q (.ref l) (upd H l (.lst ys))) : qListOf K [.ref p] H Q := ⟨p, ys, rfl, h, q⟩
theorem w_isN (q : Q (.bl (decide (v = .non))) H) : qIsN v .non H Q := ⟨rfl, q⟩
theorem w_notN (q : Q (.bl (!decide (v = .non))) H) : qNotN v .non H Q := ⟨rfl, q⟩
theorem w_bm {T : String} {r : V → List V → Hp → VK → Prop} {tr : TA} (q : te σ H fun x H1 => tyV K T x H1 ∧ tr σ H1 fun xs H2 => r x xs H2 Q) : tBM K T r te tr σ H Q := q
theorem w_tyL {p : Addr} {xs : List V} {A : Prop} (h : H p = some (.lst xs)) (q : A) : tyV K "list" (.ref p) H ∧ A := ⟨.inl ⟨rfl, xs, SqL.of h⟩, q⟩
theorem w_app {p : Addr} {xs : List V} (h : H p = some (.lst xs)) (z : xs.length < sizeLine) (q : Q .non (upd H p (.lst (xs ++ [v])))) : rAppend (.ref p) [v] H Q := ⟨p, xs, v, rfl, rfl, h, z, q⟩
theorem w_inL {neg : Bool} {p : Addr} {xs : List V} (h : SqL K H p xs) (f : flatV v = true) (fs : xs.all flatV = true) (q : Q (.bl (if neg then !inV v xs else inV v xs)) H) : rIn K neg v (.ref p) H Q := ⟨p, xs, rfl, .inl h, f, fs, q⟩
theorem w_inT {neg : Bool} {p : Addr} {xs : List V} (h : SqT K H p xs) (f : flatV v = true) (fs : xs.all flatV = true) (q : Q (.bl (if neg then !inV v xs else inV v xs)) H) : rIn K neg v (.ref p) H Q := ⟨p, xs, rfl, .inr h, f, fs, q⟩
theorem inV_strs (z : Str) (ys : List Str) : inV (.str z) (ys.map V.str) = decide (z ∈ ys) := by
  unfold inV
  rw [List.any_map, Bool.eq_iff_iff, List.any_eq_true, decide_eq_true_eq]
  constructor
  · rintro ⟨y, hy, e⟩
    have e' : (y == z) = true := e
    rw [beq_iff_eq] at e'
    exact e' ▸ hy
  · intro h
    refine ⟨z, h, ?_⟩
    show (z == z) = true
    exact beq_self_eq_true z
theorem flat_strs (ys : List Str) : (ys.map V.str).all flatV = true := by
  rw [List.all_map, List.all_eq_true]
  intro y _
  rfl
theorem w_max2 {i j : Int} (q : Q (.int (if j > i then j else i)) H) : qMax2 [.int i, .int j] H Q := ⟨i, j, rfl, q⟩
theorem w_min2 {i j : Int} (q : Q (.int (if j < i then j else i)) H) : qMin2 [.int i, .int j] H Q := ⟨i, j, rfl, q⟩
theorem w_test {R : Bool → Hp → Prop} (q : te σ H fun x H' => ∃ k, x = .bl k ∧ R k H') : tTest te σ H R := q
theorem w_B {R : Bool → Hp → Prop} (q : te σ H fun x H' => ∃ k, x = .bl k ∧ R k H') : tB te σ H R := q
theorem w_exb {b : Bool} {R : Bool → Prop} (q : R b) : ∃ k, V.bl b = .bl k ∧ R k := ⟨b, rfl, q⟩
theorem w_and {R : Bool → Hp → Prop} (q : tt σ H fun c H1 => if c = true then uu σ H1 R else R false H1) : tAnd tt uu σ H R := q
theorem w_or {R : Bool → Hp → Prop} (q : tt σ H fun c H1 => if c = true then R true H1 else uu σ H1 R) : tOr tt uu σ H R := q
theorem w_not {R : Bool → Hp → Prop} (q : tt σ H fun c H1 => R (!c) H1) : tNot tt σ H R := q
theorem w_andV (q : ta σ H fun x H1 => ∃ c, x = .bl c ∧ if c = true then tb σ H1 Q else Q (.bl false) H1) : tAndV ta tb σ H Q := q
theorem w_orV (q : ta σ H fun x H1 => ∃ c, x = .bl c ∧ if c = true then Q (.bl true) H1 else tb σ H1 Q) : tOrV ta tb σ H Q := q
theorem w_notV (q : ta σ H fun x H1 => ∃ c, x = .bl c ∧ Q (.bl (!c)) H1) : tNotV ta σ H Q := q
theorem w_if (q : tt σ H fun c H1 => if c = true then ta σ H1 Q else tb σ H1 Q) : tIf tt ta tb σ H Q := q
theorem w_chain (q : ta σ H fun x H1 => tb σ H1 fun y H2 => r x y H2 fun z H3 => ∃ k, z = .bl k ∧ (if k = true then tc σ H3 fun w' H4 => r' y w' H4 Q else Q (.bl false) H3)) : tChain r r' ta tb tc σ H Q := q
theorem w_ifS (q : tt σ H fun b H1 => if b = true then t D σ H1 else u D σ H1) : tIfS tt t u D σ H := q
theorem w_ifCut {Mid : L2.St → Hp → Prop} (k : ∀ σ' H', Mid σ' H' → D.nx σ' H') (q : ∀ R : L2.St → Hp → Prop, (∀ σ' H', Mid σ' H' → R σ' H') → tIfS tt t u { D with nx := R } σ H) : tIfS tt t u D σ H := q _ k
theorem cmul_l {i j : Int} (h0 : -1000000000000 ≤ i) (h1 : i ≤ 1000000000000) : CMul i j := .inl ⟨by omega, by omega⟩
theorem cmul_r {i j : Int} (h0 : -1000000000000 ≤ j) (h1 : j ≤ 1000000000000) : CMul i j := .inr ⟨by omega, by omega⟩
theorem w_ite {c A B : Prop} [Decidable c] (h1 : c → A) (h2 : ¬ c → B) : if decide c = true then A else B := by
  by_cases h : c
  · rw [if_pos (decide_eq_true h)]; exact h1 h
  · rw [if_neg (by rw [decide_eq_true_iff]; exact h)]; exact h2 h
theorem w_iteN {c A B : Prop} [Decidable c] (h1 : ¬ c → A) (h2 : c → B) : if (!decide c) = true then A else B := by
  by_cases h : c
  · rw [decide_eq_true h, if_neg (by decide)]; exact h2 h
  · rw [decide_eq_false h]; exact h1 h
theorem w_iteb {b : Bool} {A B : Prop} (h1 : b = true → A) (h2 : b = false → B) : if b = true then A else B := by
  cases b
  · rw [if_neg (by decide)]; exact h2 rfl
  · rw [if_pos rfl]; exact h1 rfl
theorem w_seq (q : t { D with nx := u D } σ H) : tSeq t u D σ H := q
theorem w_next (q : D.nx σ H) : tNext D σ H := q
theorem w_asg {g : TG} (q : te σ H fun x H1 => g x σ H1 D.nx) : tAsg te g D σ H := q
theorem w_name {i : Nat} {R : L2.St → Hp → Prop} (q : R (σ.set i (some v)) H) : gName i v σ H R := q
theorem w_sub {to ti : TE} {ts : TSet} {R : L2.St → Hp → Prop} (q : to σ H fun o H1 => ti σ H1 fun i H2 => ts o i v H2 fun H3 => R σ H3) : gSub to ti ts v σ H R := q
theorem w_setL {p : Addr} {xs : List V} {k : Int} {j : Nat} {R : Hp → Prop} (h : H p = some (.lst xs)) (hj : ixN xs.length k = some j) (q : R (upd H p (.lst (xs.set j v)))) : rSetL (.ref p) (.int k) v H R := ⟨p, xs, k, j, rfl, rfl, h, hj, q⟩
theorem w_ret (q : te σ H D.rt) : tRet te D σ H := q
theorem w_retN (q : D.rt .non H) : tRetN D σ H := q
theorem w_drop (q : te σ H fun _ H1 => D.nx σ H1) : tDrop te D σ H := q
theorem w_call {sp : Sp} {dvs : List V} {E : XK} {tr : TA} (q : tr σ H fun vs H1 => sp (vs ++ dvs) H1 Q E) : tCall sp dvs E tr σ H Q := q
theorem w_sl {r : V → Option Int → Option Int → Hp → VK → Prop} {tl th : TO} (q : te σ H fun x H1 => tl σ H1 fun l H2 => th σ H2 fun u H3 => r x l u H3 Q) : tSl r te tl th σ H Q := q
theorem w_noPart {R : Option Int → Hp → Prop} (q : R none H) : tNoPart σ H R := q
theorem w_part {R : Option Int → Hp → Prop} (q : te σ H fun x H1 => ∃ i, x = .int i ∧ R (some i) H1) : tPart te σ H R := q
theorem w_exi {i : Int} {R : Int → Prop} (q : R i) : ∃ k, V.int i = .int k ∧ R k := ⟨i, rfl, q⟩
theorem w_slS {z : Str} {lo hi : Option Int} (h : z.length ≤ sizeLine) (q : Q (.str (cutS z lo hi)) H) : rSlS (.str z) lo hi H Q := ⟨z, rfl, h, q⟩
theorem w_isi {x : V} {t : Value} {T : String} {b : Bool} (h : TyX K H x t) (k : PySem.W.kitOne K t (.type T) = some b) (q : Q (.bl b) H) : rIsi K [x, .ty T] H Q := ⟨x, _, t, _, b, rfl, .ty T, h, k, q⟩
theorem w_typ {x : V} {T : String} (h : TyB K H x T) (q : Q (.ty T) H) : rTyp K [x] H Q := ⟨x, T, rfl, h, q⟩
theorem w_cat {l b : Addr} {xs zs : List V} (h : H l = some (.lst xs)) (h' : H b = some (.lst zs)) (z : xs.length + zs.length ≤ sizeLine) (q : ∀ p, H p = none → Q (.ref p) (upd H p (.lst (xs ++ zs)))) : rCat (.ref l) (.ref b) H Q := ⟨l, b, xs, zs, rfl, rfl, h, h', z, q⟩
theorem w_isBl {a b : Bool} (q : Q (.bl (decide (a = b))) H) : qIsBl (.bl a) (.bl b) H Q := ⟨a, b, rfl, rfl, q⟩
theorem w_nf {A B : Prop} (q : A) : if (!false) = true then A else B := q
theorem w_nt {A B : Prop} (q : B) : if (!true) = true then A else B := q
theorem w_len0 {n : Nat} {A : Prop} (h : n ≤ sizeLine) (q : A) : n ≤ sizeLine ∧ A := ⟨h, q⟩
end
theorem sz {n : Nat} (h : n ≤ 100000) : n ≤ sizeLine := Nat.le_trans h (by decide)
theorem atI_of {α : Type} {xs : List α} {i : Int} {v : α} (h0 : 0 ≤ i) (h : xs[i.toNat]? = some v) : atI xs i = some v := by
  have e : ((i.toNat : Nat) : Int) = i := Int.toNat_of_nonneg h0
  rw [← e]
  exact atI_nat h
end Wp

namespace Wp
open PySem PySem.Spec PyProof.Rows L2 TyNe

/-! ### what is made of data -/
mutual
/-- v denotes d at H; every object on the way stands at an address that ok takes -/
inductive Dn (ok : Addr → Prop) (H : Hp) : V → PyData → Prop where
  | non : Dn ok H .non .none
  | bl (b : Bool) : Dn ok H (.bl b) (.bool b)
  | int (i : Int) : Dn ok H (.int i) (.int i)
  | str (x : Str) : Dn ok H (.str x) (.str x)
  | lst {a : Addr} {xs : List V} {ds : List PyData} (ha : ok a) (h : H a = some (.lst xs)) (hs : DnAll ok H xs ds) : Dn ok H (.ref a) (.list ds)
  | tup {a : Addr} {xs : List V} {ds : List PyData} (ha : ok a) (h : H a = some (.tup xs)) (hs : DnAll ok H xs ds) : Dn ok H (.ref a) (.tuple ds)
  | dic {a : Addr} {kvs : List (Key × V)} (ha : ok a) (h : H a = some (.dK kvs)) : Dn ok H (.ref a) (.dict [])
inductive DnAll (ok : Addr → Prop) (H : Hp) : List V → List PyData → Prop where
  | nil : DnAll ok H [] []
  | cons {v : V} {vs : List V} {d : PyData} {ds : List PyData} (h : Dn ok H v d) (hs : DnAll ok H vs ds) : DnAll ok H (v :: vs) (d :: ds)
end
mutual
theorem Dn.step {ok : Addr → Prop} {H H' : Hp} (k : ∀ a o, ok a → H a = some o → H' a = some o) {v : V} {d : PyData} : Dn ok H v d → Dn ok H' v d
  | .non => .non
  | .bl b => .bl b
  | .int i => .int i
  | .str x => .str x
  | .lst ha h hs => .lst ha (k _ _ ha h) (DnAll.step k hs)
  | .tup ha h hs => .tup ha (k _ _ ha h) (DnAll.step k hs)
  | .dic ha h => .dic ha (k _ _ ha h)
theorem DnAll.step {ok : Addr → Prop} {H H' : Hp} (k : ∀ a o, ok a → H a = some o → H' a = some o) {vs : List V} {ds : List PyData} : DnAll ok H vs ds → DnAll ok H' vs ds
  | .nil => .nil
  | .cons h hs => .cons (Dn.step k h) (DnAll.step k hs)
end
mutual
theorem Dn.weak {ok ok' : Addr → Prop} {H : Hp} (k : ∀ a o, ok a → H a = some o → ok' a) {v : V} {d : PyData} : Dn ok H v d → Dn ok' H v d
  | .non => .non
  | .bl b => .bl b
  | .int i => .int i
  | .str x => .str x
  | .lst ha h hs => .lst (k _ _ ha h) h (DnAll.weak k hs)
  | .tup ha h hs => .tup (k _ _ ha h) h (DnAll.weak k hs)
  | .dic ha h => .dic (k _ _ ha h) h
theorem DnAll.weak {ok ok' : Addr → Prop} {H : Hp} (k : ∀ a o, ok a → H a = some o → ok' a) {vs : List V} {ds : List PyData} : DnAll ok H vs ds → DnAll ok' H vs ds
  | .nil => .nil
  | .cons h hs => .cons (Dn.weak k h) (DnAll.weak k hs)
end
/-- off the address p -/
abbrev Off (p : Addr) : Addr → Prop := fun a => a ≠ p
abbrev Any : Addr → Prop := fun _ => True
theorem Dn.same {ok : Addr → Prop} {H H' : Hp} {v : V} {d : PyData} (h : Dn ok H v d) (s : Same H H') : Dn ok H' v d := h.step fun a o _ e => s a o e
theorem Dn.kp {p : Addr} {H H' : Hp} {v : V} {d : PyData} (h : Dn (Off p) H v d) (s : Kp p H H') : Dn (Off p) H' v d := h.step fun a o n e => s a o n e
theorem Dn.any {ok : Addr → Prop} {H : Hp} {v : V} {d : PyData} (h : Dn ok H v d) : Dn Any H v d := h.weak fun _ _ _ _ => trivial
theorem Dn.off {ok : Addr → Prop} {p : Addr} {H : Hp} {v : V} {d : PyData} (h : Dn ok H v d) (n : H p = none) : Dn (Off p) H v d := h.weak fun a o _ e => ne_of_none e n
theorem DnAll.same {ok : Addr → Prop} {H H' : Hp} {v : List V} {d : List PyData} (h : DnAll ok H v d) (s : Same H H') : DnAll ok H' v d := h.step fun a o _ e => s a o e
theorem DnAll.kp {p : Addr} {H H' : Hp} {v : List V} {d : List PyData} (h : DnAll (Off p) H v d) (s : Kp p H H') : DnAll (Off p) H' v d := h.step fun a o n e => s a o n e
theorem DnAll.any {ok : Addr → Prop} {H : Hp} {v : List V} {d : List PyData} (h : DnAll ok H v d) : DnAll Any H v d := h.weak fun _ _ _ _ => trivial
theorem DnAll.off {ok : Addr → Prop} {p : Addr} {H : Hp} {v : List V} {d : List PyData} (h : DnAll ok H v d) (n : H p = none) : DnAll (Off p) H v d := h.weak fun a o _ e => ne_of_none e n
theorem DnAll.len {ok : Addr → Prop} {H : Hp} : ∀ {vs : List V} {ds : List PyData}, DnAll ok H vs ds → vs.length = ds.length
  | _, _, .nil => rfl
  | _, _, .cons _ hs => congrArg (· + 1) (DnAll.len hs)
theorem DnAll.get {ok : Addr → Prop} {H : Hp} : ∀ {vs : List V} {ds : List PyData} {i : Nat} {v : V}, DnAll ok H vs ds → vs[i]? = some v → ∃ d, ds[i]? = some d ∧ Dn ok H v d
  | _, _, _, _, .nil, e => by simp at e
  | _, _, 0, _, .cons h _, e => by
    have e' := Option.some.inj e
    subst e'
    exact ⟨_, rfl, h⟩
  | _, _, i + 1, v, .cons _ hs, e => DnAll.get (i := i) hs e
theorem DnAll.app {ok : Addr → Prop} {H : Hp} : ∀ {vs ws : List V} {ds es : List PyData}, DnAll ok H vs ds → DnAll ok H ws es → DnAll ok H (vs ++ ws) (ds ++ es)
  | _, _, _, _, .nil, h => h
  | _, _, _, _, .cons h hs, h' => .cons h (DnAll.app hs h')
def tyN : PyData → String
  | .none => "NoneType" | .bool _ => "bool" | .int _ => "int" | .str _ => "str" | .list _ => "list" | .tuple _ => "tuple" | .dict _ => "dict"
theorem Dn.tyB {K : PySem.W.Frag} {ok : Addr → Prop} {H : Hp} {v : V} {d : PyData} (h : Dn ok H v d) : TyB K H v (tyN d) := by
  cases h with
  | non => exact .non
  | bl b => exact .bl b
  | int i => exact .int i
  | str x => exact .str x
  | lst ha h hs => exact .lst (SqL.of h)
  | tup ha h hs => exact .tup (SqT.of h)
  | dic ha h => exact .dK h
theorem Dn.tyX {K : PySem.W.Frag} {ok : Addr → Prop} {H : Hp} {v : V} {d : PyData} (h : Dn ok H v d) : TyX K H v (.type (tyN d)) := by
  cases h with
  | non => exact .base .non
  | bl b => exact .base (.bl b)
  | int i => exact .base (.int i)
  | str x => exact .base (.str x)
  | lst ha h hs => exact .base (.lst h)
  | tup ha h hs => exact .base (.tup h)
  | dic ha h => exact .base (.dK h)
theorem ty9 (d : PyData) : Ty9 (tyN d) := by
  cases d
  · exact TypeEq.meta_NoneType
  · exact TypeEq.meta_bool
  · exact TypeEq.meta_int
  · exact TypeEq.meta_str
  · exact TypeEq.meta_list
  · exact TypeEq.meta_tuple
  · exact TypeEq.meta_dict
theorem kit_str {K : PySem.W.Frag} (d : PyData) : PySem.W.kitOne K (.type (tyN d)) (.type "str") = some (decide (tyN d = "str")) := by
  have hh : ∀ a ∈ ["NoneType", "bool", "int", "str", "list", "tuple", "dict"], kitB a "str" = some (decide (a = "str")) := by decide +kernel
  exact kit_ty (hh _ (by cases d <;> simp [tyN]))
theorem kit_tuple {K : PySem.W.Frag} (d : PyData) : PySem.W.kitOne K (.type (tyN d)) (.type "tuple") = some (decide (tyN d = "tuple")) := by
  have hh : ∀ a ∈ ["NoneType", "bool", "int", "str", "list", "tuple", "dict"], kitB a "tuple" = some (decide (a = "tuple")) := by decide +kernel
  exact kit_ty (hh _ (by cases d <;> simp [tyN]))
theorem kit_list {K : PySem.W.Frag} (d : PyData) : PySem.W.kitOne K (.type (tyN d)) (.type "list") = some (decide (tyN d = "list")) := by
  have hh : ∀ a ∈ ["NoneType", "bool", "int", "str", "list", "tuple", "dict"], kitB a "list" = some (decide (a = "list")) := by decide +kernel
  exact kit_ty (hh _ (by cases d <;> simp [tyN]))
theorem kit_bool {K : PySem.W.Frag} (d : PyData) : PySem.W.kitOne K (.type (tyN d)) (.type "bool") = some (decide (tyN d = "bool")) := by
  have hh : ∀ a ∈ ["NoneType", "bool", "int", "str", "list", "tuple", "dict"], kitB a "bool" = some (decide (a = "bool")) := by decide +kernel
  exact kit_ty (hh _ (by cases d <;> simp [tyN]))
theorem kit_int {K : PySem.W.Frag} (d : PyData) : PySem.W.kitOne K (.type (tyN d)) (.type "int") = some (decide (tyN d = "int" ∨ tyN d = "bool")) := by
  have hh : ∀ a ∈ ["NoneType", "bool", "int", "str", "list", "tuple", "dict"], kitB a "int" = some (decide (a = "int" ∨ a = "bool")) := by decide +kernel
  exact kit_ty (hh _ (by cases d <;> simp [tyN]))

/-! ### loops -/
section
variable {K : PySem.W.Frag} {σ : L2.St} {H : Hp} {Q : VK} {ta : TA} {te : TE} {g : TG} {tb : TS} {D : Ends} {tt : TT}
theorem w_forR (q : ta σ H fun vs H1 => ∃ n : Int, vs = [.int n] ∧ -(2 ^ 62) ≤ n ∧ n < 2 ^ 62 ∧ ∃ Pv : Nat → L2.St → Hp → Prop, Pv 0 σ H1 ∧
    (∀ (i : Nat) σ H, (i : Int) < n → Pv i σ H → g (.int (i : Int)) σ H fun σ2 H2 => tb { D with nx := Pv (i + 1), ct := Pv (i + 1), bk := D.nx } σ2 H2) ∧ ∀ σ H, Pv n.toNat σ H → D.nx σ H)
    (mono : ∀ R R' : List V → Hp → Prop, (∀ vs H, R vs H → R' vs H) → ta σ H R → ta σ H R') : tFor (iRng1 ta) g tb D σ H := by
  refine mono _ _ (fun vs H1 h => ?_) q
  obtain ⟨n, rfl, h1, h2, Pv, p0, ps, pd⟩ := h
  refine ⟨n, rfl, h1, h2, for_range (lo := 0) (n := n.toNat) Pv p0 (fun i σ' H' hi p => ?_) pd⟩
  have e0 : (0 : Int) + (i : Int) = (i : Int) := Int.zero_add _
  rw [e0]
  exact ps i σ' H' (by omega) p
theorem w_for {wi : TI} (q : wi σ H fun J H1 => ∃ W : Nat → Nat → L2.St → Hp → Prop, (∃ m, W 0 m σ H1) ∧ ∀ i m σ H, W i m σ H →
  (J.stop i H ∧ D.nx σ H) ∨ (J.go i H ∧ ∃ N : L2.St → Hp → Prop, (∀ σ' H', N σ' H' → ∃ m', m' < m ∧ W (i + 1) m' σ' H') ∧ ∀ x H', J.yld i H x H' → g x σ H' fun σ2 H2 => tb { D with nx := N, ct := N, bk := D.nx } σ2 H2)) : tFor wi g tb D σ H := q
theorem w_iRng1 {R : It → Hp → Prop} (q : ta σ H fun vs H1 => ∃ j : Int, vs = [.int j] ∧ -(2 ^ 62) ≤ j ∧ j < 2 ^ 62 ∧ R (Itr 0 j.toNat) H1) : iRng1 ta σ H R := q
theorem w_iRng2 {R : It → Hp → Prop} (q : ta σ H fun vs H1 => ∃ i j : Int, vs = [.int i, .int j] ∧ (-(2 ^ 62) ≤ i ∧ i < 2 ^ 62 ∧ -(2 ^ 62) ≤ j ∧ j < 2 ^ 62) ∧ R (Itr i (j - i).toNat) H1) : iRng2 ta σ H R := q
theorem w_iList {R : It → Hp → Prop} (q : te σ H fun x H1 => ∃ a, x = .ref a ∧ (∃ xs, SqL K H1 a xs) ∧ R (Itl K a) H1) : iList K te σ H R := q
theorem w_iTup {R : It → Hp → Prop} (q : te σ H fun x H1 => ∃ a, x = .ref a ∧ (∃ xs, SqT K H1 a xs) ∧ R (Itt K a) H1) : iTup K te σ H R := q
theorem w_iStr {R : It → Hp → Prop} (q : te σ H fun v H1 => ∃ x, v = .str x ∧ R (Its x) H1) : iStr te σ H R := q
/-- the end of iRng1's reading in a for -/
theorem w_rng {n : Int} (h1 : -(2 ^ 62) ≤ n) (h2 : n < 2 ^ 62) (Pv : Nat → L2.St → Hp → Prop) (p0 : Pv 0 σ H)
    (ps : ∀ (i : Nat) σ H, (i : Int) < n → Pv i σ H → g (.int (i : Int)) σ H fun σ2 H2 => tb { D with nx := Pv (i + 1), ct := Pv (i + 1), bk := D.nx } σ2 H2) (pd : ∀ σ H, Pv n.toNat σ H → D.nx σ H) :
    ∃ j : Int, [V.int n] = [.int j] ∧ -(2 ^ 62) ≤ j ∧ j < 2 ^ 62 ∧ ∃ W : Nat → Nat → L2.St → Hp → Prop, (∃ m, W 0 m σ H) ∧ ∀ i m σ H, W i m σ H →
  ((Itr 0 j.toNat).stop i H ∧ D.nx σ H) ∨ ((Itr 0 j.toNat).go i H ∧ ∃ N : L2.St → Hp → Prop, (∀ σ' H', N σ' H' → ∃ m', m' < m ∧ W (i + 1) m' σ' H') ∧ ∀ x H', (Itr 0 j.toNat).yld i H x H' → g x σ H' fun σ2 H2 => tb { D with nx := N, ct := N, bk := D.nx } σ2 H2) := by
  refine ⟨n, rfl, h1, h2, for_range (lo := 0) (n := n.toNat) Pv p0 (fun i σ' H' hi p => ?_) pd⟩
  have e0 : (0 : Int) + (i : Int) = (i : Int) := Int.zero_add _
  rw [e0]
  exact ps i σ' H' (by omega) p
/-- the end of iList's reading in a for -/
theorem w_lstF {a : Addr} {xs : List V} (hx : SqL K H a xs) (Pv : Nat → L2.St → Hp → Prop) (p0 : Pv 0 σ H) (hl : ∀ i σ H, i ≤ xs.length → Pv i σ H → SqL K H a xs)
    (ps : ∀ i x σ H, xs[i]? = some x → Pv i σ H → g x σ H fun σ2 H2 => tb { D with nx := Pv (i + 1), ct := Pv (i + 1), bk := D.nx } σ2 H2) (pd : ∀ σ H, Pv xs.length σ H → D.nx σ H) :
    ∃ b, V.ref a = .ref b ∧ (∃ xs, SqL K H b xs) ∧ ∃ W : Nat → Nat → L2.St → Hp → Prop, (∃ m, W 0 m σ H) ∧ ∀ i m σ H, W i m σ H →
  ((Itl K b).stop i H ∧ D.nx σ H) ∨ ((Itl K b).go i H ∧ ∃ N : L2.St → Hp → Prop, (∀ σ' H', N σ' H' → ∃ m', m' < m ∧ W (i + 1) m' σ' H') ∧ ∀ x H', (Itl K b).yld i H x H' → g x σ H' fun σ2 H2 => tb { D with nx := N, ct := N, bk := D.nx } σ2 H2) :=
  ⟨a, rfl, ⟨xs, hx⟩, for_list (xs := xs) Pv p0 hl ps pd⟩
end
/-! ### comprehensions whose element and test leave all that was tracked -/
section
variable {K : PySem.W.Frag} {σ : L2.St} {H : Hp} {Q : VK} {te : TE} {tt : TT} {vs : List Nat} {g : TG}
theorem lc_fm {Qd : Addr → Hp → Prop} {J : It} {its : List V} {G : Hp → Prop} {Y : Nat → Hp → V → Hp → Prop} (w : Walk J its.length G Y) (hy : ∀ i H x H', i < its.length → Y i H x H' → H' = H ∧ its[i]? = some x)
    (hG : ∀ H1, Same H H1 → G H1) (f : V → V) (k : V → Bool) (bind : V → L2.St)
    (hg : ∀ x H1 (R : L2.St → Hp → Prop), R (bind x) H1 → g x (wipe σ vs) H1 R) (hw : ∀ x, wipe (bind x) vs = wipe σ vs)
    (ht : ∀ x ∈ its, ∀ H1, Same H H1 → ∀ R : Bool → Hp → Prop, (∀ H2, Same H1 H2 → R (k x) H2) → tt (bind x) H1 R)
    (he : ∀ x ∈ its, k x = true → ∀ H1, Same H H1 → ∀ R : VK, (∀ H2, Same H1 H2 → R (f x) H2) → te (bind x) H1 R)
    (hlen : its.length < sizeLine) (q : ∀ D H1, H D = none → Same H H1 → H1 D = some (.lst ((its.filter k).map f)) → Qd D H1) :
    ∀ D, H D = none → ∃ W : Nat → Nat → Hp → Prop, (∃ m, W 0 m (upd H D (.lst []))) ∧ ∀ i m H, W i m H →
  (J.stop i H ∧ Qd D H) ∨ (J.go i H ∧ ∃ Nx : Hp → Prop, (∀ H', Nx H' → ∃ m', m' < m ∧ W (i + 1) m' H') ∧ ∀ x H', J.yld i H x H' → g x (wipe σ vs) H' fun σ2 H2 => wipe σ2 vs = wipe σ vs ∧ tt σ2 H2 fun b H3 =>
    if b = true then te σ2 H3 fun y H4 => ∃ acc, H4 D = some (.lst acc) ∧ acc.length < sizeLine ∧ Nx (upd H4 D (.lst (acc ++ [y]))) else Nx H3) := by
  intro D hD
  refine lc_it w (Pv := fun i H' => Same H H' ∧ H' D = some (.lst (((its.take i).filter k).map f))) ⟨Same.upd (Same.refl H) hD, upd_same⟩ (fun i H' _ p => hG H' p.1) (fun i x H' H'' hi p y => ?_) (fun H' p => ?_)
  · obtain ⟨e, hx⟩ := hy i H' x H'' hi y
    subst e
    obtain ⟨s, hD'⟩ := p
    have hm : x ∈ its := List.mem_of_getElem? hx
    have et : its.take (i + 1) = its.take i ++ [x] := by rw [List.take_add_one, hx]; rfl
    refine hg x H'' _ ⟨hw x, ht x hm H'' s _ fun H2 s2 => ?_⟩
    cases hk : k x with
    | true =>
      rw [if_pos rfl]
      refine he x hm hk H2 (s.trans s2) _ fun H3 s3 => ?_
      have hD3 : H3 D = some (.lst (((its.take i).filter k).map f)) := s3 _ _ (s2 _ _ hD')
      refine ⟨_, hD3, ?_, ?_, ?_⟩
      · rw [List.length_map]
        have h1 := List.length_filter_le k (its.take i)
        have h2 : (its.take i).length ≤ its.length := by rw [List.length_take]; omega
        omega
      · exact fun b o e => by
          rw [upd_ne (ne_of_none e hD)]
          exact s3 _ _ (s2 _ _ (s _ _ e))
      · rw [upd_same, et, List.filter_append, List.map_append, List.filter_cons_of_pos hk]
        rfl
    | false =>
      rw [if_neg (by decide)]
      refine ⟨s.trans s2, ?_⟩
      rw [et, List.filter_append, List.filter_cons_of_neg (by simp [hk]), List.filter_nil, List.append_nil]
      exact s2 _ _ hD'
  · obtain ⟨s, hD'⟩ := p
    rw [List.take_length] at hD'
    exact q D H' hD s hD'
/-- over a text, one name bound -/
def sgns (z : Str) : List V := z.cps.toList.map fun c => V.str ⟨#[c]⟩
theorem sgns_len {z : Str} : (sgns z).length = z.cps.size := by unfold sgns; simp
theorem w_lc {wi : TI} (q : wi σ H fun J H1 => ∀ D, H1 D = none → ∃ W : Nat → Nat → Hp → Prop, (∃ m, W 0 m (upd H1 D (.lst []))) ∧ ∀ i m H, W i m H →
  (J.stop i H ∧ Q (.ref D) H) ∨ (J.go i H ∧ ∃ Nx : Hp → Prop, (∀ H', Nx H' → ∃ m', m' < m ∧ W (i + 1) m' H') ∧ ∀ x H', J.yld i H x H' → g x (wipe σ vs) H' fun σ2 H2 => wipe σ2 vs = wipe σ vs ∧ tt σ2 H2 fun b H3 =>
    if b = true then te σ2 H3 fun y H4 => ∃ acc, H4 D = some (.lst acc) ∧ acc.length < sizeLine ∧ Nx (upd H4 D (.lst (acc ++ [y]))) else Nx H3)) : tLc wi g tt te vs σ H Q := q
theorem lcStr {Qd : Addr → Hp → Prop} {z : Str} {i : Nat} (hz : z.length ≤ 100000) (f : V → V) (k : V → Bool) (hw : ∀ x, wipe ((wipe σ vs).set i (some x)) vs = wipe σ vs)
    (ht : ∀ x ∈ sgns z, ∀ H1, Same H H1 → ∀ R : Bool → Hp → Prop, (∀ H2, Same H1 H2 → R (k x) H2) → tt ((wipe σ vs).set i (some x)) H1 R)
    (he : ∀ x ∈ sgns z, k x = true → ∀ H1, Same H H1 → ∀ R : VK, (∀ H2, Same H1 H2 → R (f x) H2) → te ((wipe σ vs).set i (some x)) H1 R)
    (q : ∀ D H1, H D = none → Same H H1 → H1 D = some (.lst (((sgns z).filter k).map f)) → Qd D H1) :
    ∀ D, H D = none → ∃ W : Nat → Nat → Hp → Prop, (∃ m, W 0 m (upd H D (.lst []))) ∧ ∀ j m H, W j m H →
  ((Its z).stop j H ∧ Qd D H) ∨ ((Its z).go j H ∧ ∃ Nx : Hp → Prop, (∀ H', Nx H' → ∃ m', m' < m ∧ W (j + 1) m' H') ∧ ∀ x H', (Its z).yld j H x H' → gName i x (wipe σ vs) H' fun σ2 H2 => wipe σ2 vs = wipe σ vs ∧ tt σ2 H2 fun b H3 =>
    if b = true then te σ2 H3 fun y H4 => ∃ acc, H4 D = some (.lst acc) ∧ acc.length < sizeLine ∧ Nx (upd H4 D (.lst (acc ++ [y]))) else Nx H3) := by
  have hl : (sgns z).length < sizeLine := by
    rw [sgns_len]
    exact Nat.lt_of_le_of_lt hz (by decide)
  refine lc_fm (its := sgns z) (by rw [sgns_len]; exact walk_str) (fun j H x H' hj y => ?_) (fun _ _ => trivial) f k (fun x => (wipe σ vs).set i (some x)) (fun x H1 R r => r) hw ht he hl q
  obtain ⟨e, c, hc, rfl⟩ := y
  refine ⟨e, ?_⟩
  unfold sgns
  rw [List.getElem?_map, Array.getElem?_toList, hc]
  rfl
theorem lcL {Qd : Addr → Hp → Prop} {a : Addr} {its : List V} {i : Nat} (hS : ∀ H1, Same H H1 → SqL K H1 a its) (hl : its.length < sizeLine) (f : V → V) (k : V → Bool) (hw : ∀ x, wipe ((wipe σ vs).set i (some x)) vs = wipe σ vs)
    (ht : ∀ x ∈ its, ∀ H1, Same H H1 → ∀ R : Bool → Hp → Prop, (∀ H2, Same H1 H2 → R (k x) H2) → tt ((wipe σ vs).set i (some x)) H1 R)
    (he : ∀ x ∈ its, k x = true → ∀ H1, Same H H1 → ∀ R : VK, (∀ H2, Same H1 H2 → R (f x) H2) → te ((wipe σ vs).set i (some x)) H1 R)
    (q : ∀ D H1, H D = none → Same H H1 → H1 D = some (.lst ((its.filter k).map f)) → Qd D H1) :
    ∃ b, V.ref a = .ref b ∧ (∃ xs, SqL K H b xs) ∧ ∀ D, H D = none → ∃ W : Nat → Nat → Hp → Prop, (∃ m, W 0 m (upd H D (.lst []))) ∧ ∀ j m H, W j m H →
  ((Itl K b).stop j H ∧ Qd D H) ∨ ((Itl K b).go j H ∧ ∃ Nx : Hp → Prop, (∀ H', Nx H' → ∃ m', m' < m ∧ W (j + 1) m' H') ∧ ∀ x H', (Itl K b).yld j H x H' → gName i x (wipe σ vs) H' fun σ2 H2 => wipe σ2 vs = wipe σ vs ∧ tt σ2 H2 fun b H3 =>
    if b = true then te σ2 H3 fun y H4 => ∃ acc, H4 D = some (.lst acc) ∧ acc.length < sizeLine ∧ Nx (upd H4 D (.lst (acc ++ [y]))) else Nx H3) :=
  ⟨a, rfl, ⟨its, hS H (Same.refl H)⟩, lc_fm (its := its) walk_list (fun j H x H' hj y => y) hS f k (fun x => (wipe σ vs).set i (some x)) (fun x H1 R r => r) hw ht he hl q⟩
theorem lcT {Qd : Addr → Hp → Prop} {a : Addr} {its : List V} {i : Nat} (hS : ∀ H1, Same H H1 → SqT K H1 a its) (hl : its.length < sizeLine) (f : V → V) (k : V → Bool) (hw : ∀ x, wipe ((wipe σ vs).set i (some x)) vs = wipe σ vs)
    (ht : ∀ x ∈ its, ∀ H1, Same H H1 → ∀ R : Bool → Hp → Prop, (∀ H2, Same H1 H2 → R (k x) H2) → tt ((wipe σ vs).set i (some x)) H1 R)
    (he : ∀ x ∈ its, k x = true → ∀ H1, Same H H1 → ∀ R : VK, (∀ H2, Same H1 H2 → R (f x) H2) → te ((wipe σ vs).set i (some x)) H1 R)
    (q : ∀ D H1, H D = none → Same H H1 → H1 D = some (.lst ((its.filter k).map f)) → Qd D H1) :
    ∃ b, V.ref a = .ref b ∧ (∃ xs, SqT K H b xs) ∧ ∀ D, H D = none → ∃ W : Nat → Nat → Hp → Prop, (∃ m, W 0 m (upd H D (.lst []))) ∧ ∀ j m H, W j m H →
  ((Itt K b).stop j H ∧ Qd D H) ∨ ((Itt K b).go j H ∧ ∃ Nx : Hp → Prop, (∀ H', Nx H' → ∃ m', m' < m ∧ W (j + 1) m' H') ∧ ∀ x H', (Itt K b).yld j H x H' → gName i x (wipe σ vs) H' fun σ2 H2 => wipe σ2 vs = wipe σ vs ∧ tt σ2 H2 fun b H3 =>
    if b = true then te σ2 H3 fun y H4 => ∃ acc, H4 D = some (.lst acc) ∧ acc.length < sizeLine ∧ Nx (upd H4 D (.lst (acc ++ [y]))) else Nx H3) :=
  ⟨a, rfl, ⟨its, hS H (Same.refl H)⟩, lc_fm (its := its) walk_tup (fun j H x H' hj y => y) hS f k (fun x => (wipe σ vs).set i (some x)) (fun x H1 R r => r) hw ht he hl q⟩
theorem w_exs {z : Str} {R : Str → Prop} (q : R z) : ∃ x, V.str z = .str x ∧ R x := ⟨z, rfl, q⟩
theorem w_lcStr {z : Str} {tz : TE} {i : Nat} (hz : z.length ≤ 100000) (f : V → V) (k : V → Bool)
    (hq : ∀ R : It → Hp → Prop, R (Its z) H → iStr tz σ H R) (hw : ∀ x, wipe ((wipe σ vs).set i (some x)) vs = wipe σ vs)
    (ht : ∀ x ∈ sgns z, ∀ H1, Same H H1 → ∀ R : Bool → Hp → Prop, (∀ H2, Same H1 H2 → R (k x) H2) → tt ((wipe σ vs).set i (some x)) H1 R)
    (he : ∀ x ∈ sgns z, k x = true → ∀ H1, Same H H1 → ∀ R : VK, (∀ H2, Same H1 H2 → R (f x) H2) → te ((wipe σ vs).set i (some x)) H1 R)
    (q : ∀ D H1, H D = none → Same H H1 → H1 D = some (.lst (((sgns z).filter k).map f)) → Q (.ref D) H1) :
    tLc (iStr tz) (gName i) tt te vs σ H Q := hq _ (lcStr hz f k hw ht he q)
theorem w_all {a : Addr} {bs : List Bool} (h : SqL K H a (bs.map V.bl)) (q : Q (.bl (bs.all id)) H) : rAll K [.ref a] H Q := ⟨a, bs, rfl, h, q⟩
end
end Wp

namespace Wp
open PySem PySem.Spec PyProof.Rows L2 TyNe

/-! ### what an expression yields, as data, while one stream at p is drawn from -/
def EvS (p : Addr) (te : TE) (σ : L2.St) (H : Hp) (P : PyData → Prop) : Prop := ∀ H1, Kp p H H1 → Stm H1 p → ∀ Q : VK, (∀ v d H2, Kp p H1 H2 → Stm H2 p → P d → Dn (Off p) H2 v d → Q v H2) → te σ H1 Q
def EvSs (p : Addr) (ta : TA) (σ : L2.St) (H : Hp) (P : List PyData → Prop) : Prop := ∀ H1, Kp p H H1 → Stm H1 p → ∀ Q : List V → Hp → Prop, (∀ vs ds H2, Kp p H1 H2 → Stm H2 p → P ds → DnAll (Off p) H2 vs ds → Q vs H2) → ta σ H1 Q
section
variable {p : Addr} {te : TE} {ta : TA} {σ : L2.St} {H : Hp} {P P' : PyData → Prop} {R : List PyData → Prop}
theorem EvS.weak (h : EvS p te σ H P) (k : ∀ d, P d → P' d) : EvS p te σ H P' := fun H1 a s Q q => h H1 a s Q fun v d H2 b s' x y => q v d H2 b s' (k d x) y
theorem EvSs.weak {R' : List PyData → Prop} (h : EvSs p ta σ H R) (k : ∀ d, R d → R' d) : EvSs p ta σ H R' := fun H1 a s Q q => h H1 a s Q fun v d H2 b s' x y => q v d H2 b s' (k d x) y
theorem evs_non (h : P .none) : EvS p (tC .non) σ H P := fun H1 _ s Q q => q _ _ H1 Kp.refl s h .non
theorem evs_bl {b : Bool} (h : P (.bool b)) : EvS p (tC (.bl b)) σ H P := fun H1 _ s Q q => q _ _ H1 Kp.refl s h (.bl b)
theorem evs_int {i : Int} (h : P (.int i)) : EvS p (tC (.int i)) σ H P := fun H1 _ s Q q => q _ _ H1 Kp.refl s h (.int i)
theorem evs_str {x : Str} (h : P (.str x)) : EvS p (tC (.str x)) σ H P := fun H1 _ s Q q => q _ _ H1 Kp.refl s h (.str x)
theorem evs_var {i : Nat} {v : V} {d : PyData} (e : σ[i]? = some (some v)) (hd : Dn (Off p) H v d) (h : P d) : EvS p (tVar i) σ H P := fun H1 k s Q q => ⟨v, e, q v d H1 Kp.refl s h (hd.kp k)⟩
theorem evss_nil (h : R []) : EvSs p tNil σ H R := fun H1 _ s Q q => q _ _ H1 Kp.refl s h .nil
theorem evss_cons {R' : List PyData → Prop} (h : EvS p te σ H P) (hs : EvSs p ta σ H R) (k : ∀ d r, P d → R r → R' (d :: r)) : EvSs p (tCons te ta) σ H R' := fun H1 a s Q q =>
  h H1 a s _ fun v d H2 b s2 x y => hs H2 (a.trans b) s2 _ fun vs ds H3 c s3 xs ys => q (v :: vs) (d :: ds) H3 (b.trans c) s3 (k d ds x xs) (.cons (y.kp c) ys)
theorem evs_tup (h : EvSs p ta σ H R) (k : ∀ ds, R ds → ds.length ≤ 100000 ∧ P (.tuple ds)) : EvS p (tTup ta) σ H P := fun H1 a s Q q =>
  h H1 a s _ fun vs ds H2 b s2 x y => ⟨sz (by rw [y.len]; exact (k ds x).1), fun t ht => by
    have hn : t ≠ p := (Stm.ne s2 ht)
    exact q (.ref t) (.tuple ds) _ (b.upd (b.free hn ht)) (s2.up ht) (k ds x).2 (.tup hn upd_same (y.step fun c o n e => by rw [upd_ne (ne_of_none e ht)]; exact e))⟩
theorem evs_lst (h : EvSs p ta σ H R) (k : ∀ ds, R ds → ds.length ≤ 100000 ∧ P (.list ds)) : EvS p (tLst ta) σ H P := fun H1 a s Q q =>
  h H1 a s _ fun vs ds H2 b s2 x y => ⟨sz (by rw [y.len]; exact (k ds x).1), fun t ht => by
    have hn : t ≠ p := (Stm.ne s2 ht)
    exact q (.ref t) (.list ds) _ (b.upd (b.free hn ht)) (s2.up ht) (k ds x).2 (.lst hn upd_same (y.step fun c o n e => by rw [upd_ne (ne_of_none e ht)]; exact e))⟩
theorem evs_dnew (h : P (.dict [])) : EvS p tDNewK σ H P := fun H1 a s Q q t ht =>
  have hn : t ≠ p := (Stm.ne s ht)
  q (.ref t) (.dict []) _ (Kp.refl.upd ht) (s.up ht) h (.dic hn upd_same)
theorem evs_disp1 {k : Str} {v : Int} (h : P (.dict [])) : EvS p (tDisp [(tC (.str k), tC (.int v))]) σ H P := fun H1 a s Q q t ht =>
  have hn : t ≠ p := (Stm.ne s ht)
  ⟨upd_same, [(Sum.inr k, .int v)], rfl, (show 1 ≤ 15 by decide), q (.ref t) (.dict []) _ ((Kp.refl.upd ht).upd ht) (by
    obtain ⟨x, y, e, r⟩ := s
    exact ⟨x, y, by rw [upd_ne (ne_of_none e ht), upd_ne (ne_of_none e ht)]; exact e, r⟩) h (.dic hn upd_same)⟩
theorem evs_call {sp : Sp} (h : ∀ vs ds H1, Kp p H H1 → Stm H1 p → R ds → DnAll (Off p) H1 vs ds → ∀ Q : VK, (∀ v d H2, Kp p H1 H2 → Stm H2 p → P d → Dn (Off p) H2 v d → Q v H2) → sp vs H1 Q C8.E0) (ha : EvSs p ta σ H R) : EvS p (tCall sp [] C8.E0 ta) σ H P := fun H1 a s Q q =>
  ha H1 a s _ fun vs ds H2 b s2 x y => by
    show sp (vs ++ []) H2 Q C8.E0
    rw [List.append_nil]
    exact h vs ds H2 (a.trans b) s2 x y Q fun v d H3 c s3 x3 y3 => q v d H3 (b.trans c) s3 x3 y3
/-- used in a reading -/
theorem EvS.use {Q : VK} (h : EvS p te σ H P) (s : Stm H p) (q : ∀ v d H2, Kp p H H2 → Stm H2 p → P d → Dn (Off p) H2 v d → Q v H2) : te σ H Q := h H Kp.refl s Q q
theorem EvSs.use {Q : List V → Hp → Prop} (h : EvSs p ta σ H R) (s : Stm H p) (q : ∀ vs ds H2, Kp p H H2 → Stm H2 p → R ds → DnAll (Off p) H2 vs ds → Q vs H2) : ta σ H Q := h H Kp.refl s Q q
end
end Wp

namespace Wp
open PySem PySem.Spec PyProof.Rows L2 TyNe

/-! ### text * int -/
abbrev qMulS : R2 := fun x y H Q => ∃ (z : Str) (n : Int), x = .str z ∧ y = .int n ∧ MulOk z n ∧ Q (.str (Txt.mul z n)) H
theorem op_mulS {X : Cx} : OpR X (binaryOp .Mult) qMulS := by
  intro pins s σ H x y v u Q I rx ry h
  obtain ⟨i, j, rfl, rfl, hz, q⟩ := h
  obtain ⟨t, rfl⟩ := rx
  obtain ⟨t', rfl⟩ := ry
  exact SB.mul hz fun t' k => ⟨.str (Txt.mul i j), H, I.tok _, ⟨_, rfl⟩, q⟩
theorem foldl_size : ∀ (l : List (Array Nat)) (a : Array Nat), (l.foldl (· ++ ·) a).size = a.size + (l.map Array.size).sum
  | [], a => by simp
  | x :: l, a => by
    rw [List.foldl_cons, foldl_size l, Array.size_append, List.map_cons, List.sum_cons]
    omega
theorem rep_sum (n k : Nat) : ((List.replicate n k) : List Nat).sum = n * k := by
  induction n with
  | zero => simp
  | succ n ih => rw [List.replicate_succ, List.sum_cons, ih, Nat.succ_mul, Nat.add_comm]
theorem mul_len (x : Str) {n : Int} (h : 0 ≤ n) : (Txt.mul x n).length ≤ x.length * n.toNat := by
  unfold Txt.mul
  by_cases h1 : n < 1
  · rw [if_pos h1]
    exact Nat.zero_le _
  · rw [if_neg h1]
    by_cases h2 : (n == 1 || x.length == 0) = true
    · rw [if_pos h2]
      have : 1 ≤ n.toNat := by omega
      exact Nat.le_mul_of_pos_right _ this
    · rw [if_neg h2]
      show ((List.replicate n.toNat x.cps).foldl (· ++ ·) (#[] : Array Nat)).size ≤ _
      rw [foldl_size, List.map_replicate, rep_sum]
      show 0 + n.toNat * x.cps.size ≤ x.cps.size * n.toNat
      rw [Nat.zero_add, Nat.mul_comm]
      exact Nat.le_refl _
theorem mulOk {x : Str} {n : Int} (h0 : 0 ≤ n) (h1 : n ≤ 1000) (hx : x.length ≤ 10000) : MulOk x n := by
  refine ⟨?_, fun a b => ?_, fun a b => ?_⟩
  · rw [decide_eq_false (by omega), decide_eq_false (by omega)]
    rfl
  · have e : (2 ^ 63 - 1 : Int) / n ≥ (2 ^ 63 - 1 : Int) / 1000 := by
      rw [ge_iff_le, Int.le_ediv_iff_mul_le (by omega)]
      have e2 : (2 ^ 63 - 1 : Int) / 1000 = 9223372036854775 := by decide
      rw [e2]
      have := Int.mul_le_mul_of_nonneg_left h1 (show (0 : Int) ≤ 9223372036854775 by decide)
      omega
    have e2 : (2 ^ 63 - 1 : Int) / 1000 = 9223372036854775 := by decide
    omega
  · unfold Builtin.Str.tooLong
    have h2 : n.toNat ≤ 1000 := by omega
    have h3 : x.length * n.toNat ≤ 10000 * 1000 := Nat.mul_le_mul hx h2
    exact decide_eq_false (by
      have : (10000 * 1000 : Nat) ≤ sizeLine := by decide
      omega)
section
variable {H : Hp} {Q : VK}
theorem w_mulS {z : Str} {n : Int} (h0 : 0 ≤ n) (h1 : n ≤ 1000) (hx : z.length ≤ 10000) (q : (Txt.mul z n).length ≤ z.length * n.toNat → Q (.str (Txt.mul z n)) H) : qMulS (.str z) (.int n) H Q := ⟨z, n, rfl, rfl, mulOk h0 h1 hx, q (mul_len z h0)⟩
end

/-! ### the place of a sign -/
abbrev q_rfind4 : V → List V → Hp → VK → Prop := fun x xs H Q => ∃ (a b : Str) (i j : Int), x = .str a ∧ xs = [.str b, .int i, .int j] ∧ Q (.int (Txt.rfindIn a b i j)) H
abbrev q_find3 : V → List V → Hp → VK → Prop := fun x xs H Q => ∃ (a b : Str) (i : Int), x = .str a ∧ xs = [.str b, .int i] ∧ Q (.int (Txt.find3 a b i)) H
open Builtin Builtin.Str StrLaws in
theorem at_one {x : Str} {c hi i : Nat} (h : hi ≤ x.length) : At x ⟨#[c]⟩ hi i ↔ i < hi ∧ x.cps.toList[i]? = some c := by
  have e : (⟨#[c]⟩ : Str).length = 1 := rfl
  constructor
  · rintro ⟨h1, h2⟩
    rw [e] at h1
    exact ⟨by omega, (subAt_one x c i).mp ⟨by rw [e]; omega, h2⟩⟩
  · rintro ⟨h1, h2⟩
    exact ⟨by rw [e]; omega, ((subAt_one x c i).mpr h2).2⟩
open Builtin Builtin.Str StrLaws in
/-- the last c in [lo, hi) -/
theorem last_one (x : Str) (c lo hi : Nat) (h : hi ≤ x.length) : (lastOccurrence x ⟨#[c]⟩ lo hi = none ∧ ∀ i, lo ≤ i → i < hi → x.cps.toList[i]? ≠ some c) ∨
    ∃ i, lastOccurrence x ⟨#[c]⟩ lo hi = some i ∧ lo ≤ i ∧ i < hi ∧ x.cps.toList[i]? = some c ∧ ∀ k, i < k → k < hi → x.cps.toList[k]? ≠ some c := by
  rw [last_eq]
  have key := last_run x ⟨#[c]⟩ hi (List.range' lo (hi + 1 - lo)) [] none (fun _ h => nomatch h) (fun _ h => nomatch h) (by simpa using List.pairwise_lt_range' (s := lo) (n := hi + 1 - lo))
  have mem : ∀ i, lo ≤ i → i < hi → i ∈ [] ++ List.range' lo (hi + 1 - lo) := fun i h1 h2 => by
    simp [List.mem_range']
    exact ⟨i - lo, by omega, by omega⟩
  cases hr : (forIn (List.range' lo (hi + 1 - lo)) none (lastBody x ⟨#[c]⟩ hi)).run with
  | none =>
    rw [hr] at key
    exact .inl ⟨rfl, fun i h1 h2 e => key i (mem i h1 h2) ((at_one h).mpr ⟨h2, e⟩)⟩
  | some a =>
    rw [hr] at key
    have ka := (at_one h).mp key.1
    refine .inr ⟨a, rfl, ?_, ka.1, ka.2, fun k h1 h2 e => ?_⟩
    · -- it was among the places looked at
      have hmem : ∀ (l : List Nat) (st : Option Nat) (r : Nat), (forIn l st (lastBody x ⟨#[c]⟩ hi)).run = some r → r ∈ l ∨ st = some r := by
        intro l
        induction l with
        | nil => intro st r e; exact .inr e
        | cons b l ih =>
          intro st r e
          rw [List.forIn_cons] at e
          unfold lastBody at e
          split at e
          · rcases ih _ _ e with hm | hm
            · exact .inl (List.mem_cons_of_mem _ hm)
            · exact .inl (by cases hm; exact List.mem_cons_self ..)
          · rcases ih _ _ e with hm | hm
            · exact .inl (List.mem_cons_of_mem _ hm)
            · exact .inr hm
      rcases hmem _ _ _ hr with hm | hm
      · simp [List.mem_range'] at hm
        omega
      · exact nomatch hm
    · by_cases hk : lo ≤ k
      · exact key.2 k (mem k hk h2) h1 ((at_one h).mpr ⟨h2, e⟩)
      · exact key.2 k (by
          have hk2 : k < lo := by omega
          have : lo ≤ a := by
            have hmem : ∀ (l : List Nat) (st : Option Nat) (r : Nat), (forIn l st (lastBody x ⟨#[c]⟩ hi)).run = some r → r ∈ l ∨ st = some r := by
              intro l
              induction l with
              | nil => intro st r e; exact .inr e
              | cons b l ih =>
                intro st r e
                rw [List.forIn_cons] at e
                unfold lastBody at e
                split at e
                · rcases ih _ _ e with hm | hm
                  · exact .inl (List.mem_cons_of_mem _ hm)
                  · exact .inl (by cases hm; exact List.mem_cons_self ..)
                · rcases ih _ _ e with hm | hm
                  · exact .inl (List.mem_cons_of_mem _ hm)
                  · exact .inr hm
            rcases hmem _ _ _ hr with hm | hm
            · simp [List.mem_range'] at hm
              omega
            · exact nomatch hm
          omega) h1 ((at_one h).mpr ⟨h2, e⟩)
open Builtin Builtin.Str StrLaws in
/-- the first c from lo on -/
theorem first_one (x : Str) (c lo : Nat) : (occurrences x ⟨#[c]⟩ lo x.length 1 = [] ∧ ∀ i, lo ≤ i → x.cps.toList[i]? ≠ some c) ∨
    ∃ i r, occurrences x ⟨#[c]⟩ lo x.length 1 = i :: r ∧ lo ≤ i ∧ x.cps.toList[i]? = some c ∧ ∀ k, lo ≤ k → k < i → x.cps.toList[k]? ≠ some c := by
  rw [occ_eq]
  have inr : ∀ i c, x.cps.toList[i]? = some c → i < x.length := fun i c e => by
    have h := (List.getElem?_eq_some_iff.mp e).1
    simpa [Str.length] using h
  rcases occ_first x ⟨#[c]⟩ x.length 1 (Nat.le_refl _) (List.range' lo (x.length + 1 - lo)) lo (fun i hi => by simp [List.mem_range'] at hi; omega) with ⟨h0, hn⟩ | ⟨pre, a, post, e, h0, ha, hn⟩
  · refine .inl ⟨by rw [h0], fun i h1 e => ?_⟩
    have := inr i c e
    exact hn i (by simp [List.mem_range']; exact ⟨i - lo, by omega, by omega⟩) ((at_one (Nat.le_refl _)).mpr ⟨this, e⟩)
  · have hm : a ∈ List.range' lo (x.length + 1 - lo) := by rw [e]; simp
    have hlo : lo ≤ a := by simp [List.mem_range'] at hm; omega
    have ka := (at_one (Nat.le_refl _)).mp ha
    generalize hl : (forIn (List.range' lo (x.length + 1 - lo)) ((#[] : Array Nat), lo) (occBody x ⟨#[c]⟩ x.length 1)).run.fst = arr at h0
    rw [← Array.getElem?_toList] at h0
    cases hal : arr.toList with
    | nil => rw [hal] at h0; exact nomatch h0
    | cons b r =>
      rw [hal] at h0
      have hb : b = a := Option.some.inj h0
      subst hb
      refine .inr ⟨b, r, rfl, hlo, ka.2, fun k h1 h2 ek => ?_⟩
      have hk := inr k c ek
      refine hn k ?_ ((at_one (Nat.le_refl _)).mpr ⟨hk, ek⟩)
      have hp : (List.range' lo (x.length + 1 - lo)).Pairwise (· < ·) := by simpa using List.pairwise_lt_range' (s := lo) (n := x.length + 1 - lo)
      rw [e] at hp
      have hmk : k ∈ pre ++ b :: post := by rw [← e]; simp [List.mem_range']; exact ⟨k - lo, by omega, by omega⟩
      rcases List.mem_append.mp hmk with g | g
      · exact g
      · rcases List.mem_cons.mp g with g | g
        · omega
        · have := (List.pairwise_cons.mp (List.pairwise_append.mp hp).2.1).1 k g
          omega
end Wp

namespace Wp
open PySem PySem.Spec PyProof.Rows L2 TyNe

/-! ### a property of an own class -/
structure Prp (P : Program) (w : World) (K : PySem.W.Frag) (mg : Str → Option Value) (base : Heap) (k : Nat) (C : Addr) (m : Str) (sp : Sp) : Prop where
  ex : ∃ (f p : Addr) (fd : FuncData) (ps : List Str), Cls K C ∧ PropOf K C m p f ∧ FnOk P w K mg base C8.CX0 k f fd ps sp ∧ Binds K fd ps []
theorem prp0 {P : Program} {w : World} {K : PySem.W.Frag} {mg : Str → Option Value} {base : Heap} {m x qual : Str} {C p : Addr} {st : Stmt} {f : Addr} {fd : FuncData} {N ps : List Str} {k : Nat} {sp : Sp} (c : Cls K C) (hp : PropOf K C m p f) (F : C8.Fun K x qual st f fd) (b : Binds K fd ps []) (S : FnScope N ps (C8.fnScope st)) (len : ∀ vs H Q E, sp vs H Q E → vs.length = ps.length)
    (hbody : ∀ (cdv : Value) (A : Around) (outer : List Env) (s : Shared) (H : Hp) (vs : List V) (Q : VK) (E : XK), Room k (A.deeper (envOfC qual (C8.fnScope st) s.heap.objs.size f cdv)) → sp vs H Q E →
      ∃ t, PSs (cxOf C8.CX0 P w K mg base N qual (C8.fnScope st) f cdv A outer s H E).nox (C8.fnBody st) t ∧ t { nx := fun _ H' => Q .non H', rt := Q } (start N vs) H) : Prp P w K mg base (k + 1) C m sp :=
  ⟨f, p, fd, ps, c, hp, C8.fn0 F S len hbody, b⟩
theorem pe_pp {X : Cx} {k j : Nat} {C : Addr} {m : Str} {sp : Sp} {e : Expr} {pos : Pos} {ta : TE} (c : Prp X.prog X.w X.K X.mg X.base k C m sp) (hr : Room j X.A) (hk : k + 1 ≤ j) (he : PE X e ta)
    (hab : attributeBase e m X.env (eval e X.env) = eval e X.env) : PE X (.Attribute e m pos) (tProp C sp [] C8.E0 ta) := by
  obtain ⟨f, p, fd, ps, hc, hp, F, b⟩ := c.ex
  exact pe_prop he hc hp F (hr.mono hk) b .nil C8.pass0 hab
theorem hu1 {j : Nat} {A : Around} (hr : Room j A) : A.units + 1 < cLine := by
  have := hr.units
  omega
abbrev qSortedD : List V → Hp → VK → Prop := fun xs H Q => ∃ (a : Addr) (kvs : List (Key × V)) (ks : List Str), xs = [.ref a] ∧ Rd H a (.dK kvs) ∧ kvs.map (·.1) = ks.map Sum.inr ∧ ks.length < 64 ∧
    ∀ ys p, ys.Perm ks → sortedS ys = true → H p = none → Q (.ref p) (upd H p (.lst (ys.map V.str)))

section
variable {K : PySem.W.Frag} {σ : L2.St} {H : Hp} {v : V} {Q : VK} {D : Ends} {te ta td ty tv tx : TE}
theorem w_yes {R : Bool → Hp → Prop} (q : R true H) : tYes σ H R := q
theorem iteT_ {A B : Prop} (q : A) : if (true : Bool) = true then A else B := q
theorem gc {t : TG} {u : TGs} {v : V} {r : List V} {Q : L2.St → Hp → Prop} (q : t v σ H fun σ' H' => u r σ' H' Q) : gCons t u (v :: r) σ H Q := ⟨v, r, rfl, q⟩
theorem gn {Q : L2.St → Hp → Prop} (q : Q σ H) : gNil [] σ H Q := ⟨rfl, q⟩
theorem w_fld {f : Str} (q : ta σ H fun x H1 => ∃ a C dx fs v, x = .ref a ∧ H1 a = some (.ins C dx fs) ∧ Cls K C ∧ NoAttr K C f ∧ fs.lookup f = some v ∧ Q v H1) : tFld K ta f σ H Q := q
theorem w_prop {C : Addr} {sp : Sp} {dvs : List V} {E : XK} (q : ta σ H fun x H1 => ∃ a dx fs, x = .ref a ∧ H1 a = some (.ins C dx fs) ∧ sp (.ref a :: dvs) H1 Q E) : tProp C sp dvs E ta σ H Q := q
theorem w_meth {C : Addr} {m : Str} {sp : Sp} {dvs : List V} {E : XK} {t : TA} (q : ta σ H fun x H1 => ∃ a dx fs, x = .ref a ∧ H1 a = some (.ins C dx fs) ∧ fs.lookup m = none ∧ t σ H1 fun vs H2 => sp (x :: (vs ++ dvs)) H2 Q E) : tMeth C m sp dvs E ta t σ H Q := q
theorem w_make {C : Addr} {sp : Sp} {dvs : List V} {E : XK} {t : TA} (q : t σ H fun vs H1 => ∀ x dx, H1 x = none → H1 dx = none → dx ≠ x → sp (.ref x :: (vs ++ dvs)) (upd (upd H1 dx (.own x)) x (.ins C dx [])) (fun v H2 => v = .non ∧ Q (.ref x) H2) E) : tMake C sp dvs E t σ H Q := q
theorem w_dget (q : td σ H fun x H1 => ty σ H1 fun y H2 => ∃ a v, x = .ref a ∧ DGet H2 a y (some v) ∧ Q v H2) : tDGet td ty σ H Q := q
theorem w_dget2 (q : td σ H fun x H1 => ∃ a, x = .ref a ∧ IsD H1 a ∧ ty σ H1 fun y H2 => tx σ H2 fun z H3 => ∃ o, DGet H3 a y o ∧ Q (o.getD z) H3) : tDGet2 td ty tx σ H Q := q
theorem w_dput (q : tv σ H fun v H1 => td σ H1 fun x H2 => ty σ H2 fun y H3 => ∃ a H4, x = .ref a ∧ DPut H3 a y v H4 ∧ D.nx σ H4) : sDPut td ty tv D σ H := q
theorem w_sfld {f : Str} (q : tv σ H fun y H1 => ta σ H1 fun x H2 => ∃ a C dx fs, x = .ref a ∧ H2 a = some (.ins C dx fs) ∧ Cls K C ∧ NoAttr K C f ∧ fs.length < 1000 ∧ D.nx σ (upd H2 a (.ins C dx (putF f y fs)))) : sFld K ta tv f D σ H := q
end
end Wp

namespace T
open PySem PySem.Spec PyProof.Rows L2 TyNe Wp
local macro_rules | `(tactic| walk_at "ne") => `(tactic| first
  | assumption
  | (refine Ne.symm ?_; assumption)
  | exact ne_of_none (by assumption) (by assumption)
  | exact (ne_of_none (by assumption) (by assumption)).symm
  | exact Stm.ne (by assumption) (by assumption)
  | exact (Stm.ne (by assumption) (by assumption)).symm)
local macro_rules | `(tactic| walk_at "hp") => `(tactic| first
  | assumption
  | exact upd_same
  | (rw [upd_ne (by walk_at "ne")]; walk_at "hp")
  | (refine Same.get (by assumption) ?_; walk_at "hp")
  | (refine Kp.get (by assumption) ?_ ?_ <;> first | (walk_at "hp"; done) | (walk_at "ne"; done)))
local macro_rules | `(tactic| walk_at "sq") => `(tactic| first
  | assumption
  | exact TupK.sq (by assumption)
  | exact SqL.of (by walk_at "hp")
  | exact SqT.of (by walk_at "hp"))
local macro_rules | `(tactic| walk_at "ar") => `(tactic| first
  | assumption | rfl | omega | decide)
/-- one step of a reading -/
local macro_rules | `(tactic| walk_at "w1") => `(tactic| first
  | with_reducible refine w_seq ?_
  | with_reducible refine w_asg ?_
  | ((with_reducible show tVar _ _ _ _); refine w_var rfl ?_)
  | with_reducible refine w_c ?_
  | with_reducible refine w_name ?_
  | with_reducible refine w_op ?_
  | with_reducible refine w_un ?_
  | with_reducible refine w_cons ?_
  | with_reducible refine w_nil ?_
  | with_reducible refine w_call ?_
  | with_reducible refine w_cb ?_
  | with_reducible refine w_ret ?_
  | with_reducible refine w_retN ?_
  | with_reducible refine w_ifS ?_
  | with_reducible refine w_test ?_
  | with_reducible refine w_B ?_
  | with_reducible refine w_exb ?_
  | with_reducible refine w_exi ?_
  | with_reducible refine w_next ?_
  | with_reducible refine w_drop ?_
  | with_reducible refine w_and ?_
  | with_reducible refine w_or ?_
  | with_reducible refine w_not ?_
  | with_reducible refine w_andV ?_
  | with_reducible refine w_orV ?_
  | with_reducible refine w_notV ?_
  | with_reducible refine w_if ?_
  | with_reducible refine w_chain ?_
  | with_reducible refine w_sub ?_
  | with_reducible refine w_tup ?_
  | with_reducible refine w_lst ?_
  | with_reducible refine w_sl ?_
  | with_reducible refine w_noPart ?_
  | with_reducible refine w_part ?_
  | with_reducible refine w_I0 ?_
  | ((with_reducible refine w_I ?c ?_); (case c => first | exact .inr (by decide) | exact .inl (by decide) | exact (show (0 : Int) < _ by omega) | exact cmul_l (by omega) (by omega) | exact cmul_r (by omega) (by omega) | exact And.intro (by omega) (by omega) | exact And.intro (by decide) (And.intro (by decide) (by decide))))
  | with_reducible refine w_U ?_
  | with_reducible refine w_eqI ?_
  | with_reducible refine w_neI ?_
  | with_reducible refine w_eqS ?_
  | with_reducible refine w_neS ?_
  | with_reducible refine w_eqB ?_
  | with_reducible refine w_inSign ?_
  | with_reducible refine w_ninSign ?_
  | with_reducible refine w_isBl ?_
  | with_reducible refine w_int1 ?_
  | with_reducible refine w_int1b ?_
  | with_reducible refine w_max2 ?_
  | with_reducible refine w_bm ?_
  | with_reducible refine w_lc ?_
  | with_reducible refine w_iList ?_
  | with_reducible refine w_iTup ?_
  | with_reducible refine w_iStr ?_
  | with_reducible refine w_exs ?_
  | with_reducible refine w_isN ?_
  | with_reducible refine w_notN ?_
  | ((with_reducible show tyV _ "str" (.str _) _ ∧ _); refine And.intro rfl ?_)
  | ((with_reducible show tyV _ "list" (.ref _) _ ∧ _); refine w_tyL (by walk_at "hp") ?_)
  | with_reducible refine w_min2 ?_
  | ((with_reducible show rIxL _ (.ref _) (.int _) _ _); refine w_ixL (by walk_at "sq") (by first | exact rfl | exact atI_nat (j := 0) rfl | exact atI_nat (j := 1) rfl | exact atI_nat (j := 2) rfl) ?_)
  | ((with_reducible show rIxT _ (.ref _) (.int _) _ _); refine w_ixT (by walk_at "sq") (by first | exact rfl | exact atI_nat (j := 0) rfl | exact atI_nat (j := 1) rfl | exact atI_nat (j := 2) rfl) ?_)
  | ((with_reducible show rSetL (.ref _) (.int _) _ _ _); refine w_setL (by walk_at "hp") (by exact rfl) ?_)
  | ((with_reducible show qLenSeq _ [.ref _] _ _); first | refine w_lenL (by walk_at "sq") ?_ | refine w_lenT (by walk_at "sq") ?_)
  | with_reducible refine w_nf ?_
  | with_reducible refine w_nt ?_
  | with_reducible refine iteT ?_
  | with_reducible refine iteF ?_
  | ((with_reducible refine w_len0 ?h ?_); (case h => exact sz (by simp))))
local macro_rules | `(tactic| walk_at "w") => `(tactic| repeat (walk_at "w1"))
local macro_rules | `(tactic| walk_at "if") => `(tactic| first
  | (with_reducible refine w_ite ?_ ?_) | (with_reducible refine w_iteN ?_ ?_) | (with_reducible refine w_iteb ?_ ?_))
/-- the same, new objects as heaps of their own -/
local macro_rules | `(tactic| walk_at "v1") => `(tactic| first
  | with_reducible refine w_tupV ?_
  | with_reducible refine w_lstV ?_
  | with_reducible refine w_jcons ?_
  | with_reducible refine w_jnil ?_
  | with_reducible refine w_fmt ?_
  | with_reducible refine w_js ?_
  | with_reducible refine w_zipM ?_
  | ((with_reducible refine w_dec1 (by decide) ?_))
  | ((with_reducible refine w_dec0 (by decide) ?_))
  | ((with_reducible show qJoin _ (.str _) [.ref _] _ _); first | refine w_joinL (by walk_at "sq") ?_ ?_ | refine w_joinT (by walk_at "sq") ?_ ?_)
  | with_reducible refine w_count ?_
  | ((with_reducible show rIn _ _ (.str _) (.ref _) _ _); first | refine w_inTb (b := true) (by walk_at "sq") rfl rfl (by decide +kernel) ?_ | refine w_inTb (b := false) (by walk_at "sq") rfl rfl (by decide +kernel) ?_ | refine w_inLb (b := true) (by walk_at "sq") rfl rfl (by decide +kernel) ?_ | refine w_inLb (b := false) (by walk_at "sq") rfl rfl (by decide +kernel) ?_)
  | walk_at "w1")
local macro_rules | `(tactic| walk_at "v") => `(tactic| repeat (walk_at "v1"))
local macro_rules | `(tactic| walk_at "dn") => `(tactic| first
  | assumption
  | (refine Dn.same ?_ (by assumption); walk_at "dn")
  | (refine Dn.kp ?_ (by assumption); walk_at "dn")
  | (refine Dn.any ?_; walk_at "dn"))
local macro_rules | `(tactic| walk_at "ln") => `(tactic| first
  | decide
  | omega
  | (simp only [List.length_append, List.length_map, List.length_cons, List.length_nil]; omega))
/-- the same, new objects without names, sums of texts, numbers as texts, append -/
local macro_rules | `(tactic| walk_at "z1") => `(tactic| first
  | ((with_reducible refine w_new ?_); intro _ _ _ _ _)
  | ((with_reducible show rAppend (.ref _) [_] _ _); refine w_appV (by walk_at "hp") (by walk_at "ln") ?_; intro _ _ _)
  | ((with_reducible show qAddS (.str _) (.str _) _ _); refine w_addS (sz (by simp only [Str.length_append]; omega)) ?_)
  | ((with_reducible show qStrInt [.int _] _ _); refine w_strInt (by omega) (by omega) ?_)
  | walk_at "v1")
local macro_rules | `(tactic| walk_at "z") => `(tactic| repeat (walk_at "z1"))
/-- statements alone, up to the first expression -/
local macro_rules | `(tactic| walk_at "s") => `(tactic| repeat (first
  | with_reducible refine w_seq ?_
  | with_reducible refine w_asg ?_
  | with_reducible refine w_name ?_
  | with_reducible refine w_next ?_
  | with_reducible refine w_c ?_
  | with_reducible refine w_ret ?_
  | with_reducible refine w_drop ?_
  | with_reducible refine w_ifS ?_
  | with_reducible refine w_test ?_))
/-- the same, and not into a test -/
local macro_rules | `(tactic| walk_at "b") => `(tactic| repeat (first
  | with_reducible refine w_seq ?_
  | with_reducible refine w_asg ?_
  | with_reducible refine w_name ?_
  | with_reducible refine w_next ?_
  | with_reducible refine w_c ?_
  | with_reducible refine w_ret ?_
  | with_reducible refine w_drop ?_))

abbrev v_WIDTH : V := .int 60
/-! ### the defs of the stream of draws -/
def spCell (K : PySem.W.Frag) : Sp := fun vs H Q _ => ∃ (a : Addr) (ns : List Int) (k : Int), vs = [.ref a, .int k] ∧ SqL K H a (ns.map V.int) ∧ 0 ≤ k ∧ ∀ z, Q (.int z) H
def spStream (K : PySem.W.Frag) : Sp := fun vs H Q _ => ∃ (c k : Int), vs = [.int c, .int k] ∧ ∀ p H', H p = none → Same H H' → Stm H' p → Q (.ref p) H'
def spNext (K : PySem.W.Frag) : Sp := fun vs H Q _ => ∃ (p : Addr) (n : Int), vs = [.ref p, .int n] ∧ Stm H p ∧ 0 < n ∧ n < 1073741824 ∧ ∀ v H', Kp p H H' → Stm H' p → 0 ≤ v → v < n → Q (.int v) H'
def spFlag (K : PySem.W.Frag) : Sp := fun vs H Q _ => ∃ (a b : Bool), vs = [.bl a, .bl b] ∧ Q (.bl (decide (a = b))) H
section
variable {K : PySem.W.Frag} {vs : List V} {H : Hp} {Q : VK} {E : XK}
/-- _law_cell: slots 0:script 1:k -/
def t__law_cell (K : PySem.W.Frag) : TS := (tSeq (tIfS (tTest (tOp qLt (tVar 1) (tCB (qLenSeq K) (tCons (tVar 0) tNil)))) (tRet (tOp (rIxL K) (tVar 0) (tVar 1))) tNext)
  (tRet (tC (.int 0))))
theorem l__law_cell (h : spCell K vs H Q E) : vs.length = 2 := by obtain ⟨a, ns, k, rfl, _⟩ := h; rfl
theorem r__law_cell (h : spCell K vs H Q E) : t__law_cell K { nx := fun _ H' => Q .non H', rt := Q } (start ["script", "k"] vs) H := by
  obtain ⟨a, ns, k, rfl, hS, h0, q⟩ := h
  unfold t__law_cell
  walk_at "w"
  refine w_ite (fun hc => ?_) (fun hc => ?_)
  · walk_at "w"
    rw [List.length_map] at hc
    have hk : k.toNat < ns.length := by omega
    refine w_ixL hS (atI_of (v := .int ns[k.toNat]) h0 ?_) (q _)
    rw [List.getElem?_map, List.getElem?_eq_getElem hk]
    rfl
  · walk_at "w"
    exact q _
/-- _law_stream: slots 0:cell 1:k 2:digits -/
def t__law_stream (K : PySem.W.Frag) : TS := (tSeq (tAsg (tC (.int 0)) (gName 2))
  (tSeq (tIfS (tTest (tOp qGe (tVar 0) (tOp qPow (tC (.int 10)) (tC (.int 18))))) (tAsg (tVar 0) (gName 2)) tNext)
  (tRet (tLst (tCons (tVar 2) (tCons (tOp qMod (tCB qInt1 (tCons (tOp qAdd (tOp qAdd (tOp qMul (tVar 0) (tC (.int 48271))) (tOp qMul (tVar 1) (tC (.int 69621)))) (tC (.int 77))) tNil)) (tC (.int 2147483647))) tNil))))))
theorem l__law_stream (h : spStream K vs H Q E) : vs.length = 2 := by obtain ⟨c, k, rfl, _⟩ := h; rfl
theorem r__law_stream (h : spStream K vs H Q E) : t__law_stream K { nx := fun _ H' => Q .non H', rt := Q } (start ["cell", "k", "digits"] vs) H := by
  obtain ⟨c, k, rfl, q⟩ := h
  unfold t__law_stream
  walk_at "w"
  refine w_ite (fun hc => ?_) (fun hc => ?_)
  · walk_at "w"
    intro p hp
    refine q p _ hp (Same.upd (Same.refl H) hp) ⟨_, _, upd_same, ?_, Int.emod_nonneg _ (by decide)⟩
    have e : (10 : Int) ^ (18 : Int).toNat = 1000000000000000000 := by decide
    omega
  · walk_at "w"
    intro p hp
    exact q p _ hp (Same.upd (Same.refl H) hp) ⟨_, _, upd_same, by decide, Int.emod_nonneg _ (by decide)⟩
/-- _law_next: slots 0:stream 1:size 2:drawn -/
def t__law_next (K : PySem.W.Frag) : TS := (tSeq (tIfS (tTest (tOp qGt (tOp (rIxL K) (tVar 0) (tC (.int 0))) (tC (.int 0)))) (tSeq (tAsg (tOp qMod (tCB qInt1 (tCons (tOp (rIxL K) (tVar 0) (tC (.int 0))) tNil)) (tVar 1)) (gName 2))
  (tSeq (tAsg (tOp qFdiv (tOp (rIxL K) (tVar 0) (tC (.int 0))) (tVar 1)) (gSub (tVar 0) (tC (.int 0)) rSetL))
  (tRet (tVar 2)))) tNext)
  (tSeq (tAsg (tOp qMod (tCB qInt1 (tCons (tOp qAdd (tOp qMul (tOp (rIxL K) (tVar 0) (tC (.int 1))) (tC (.int 48271))) (tC (.int 12820163))) tNil)) (tC (.int 2147483647))) (gSub (tVar 0) (tC (.int 1)) rSetL))
  (tRet (tOp qMod (tCB qInt1 (tCons (tOp qFdiv (tOp qMod (tCB qInt1 (tCons (tOp qAdd (tOp qMul (tOp (rIxL K) (tVar 0) (tC (.int 1))) (tC (.int 16807))) (tC (.int 5))) tNil)) (tC (.int 2147483399))) (tC (.int 3))) tNil)) (tVar 1)))))
theorem l__law_next (h : spNext K vs H Q E) : vs.length = 2 := by obtain ⟨c, k, rfl, _⟩ := h; rfl
theorem r__law_next (h : spNext K vs H Q E) : t__law_next K { nx := fun _ H' => Q .non H', rt := Q } (start ["stream", "size", "drawn"] vs) H := by
  obtain ⟨p, n, rfl, ⟨a, b, hp, h0, h1⟩, hn, hm, q⟩ := h
  unfold t__law_next
  walk_at "w"
  refine w_ite (fun hc => ?_) (fun hc => ?_)
  · walk_at "w"
    exact q _ _ (Kp.updp Kp.refl) ⟨_, _, upd_same, Int.ediv_nonneg h0 (by omega), h1⟩ (Int.emod_nonneg _ (Int.ne_of_gt hn)) (Int.emod_lt_of_pos _ hn)
  · walk_at "w"
    exact q _ _ (Kp.updp Kp.refl) ⟨_, _, upd_same, h0, Int.emod_nonneg _ (by decide)⟩ (Int.emod_nonneg _ (Int.ne_of_gt hn)) (Int.emod_lt_of_pos _ hn)
end

/-! ### draws inside expressions -/
section
variable {K : PySem.W.Frag} {σ : L2.St} {H : Hp} {p : Addr} {P : PyData → Prop} {R : List PyData → Prop} {ta : TA}
theorem evs_next {i : Nat} {n : Int} (hi : σ[i]? = some (some (.ref p))) (h0 : 0 < n) (h1 : n < 1073741824) : EvS p (tCall (spNext K) [] C8.E0 (tCons (tVar i) (tCons (tC (.int n)) tNil))) σ H (fun d => ∃ v : Int, d = .int v ∧ 0 ≤ v ∧ v < n) := fun H1 k s Q q =>
  ⟨.ref p, hi, p, n, rfl, s, h0, h1, fun v H2 k2 s2 a b => q (.int v) (.int v) H2 k2 s2 ⟨v, rfl, a, b⟩ (.int v)⟩
/-- (a, b, ..)[draw] -/
theorem evs_pickT {i : Nat} {n : Int} (ha : EvSs p ta σ H R) (hi : σ[i]? = some (some (.ref p))) (h0 : 0 < n) (h1 : n ≤ 1000) (hR : ∀ ds, R ds → (ds.length : Int) = n ∧ ∀ d ∈ ds, P d) :
    EvS p (tOp (rIxT K) (tTup ta) (tCall (spNext K) [] C8.E0 (tCons (tVar i) (tCons (tC (.int n)) tNil)))) σ H P := fun H1 k s Q q =>
  evs_tup (P := fun d => ∃ ds, d = .tuple ds ∧ R ds) ha (fun ds r => ⟨by have := (hR ds r).1; omega, ds, rfl, r⟩) H1 k s _ fun v d H2 k2 s2 hd dn => by
    obtain ⟨ds, rfl, r⟩ := hd
    cases dn with
    | @tup a xs _ hap h hs =>
      refine evs_next hi h0 (by omega) H2 (k.trans k2) s2 _ fun v d H3 k3 s3 hv dv => ?_
      obtain ⟨j, rfl, j0, j1⟩ := hv
      cases dv
      have hl := hs.len
      have hn := (hR ds r).1
      have hj : j.toNat < xs.length := by omega
      obtain ⟨d, hd, dn⟩ := hs.get (List.getElem?_eq_getElem hj)
      refine w_ixT (SqT.of (k3 _ _ hap h)) (atI_of j0 (List.getElem?_eq_getElem hj)) (q _ d H3 (k2.trans k3) s3 ((hR ds r).2 d (List.mem_of_getElem? hd)) (dn.kp k3))
/-- [a, b, ..][draw] -/
theorem evs_pickL {i : Nat} {n : Int} (ha : EvSs p ta σ H R) (hi : σ[i]? = some (some (.ref p))) (h0 : 0 < n) (h1 : n ≤ 1000) (hR : ∀ ds, R ds → (ds.length : Int) = n ∧ ∀ d ∈ ds, P d) :
    EvS p (tOp (rIxL K) (tLst ta) (tCall (spNext K) [] C8.E0 (tCons (tVar i) (tCons (tC (.int n)) tNil)))) σ H P := fun H1 k s Q q =>
  evs_lst (P := fun d => ∃ ds, d = .list ds ∧ R ds) ha (fun ds r => ⟨by have := (hR ds r).1; omega, ds, rfl, r⟩) H1 k s _ fun v d H2 k2 s2 hd dn => by
    obtain ⟨ds, rfl, r⟩ := hd
    cases dn with
    | @lst a xs _ hap h hs =>
      refine evs_next hi h0 (by omega) H2 (k.trans k2) s2 _ fun v d H3 k3 s3 hv dv => ?_
      obtain ⟨j, rfl, j0, j1⟩ := hv
      cases dv
      have hl := hs.len
      have hn := (hR ds r).1
      have hj : j.toNat < xs.length := by omega
      obtain ⟨d, hd, dn⟩ := hs.get (List.getElem?_eq_getElem hj)
      refine w_ixL (SqL.of (k3 _ _ hap h)) (atI_of j0 (List.getElem?_eq_getElem hj)) (q _ d H3 (k2.trans k3) s3 ((hR ds r).2 d (List.mem_of_getElem? hd)) (dn.kp k3))
/-- all of the parts, and how many -/
def Are (P : PyData → Prop) (n : Nat) (ds : List PyData) : Prop := ds.length = n ∧ ∀ d ∈ ds, P d
theorem are_nil : EvSs p tNil σ H (Are P 0) := evss_nil ⟨rfl, fun _ h => nomatch h⟩
theorem are_cons {te : TE} {n : Nat} (h : EvS p te σ H P) (hs : EvSs p ta σ H (Are P n)) : EvSs p (tCons te ta) σ H (Are P (n + 1)) :=
  evss_cons h hs fun d r hd hr => ⟨congrArg (· + 1) hr.1, fun x hx => (List.mem_cons.mp hx).elim (fun e => e ▸ hd) (hr.2 x)⟩
theorem are_pick {n : Nat} {m : Int} (e : (n : Int) = m) : ∀ ds, Are P n ds → (ds.length : Int) = m ∧ ∀ d ∈ ds, P d := fun ds h => ⟨by rw [h.1]; exact e, h.2⟩
/-- a number drawn -/
abbrev isInt (lo hi : Int) : PyData → Prop := fun d => ∃ v : Int, d = .int v ∧ lo ≤ v ∧ v ≤ hi
theorem evs_intIn {i lo hi : Int} (h1 : lo ≤ i) (h2 : i ≤ hi) : EvS p (tC (.int i)) σ H (isInt lo hi) := evs_int ⟨i, rfl, h1, h2⟩
theorem evs_nextIn {i : Nat} {n lo hi : Int} (hi' : σ[i]? = some (some (.ref p))) (h0 : 0 < n) (h1 : n < 1073741824) (hl : lo ≤ 0) (hh : n - 1 ≤ hi) : EvS p (tCall (spNext K) [] C8.E0 (tCons (tVar i) (tCons (tC (.int n)) tNil))) σ H (isInt lo hi) :=
  (evs_next hi' h0 h1).weak fun d ⟨v, e, a, b⟩ => ⟨v, e, by omega, by omega⟩
/-- 'abc'[draw] -/
theorem w_pickS {i : Nat} {n : Int} {z : Str} {Q : VK} (hs : Stm H p) (hi : σ[i]? = some (some (.ref p))) (h0 : 0 < n) (hz : (z.length : Int) = n) (h1 : n ≤ 1000) (q : ∀ c H2, c ∈ z.cps.toList → Kp p H H2 → Stm H2 p → Q (.str ⟨#[c]⟩) H2) :
    (tOp rIxS (tC (.str z)) (tCall (spNext K) [] C8.E0 (tCons (tVar i) (tCons (tC (.int n)) tNil)))) σ H Q := by
  refine (evs_next (K := K) (H := H) hi h0 (by omega)).use hs fun v d H2 k2 s2 hv dv => ?_
  obtain ⟨j, rfl, j0, j1⟩ := hv
  cases dv
  have hl : z.length = z.cps.toList.length := by simp [Str.length]
  have hj : j.toNat < z.cps.toList.length := by omega
  exact w_ixS (Nat.le_trans (show z.length ≤ 1000 by omega) (by decide)) (atI_of j0 (List.getElem?_eq_getElem hj)) (q _ H2 (List.getElem_mem hj) k2 s2)
theorem evss_eq {te : TE} {d : PyData} {r : List PyData} (h : EvS p te σ H (· = d)) (hs : EvSs p ta σ H (· = r)) : EvSs p (tCons te ta) σ H (· = d :: r) := evss_cons h hs fun _ _ a b => by rw [a, b]
theorem evss_eq0 : EvSs p tNil σ H (· = []) := evss_nil rfl
theorem evs_tupE {ds : List PyData} (h : EvSs p ta σ H (· = ds)) (hp : P (.tuple ds)) (hl : ds.length ≤ 100000 := by simp) : EvS p (tTup ta) σ H P := evs_tup h fun _ e => e ▸ ⟨hl, hp⟩
theorem evs_lstE {ds : List PyData} (h : EvSs p ta σ H (· = ds)) (hp : P (.list ds)) (hl : ds.length ≤ 100000 := by simp) : EvS p (tLst ta) σ H P := evs_lst h fun _ e => e ▸ ⟨hl, hp⟩
end

/-! ### names and things -/
def LOW : Str := "abcdefghijklmnopqrstuvwxyz"
def DIG : Str := "0123456789"
/-- a name's sgns -/
def nameS (z : Str) : Bool := decide (1 ≤ z.length ∧ z.length ≤ 12) && (match z.cps.toList with | [] => false | c :: _ => decide (c ∈ LOW.cps.toList)) && z.cps.toList.all fun c => decide (c ∈ LOW.cps.toList) || decide (c ∈ DIG.cps.toList)
def isNameD : PyData → Bool
  | .str z => nameS z
  | _ => false
def isPairD : PyData → Bool
  | .tuple ds => decide (ds.length = 2)
  | _ => false
def isRoomD : PyData → Bool
  | .tuple [a, b] => isNameD a && isNameD b
  | _ => false
/-- a text on the way is no longer than this -/
def smallB : PyData → Bool
  | .str z => decide (z.length ≤ 1000)
  | .list ds => decide (ds.length ≤ 1000)
  | .tuple ds => decide (ds.length ≤ 1000)
  | _ => true
abbrev small (d : PyData) : Prop := smallB d = true
theorem small.str {z : Str} (h : small (.str z)) : z.length ≤ 1000 := of_decide_eq_true h
def spName (K : PySem.W.Frag) : Sp := fun vs H Q _ => ∃ v d, vs = [v] ∧ Dn Any H v d ∧ small d ∧ ∀ H', Same H H' → Q (.bl (isNameD d)) H'
def spLawName (K : PySem.W.Frag) : Sp := fun vs H Q _ => ∃ v d, vs = [v] ∧ Dn Any H v d ∧ small d ∧ Q (.bl (isNameD d)) H
def spPair (K : PySem.W.Frag) : Sp := fun vs H Q _ => ∃ v d, vs = [v] ∧ Dn Any H v d ∧ Q (.bl (isPairD d)) H
def allSmallB : PyData → Bool
  | .tuple ds => ds.all smallB
  | _ => true
abbrev allSmall (d : PyData) : Prop := allSmallB d = true
def spRoom (K : PySem.W.Frag) : Sp := fun vs H Q _ => ∃ v d, vs = [v] ∧ Dn Any H v d ∧ allSmall d ∧ ∀ H', Same H H' → Q (.bl (isRoomD d)) H'
section
variable {K : PySem.W.Frag} {vs : List V} {H : Hp} {Q : VK} {E : XK}
theorem str_len (z : Str) : z.length = z.cps.toList.length := by simp [Str.length]
theorem atI_zero {z : Str} {c : Nat} {r : List Nat} (e : z.cps.toList = c :: r) : atI z.cps.toList 0 = some c := atI_of (by decide) (by rw [e]; rfl)
theorem nameS_iff {z : Str} (h : 1 ≤ z.length ∧ z.length ≤ 12) : nameS z = true ↔ ∀ (k c : Nat), z.cps.toList[k]? = some c → c ∈ LOW.cps.toList ∨ (k ≠ 0 ∧ c ∈ DIG.cps.toList) := by
  unfold nameS
  rw [decide_eq_true h, Bool.true_and]
  have hl : 1 ≤ z.cps.toList.length := by
    rw [← str_len]
    exact h.1
  generalize z.cps.toList = l at *
  cases l with
  | nil => exact absurd hl (by decide)
  | cons c r =>
    rw [Bool.and_eq_true, decide_eq_true_eq, List.all_eq_true]
    refine ⟨fun ⟨h1, h2⟩ k d e => ?_, fun g => ⟨?_, fun d hd => ?_⟩⟩
    · have hm := h2 d (List.mem_of_getElem? e)
      rw [Bool.or_eq_true, decide_eq_true_eq, decide_eq_true_eq] at hm
      cases k with
      | zero =>
        have e' := Option.some.inj e
        rw [← e']
        exact .inl h1
      | succ k =>
        rcases hm with hm | hm
        · exact .inl hm
        · exact .inr ⟨Nat.succ_ne_zero k, hm⟩
    · rcases g 0 c rfl with g | g
      · exact g
      · exact (g.1 rfl).elim
    · obtain ⟨k, e⟩ := List.getElem?_of_mem hd
      rw [Bool.or_eq_true, decide_eq_true_eq, decide_eq_true_eq]
      rcases g k d e with g | g
      · exact .inl g
      · exact .inr g.2
end

/-! ### numbers, titles, texts, refs -/
def isNumD : PyData → Bool
  | .int i => decide (1 ≤ i ∧ i ≤ 1000000000000000000)
  | _ => false
/-- from the space to ~ -/
def prB (c : Nat) : Bool := decide (32 ≤ c) && decide (c ≤ 126)
def titleS (z : Str) : Bool := decide (z.length ≤ 60) && z.cps.toList.all prB
def textS (z : Str) : Bool := decide (1 ≤ z.length ∧ z.length ≤ 400) && z.cps.toList.all fun c => decide (c = 10) || prB c
def isTitleD : PyData → Bool
  | .str z => titleS z
  | _ => false
def isTextD : PyData → Bool
  | .str z => textS z
  | _ => false
def isRefD : PyData → Bool
  | .tuple [a, b] => isNameD a && isNumD b
  | _ => false
/-- asked of any thing: yes or no, nothing changed -/
def spAsk0 (f : PyData → Bool) : Sp := fun vs H Q _ => ∃ v d, vs = [v] ∧ Dn Any H v d ∧ small d ∧ Q (.bl (f d)) H
/-- .. with new objects on the way -/
def spAsk (f : PyData → Bool) : Sp := fun vs H Q _ => ∃ v d, vs = [v] ∧ Dn Any H v d ∧ small d ∧ allSmall d ∧ ∀ H', Same H H' → Q (.bl (f d)) H'
def spNumber (K : PySem.W.Frag) : Sp := spAsk0 isNumD
def spLawNumber (K : PySem.W.Frag) : Sp := spAsk0 isNumD
def spTitle (K : PySem.W.Frag) : Sp := spAsk isTitleD
def spText (K : PySem.W.Frag) : Sp := spAsk isTextD
def spRef (K : PySem.W.Frag) : Sp := spAsk isRefD
def spLawLine (K : PySem.W.Frag) : Sp := spAsk isTitleD
def spLawText (K : PySem.W.Frag) : Sp := spAsk isTextD
def spLawRef (K : PySem.W.Frag) : Sp := spAsk isRefD
def spPrinted (K : PySem.W.Frag) : Sp := fun vs H Q _ => ∃ c : Nat, vs = [.str ⟨#[c]⟩] ∧ Q (.bl (prB c)) H
section
variable {K : PySem.W.Frag} {vs : List V} {H : Hp} {Q : VK} {E : XK}
theorem ask0_len {f : PyData → Bool} (h : spAsk0 f vs H Q E) : vs.length = 1 := by obtain ⟨v, d, rfl, _⟩ := h; rfl
theorem ask_len {f : PyData → Bool} (h : spAsk f vs H Q E) : vs.length = 1 := by obtain ⟨v, d, rfl, _⟩ := h; rfl
theorem lt1 (c d : Nat) : decide ([c] < [d]) = decide (c < d) := by
  rw [decide_eq_decide, List.cons_lt_cons_iff]
  exact ⟨fun h => h.elim id fun h => absurd h.2 (List.not_lt_nil _), .inl⟩
theorem code_space : (Str.ofString " ").cps.toList = [32] := by decide
theorem code_tilde : (Str.ofString "~").cps.toList = [126] := by decide
theorem code_one (c : Nat) : (⟨#[c]⟩ : Str).cps.toList = [c] := rfl
theorem not_lt1 (c d : Nat) : (!decide ([c] < [d])) = decide (d ≤ c) := by
  rw [lt1]
  by_cases h : c < d
  · rw [decide_eq_true h, decide_eq_false (by omega)]; rfl
  · rw [decide_eq_false h, decide_eq_true (by omega)]; rfl
theorem w_leS {i j : Str} (q : Q (.bl (!decide (j.cps.toList < i.cps.toList))) H) : qLeS (.str i) (.str j) H Q := ⟨i, j, rfl, rfl, q⟩
theorem w_ltS {i j : Str} (q : Q (.bl (decide (i.cps.toList < j.cps.toList))) H) : qLtS (.str i) (.str j) H Q := ⟨i, j, rfl, rfl, q⟩
theorem w_gtS {i j : Str} (q : Q (.bl (decide (j.cps.toList < i.cps.toList))) H) : qGtS (.str i) (.str j) H Q := ⟨i, j, rfl, rfl, q⟩
/-- a data's text, number .. by its type -/
theorem of_str {d : PyData} (h : tyN d = "str") : ∃ z, d = .str z := by
  cases d <;> first | exact ⟨_, rfl⟩ | (simp only [tyN] at h; exact absurd h (by decide))
theorem of_int {d : PyData} (h : tyN d = "int") : ∃ z, d = .int z := by
  cases d <;> first | exact ⟨_, rfl⟩ | (simp only [tyN] at h; exact absurd h (by decide))
theorem of_bool {d : PyData} (h : tyN d = "bool") : ∃ z, d = .bool z := by
  cases d <;> first | exact ⟨_, rfl⟩ | (simp only [tyN] at h; exact absurd h (by decide))
theorem of_tup {d : PyData} (h : tyN d = "tuple") : ∃ z, d = .tuple z := by
  cases d <;> first | exact ⟨_, rfl⟩ | (simp only [tyN] at h; exact absurd h (by decide))
theorem no_str {d : PyData} (f : PyData → Bool) (hf : ∀ d, (∀ z, d ≠ .str z) → f d = false) (h : ¬ tyN d = "str") : f d = false := hf d fun z e => h (by rw [e]; rfl)
theorem title_no : ∀ d, (∀ z, d ≠ .str z) → isTitleD d = false := fun d h => by
  cases d <;> first | rfl | exact (h _ rfl).elim
theorem text_no : ∀ d, (∀ z, d ≠ .str z) → isTextD d = false := fun d h => by
  cases d <;> first | rfl | exact (h _ rfl).elim
theorem w_lenF {a : Addr} {xs : List V} (h : H a = some (.lst xs)) (q : Q (.int xs.length) H) : qLenSeq K [.ref a] H Q := w_lenL (SqL.of h) q
theorem filt_len (l : List Nat) (p : Nat → Bool) : (((l.map fun c => V.str ⟨#[c]⟩).filter fun x => match x with | .str y => p (y.cps.getD 0 0) | _ => false).length = 0) ↔ ∀ c ∈ l, p c = false := by
  rw [List.filter_map, List.length_map]
  rw [List.length_eq_zero_iff, List.filter_eq_nil_iff]
  exact ⟨fun h c hc => by
    have := h c hc
    simpa using this, fun h c hc => by
    have := h c hc
    simpa using this⟩
end

/-- things that the laws draw: short, no rooms, their parts short -/
def goodT (d : PyData) : Prop := small d ∧ allSmall d ∧ isRoomD d = false
instance (d : PyData) : Decidable (goodT d) := by unfold goodT; infer_instance
def spOdd (K : PySem.W.Frag) : Sp := fun vs H Q _ => ∃ p, vs = [.ref p] ∧ Stm H p ∧ ∀ v d H', Kp p H H' → Stm H' p → goodT d → Dn (Off p) H' v d → Q v H'
def spThing (K : PySem.W.Frag) : Sp := spOdd K
def spWord (K : PySem.W.Frag) : Sp := fun vs H Q _ => ∃ p, vs = [.ref p] ∧ Stm H p ∧ ∀ z H', Kp p H H' → Stm H' p → z.length ≤ 100 → Q (.str z) H'
section
variable {K : PySem.W.Frag} {vs : List V} {H : Hp} {Q : VK} {E : XK}
theorem cutS_length (z : Str) (lo hi : Option Int) : (cutS z lo hi).length ≤ z.length := by
  have h : (cutS z lo hi).cps.toList = ((z.cps.toList.drop (HT.sIx z.length 0 lo)).take (HT.sIx z.length z.length hi - HT.sIx z.length 0 lo)) := rfl
  rw [str_len, str_len, h, List.length_take, List.length_drop]
  omega
theorem cutS_to {z : Str} {i : Int} (h : 0 ≤ i) : (cutS z none (some i)).cps.toList = z.cps.toList.take i.toNat := by
  obtain ⟨j, rfl⟩ := Int.eq_ofNat_of_zero_le h
  show (z.cps.toList.drop (HT.sIx z.length 0 none)).take (HT.sIx z.length z.length (some (j : Int)) - HT.sIx z.length 0 none) = _
  rw [HT.sIx_none, HT.sIx_nat, Nat.sub_zero, List.drop_zero, Int.toNat_natCast, str_len]
  by_cases hj : j ≤ z.cps.toList.length
  · rw [Nat.min_eq_left hj]
  · rw [Nat.min_eq_right (by omega), List.take_of_length_le (Nat.le_refl _), List.take_of_length_le (by omega)]
theorem cutS_from {z : Str} {i : Int} (h : 0 ≤ i) : (cutS z (some i) none).cps.toList = z.cps.toList.drop i.toNat := by
  obtain ⟨j, rfl⟩ := Int.eq_ofNat_of_zero_le h
  show (z.cps.toList.drop (HT.sIx z.length 0 (some (j : Int)))).take (HT.sIx z.length z.length none - HT.sIx z.length 0 (some (j : Int))) = _
  rw [HT.sIx_none, HT.sIx_nat, Int.toNat_natCast, str_len]
  by_cases hj : j ≤ z.cps.toList.length
  · rw [Nat.min_eq_left hj]
    exact List.take_of_length_le (by rw [List.length_drop]; omega)
  · rw [Nat.min_eq_right (by omega), List.drop_of_length_le (Nat.le_refl _), List.drop_of_length_le (by omega), List.take_nil]
theorem cutS_to_len {z : Str} {i : Int} (h : 0 ≤ i) : ((cutS z none (some i)).length : Int) ≤ i := by
  rw [str_len, cutS_to h, List.length_take]
  omega
theorem cutS_from_len {z : Str} {i : Int} (h : 0 ≤ i) : (cutS z (some i) none).length = z.length - i.toNat := by
  rw [str_len, cutS_from h, List.length_drop, str_len]
end

/-! ### numbers and lines that are drawn -/
def spDrawNumber (K : PySem.W.Frag) : Sp := fun vs H Q _ => ∃ p, vs = [.ref p] ∧ Stm H p ∧ ∀ n H', Kp p H H' → Stm H' p → 1 ≤ n → n ≤ 1000000000000000000 → Q (.int n) H'
/-- printed, and no percent sign -/
def lineC (c : Nat) : Bool := prB c && !decide (c = 37)
def spDrawLine (K : PySem.W.Frag) : Sp := fun vs H Q _ => ∃ (p : Addr) (n : Int), vs = [.ref p, .int n] ∧ Stm H p ∧ 0 ≤ n ∧ n ≤ 1000 ∧ ∀ z H', Kp p H H' → Stm H' p → (z.length : Int) = n → z.cps.toList.all lineC = true → Q (.str z) H'
section
variable {K : PySem.W.Frag} {vs : List V} {H : Hp} {Q : VK} {E : XK}
theorem e18 : (10 : Int) ^ (18 : Int).toNat = 1000000000000000000 := by decide
theorem e9 : (10 : Int) ^ (9 : Int).toNat = 1000000000 := by decide
theorem tl_append (a b : Str) : (a ++ b).cps.toList = a.cps.toList ++ b.cps.toList := TL.tl_append a b
end

/-! ### names, titles, texts that are drawn -/
def spDrawName (K : PySem.W.Frag) : Sp := fun vs H Q _ => ∃ p, vs = [.ref p] ∧ Stm H p ∧ ∀ z H', Kp p H H' → Stm H' p → nameS z = true → Q (.str z) H'
/-- by ascending signs, none twice -/
def Asc (ys : List Str) : Prop := ys.Pairwise fun a b => a.cps.toList < b.cps.toList
def spDrawNames (K : PySem.W.Frag) : Sp := fun vs H Q _ => ∃ (p : Addr) (n : Int), vs = [.ref p, .int n] ∧ Stm H p ∧ 0 ≤ n ∧ n ≤ 15 ∧ ∀ a ys H', H a = none → Kp p H H' → Stm H' p → H' a = some (.lst (ys.map V.str)) → (ys.length : Int) ≤ n → (∀ y ∈ ys, nameS y = true) → Asc ys → Q (.ref a) H'
def spDrawTitle (K : PySem.W.Frag) : Sp := fun vs H Q _ => ∃ p, vs = [.ref p] ∧ Stm H p ∧ ∀ z H', Kp p H H' → Stm H' p → z.length ≤ 60 → z.cps.toList.all lineC = true → Q (.str z) H'
def spDrawText (K : PySem.W.Frag) : Sp := fun vs H Q _ => ∃ p, vs = [.ref p] ∧ Stm H p ∧ ∀ z H', Kp p H H' → Stm H' p → 1 ≤ z.length → z.length ≤ 400 → (z.cps.toList.all fun c => decide (c = 10) || lineC c) = true → Q (.str z) H'
section
variable {K : PySem.W.Frag} {vs : List V} {H : Hp} {Q : VK} {E : XK}
abbrev isNm : PyData → Prop := fun d => ∃ z, d = .str z ∧ nameS z = true
theorem lt_tri : ∀ a b : List Nat, a < b ∨ a = b ∨ b < a
  | [], [] => .inr (.inl rfl)
  | [], _ :: _ => .inl (List.nil_lt_cons _ _)
  | _ :: _, [] => .inr (.inr (List.nil_lt_cons _ _))
  | x :: a, y :: b => by
    rw [List.cons_lt_cons_iff, List.cons_lt_cons_iff]
    rcases Nat.lt_trichotomy x y with h | h | h
    · exact .inl (.inl h)
    · subst h
      rcases lt_tri a b with h | h | h
      · exact .inl (.inr ⟨rfl, h⟩)
      · exact .inr (.inl (by rw [h]))
      · exact .inr (.inr (.inr ⟨rfl, h⟩))
    · exact .inr (.inr (.inl h))
theorem lt_ltCps : ∀ a b : List Nat, Spec.ltCps a b = decide (a < b)
  | [], [] => rfl
  | [], _ :: _ => rfl
  | _ :: _, [] => rfl
  | x :: a, y :: b => by
    show (decide (x < y) || ((x == y) && Spec.ltCps a b)) = _
    rw [lt_ltCps a b, Bool.eq_iff_iff]
    simp only [Bool.or_eq_true, decide_eq_true_eq, Bool.and_eq_true, beq_iff_eq, List.cons_lt_cons_iff]
theorem asc_of_rising : ∀ (ys : List Str) (x : Str), risingS x ys = true → (x :: ys).Nodup → Asc (x :: ys)
  | [], x, _, _ => List.pairwise_singleton _ _
  | y :: r, x, h, nd => by
    have h' : (!Spec.ltCps y.cps.toList x.cps.toList && risingS y r) = true := h
    rw [Bool.and_eq_true, Bool.not_eq_true', lt_ltCps, decide_eq_false_iff_not] at h'
    have nd' := List.nodup_cons.mp nd
    have ih := asc_of_rising r y h'.2 nd'.2
    have xy : x.cps.toList < y.cps.toList := by
      rcases lt_tri x.cps.toList y.cps.toList with g | g | g
      · exact g
      · exact (nd'.1 (by
          have e : x = y := TL.ext_tl g
          rw [e]
          exact List.mem_cons_self ..)).elim
      · exact (h'.1 g).elim
    refine List.pairwise_cons.mpr ⟨fun z hz => ?_, ih⟩
    rcases List.mem_cons.mp hz with rfl | hz
    · exact xy
    · exact List.lt_trans xy ((List.pairwise_cons.mp ih).1 z hz)
theorem asc_of_sorted {ys : List Str} (h : sortedS ys = true) (nd : ys.Nodup) : Asc ys := by
  cases ys with
  | nil => exact List.Pairwise.nil
  | cons x r => exact asc_of_rising r x h nd
theorem nameS_of {z : Str} {c : Nat} {r : List Nat} (e : z.cps.toList = c :: r) (hl : z.length ≤ 12) (h1 : c ∈ LOW.cps.toList) (h2 : (z.cps.toList.all fun c => decide (c ∈ LOW.cps.toList) || decide (c ∈ DIG.cps.toList)) = true) : nameS z = true := by
  have hp : 1 ≤ z.length := by rw [str_len, e]; exact Nat.succ_le_succ (Nat.zero_le _)
  unfold nameS
  rw [decide_eq_true (show 1 ≤ z.length ∧ z.length ≤ 12 from ⟨hp, hl⟩), h2, e, Bool.true_and, Bool.and_true]
  exact decide_eq_true h1
end

/-! ### bodies -/
inductive Bd where
  | found (t : Str) (ms : List Str) | say (t : Str) | reply (a : Str) (n : Int) (t : Str) | edit (a : Str) (n : Int) (t : Str) | recall (a : Str) (n : Int) | mark (a : Str) (n : Int) (w : Str)
  | title (t : Str) | add (w : Str) | cut (w : Str) | hand (w : Str) | seen
def refD (a : Str) (n : Int) : PyData := .tuple [.str a, .int n]
def Bd.toD : Bd → PyData
  | .found t ms => .tuple [.str "found", .str t, .tuple (ms.map .str)]
  | .say t => .tuple [.str "say", .str t]
  | .reply a n t => .tuple [.str "reply", refD a n, .str t]
  | .edit a n t => .tuple [.str "edit", refD a n, .str t]
  | .recall a n => .tuple [.str "recall", refD a n]
  | .mark a n w => .tuple [.str "mark", refD a n, .str w]
  | .title t => .tuple [.str "title", .str t]
  | .add w => .tuple [.str "add", .str w]
  | .cut w => .tuple [.str "cut", .str w]
  | .hand w => .tuple [.str "hand", .str w]
  | .seen => .tuple [.str "seen"]
def Tx (t : Str) : Prop := 1 ≤ t.length ∧ t.length ≤ 400 ∧ (t.cps.toList.all fun c => decide (c = 10) || lineC c) = true
def Ti (t : Str) : Prop := t.length ≤ 60 ∧ t.cps.toList.all lineC = true
def Nm (w : Str) : Prop := nameS w = true
def Nu (n : Int) : Prop := 1 ≤ n ∧ n ≤ 1000000000000000000
def Bd.good (author : Str) : Bd → Prop
  | .found t ms => Ti t ∧ ms.length ≤ 15 ∧ (∀ m ∈ ms, Nm m) ∧ Asc ms ∧ author ∉ ms
  | .say t => Tx t
  | .reply a n t => Nm a ∧ Nu n ∧ Tx t
  | .edit a n t => Nm a ∧ Nu n ∧ Tx t
  | .recall a n => Nm a ∧ Nu n
  | .mark a n w => Nm a ∧ Nu n ∧ Nm w
  | .title t => Ti t
  | .add w => Nm w
  | .cut w => Nm w
  | .hand w => Nm w
  | .seen => True
def spDrawBody (K : PySem.W.Frag) : Sp := fun vs H Q _ => ∃ (p : Addr) (author : Str), vs = [.ref p, .str author] ∧ Stm H p ∧ ∀ v b H', Kp p H H' → Stm H' p → Bd.good author b → Dn (Off p) H' v b.toD → Q v H'
section
variable {K : PySem.W.Frag} {vs : List V} {H : Hp} {Q : VK} {E : XK} {σ : L2.St} {p : Addr}
theorem evss1 {te : TE} {A : PyData → Prop} {R : List PyData → Prop} (h : EvS p te σ H A) (k : ∀ a, A a → R [a]) : EvSs p (tCons te tNil) σ H R := evss_cons h (R := (· = [])) (evss_nil rfl) fun a r ha hr => hr ▸ k a ha
theorem evss2 {te te2 : TE} {A B : PyData → Prop} {R : List PyData → Prop} (h : EvS p te σ H A) (h2 : EvS p te2 σ H B) (k : ∀ a b, A a → B b → R [a, b]) : EvSs p (tCons te (tCons te2 tNil)) σ H R :=
  evss_cons h (R := fun r => ∃ b, r = [b] ∧ B b) (evss1 h2 fun b hb => ⟨b, rfl, hb⟩) fun a r ha ⟨b, e, hb⟩ => e ▸ k a b ha hb
theorem evss3 {te te2 te3 : TE} {A B C : PyData → Prop} {R : List PyData → Prop} (h : EvS p te σ H A) (h2 : EvS p te2 σ H B) (h3 : EvS p te3 σ H C) (k : ∀ a b c, A a → B b → C c → R [a, b, c]) : EvSs p (tCons te (tCons te2 (tCons te3 tNil))) σ H R :=
  evss_cons h (R := fun r => ∃ b c, r = [b, c] ∧ B b ∧ C c) (evss2 h2 h3 fun b c hb hc => ⟨b, c, rfl, hb, hc⟩) fun a r ha ⟨b, c, e, hb, hc⟩ => e ▸ k a b c ha hb hc
abbrev isTx : PyData → Prop := fun d => ∃ t, d = .str t ∧ Tx t
abbrev isTi : PyData → Prop := fun d => ∃ t, d = .str t ∧ Ti t
abbrev isNu : PyData → Prop := fun d => ∃ n, d = .int n ∧ Nu n
theorem evs_drawText {i : Nat} (hi : σ[i]? = some (some (.ref p))) : EvS p (tCall (spDrawText K) [] C8.E0 (tCons (tVar i) tNil)) σ H isTx := fun H1 k s Q q => ⟨.ref p, hi, p, rfl, s, fun z H2 k2 s2 a b c => q _ _ H2 k2 s2 ⟨z, rfl, a, b, c⟩ (.str z)⟩
theorem evs_drawTitle {i : Nat} (hi : σ[i]? = some (some (.ref p))) : EvS p (tCall (spDrawTitle K) [] C8.E0 (tCons (tVar i) tNil)) σ H isTi := fun H1 k s Q q => ⟨.ref p, hi, p, rfl, s, fun z H2 k2 s2 a b => q _ _ H2 k2 s2 ⟨z, rfl, a, b⟩ (.str z)⟩
theorem evs_drawName {i : Nat} (hi : σ[i]? = some (some (.ref p))) : EvS p (tCall (spDrawName K) [] C8.E0 (tCons (tVar i) tNil)) σ H isNm := fun H1 k s Q q => ⟨.ref p, hi, p, rfl, s, fun z H2 k2 s2 a => q _ _ H2 k2 s2 ⟨z, rfl, a⟩ (.str z)⟩
theorem evs_drawNumber {i : Nat} (hi : σ[i]? = some (some (.ref p))) : EvS p (tCall (spDrawNumber K) [] C8.E0 (tCons (tVar i) tNil)) σ H isNu := fun H1 k s Q q => ⟨.ref p, hi, p, rfl, s, fun z H2 k2 s2 a b => q _ _ H2 k2 s2 ⟨z, rfl, a, b⟩ (.int z)⟩
/-- (a, b, ..)[i], i a number that is reckoned -/
theorem evs_ixT {ta : TA} {ti : TE} {j : Int} {P : PyData → Prop} {R : List PyData → Prop} (ha : EvSs p ta σ H R) (hi : ∀ H1 (Q : VK), Q (.int j) H1 → ti σ H1 Q) (j0 : 0 ≤ j) (hl : ∀ ds, R ds → ds.length ≤ 1000) (hR : ∀ ds, R ds → ∃ d, ds[j.toNat]? = some d ∧ P d) :
    EvS p (tOp (rIxT K) (tTup ta) ti) σ H P := fun H1 k s Q q =>
  evs_tup (P := fun d => ∃ ds, d = .tuple ds ∧ R ds) ha (fun ds r => ⟨by have := hl ds r; omega, ds, rfl, r⟩) H1 k s _ fun v d H2 k2 s2 hd dn => by
    obtain ⟨ds, rfl, r⟩ := hd
    cases dn with
    | @tup a xs _ hap h hs =>
      refine hi H2 _ ?_
      obtain ⟨d, hd, hP⟩ := hR ds r
      have hlen := hs.len
      have hj : j.toNat < xs.length := by
        have := (List.getElem?_eq_some_iff.mp hd).1
        omega
      obtain ⟨d', hd', dn⟩ := hs.get (List.getElem?_eq_getElem hj)
      rw [hd] at hd'
      cases hd'
      exact w_ixT (SqT.of h) (atI_of j0 (List.getElem?_eq_getElem hj)) (q _ d H2 k2 s2 hP dn)
end

/-! ### == of data -/
mutual
def noDict : PyData → Bool
  | .dict _ => false
  | .list ds => noDicts ds
  | .tuple ds => noDicts ds
  | _ => true
def noDicts : List PyData → Bool
  | [] => true
  | d :: ds => noDict d && noDicts ds
end
section
variable {K : PySem.W.Frag} {ok : Addr → Prop} {H : Hp} {Q : VK}
mutual
theorem dn_dp {v : V} {d : PyData} (n : noDict d = true) : Dn ok H v d → Dp K H v d
  | .non => .non
  | .bl b => .bl b
  | .int i => .int i
  | .str x => .str x
  | .lst _ h hs => .lst (SqL.of h) (dnall_dp n hs)
  | .tup _ h hs => .tup (SqT.of h) (dnall_dp n hs)
  | .dic _ h => absurd n (by simp [noDict])
theorem dnall_dp {vs : List V} {ds : List PyData} (n : noDicts ds = true) : DnAll ok H vs ds → DpAll K H vs ds
  | .nil => .nil
  | .cons h hs => .cons (dn_dp (Bool.and_eq_true_iff.mp n).1 h) (dnall_dp (Bool.and_eq_true_iff.mp n).2 hs)
end
mutual
theorem noDict_of_lay : ∀ {d : PyData}, d.canLay0 = true → noDict d = true
  | .none, _ => rfl
  | .bool _, _ => rfl
  | .int _, _ => rfl
  | .str _, _ => rfl
  | .list ds, h => noDicts_of_lay (ds := ds) (by rw [PyData.canLay0] at h; exact h)
  | .tuple ds, h => noDicts_of_lay (ds := ds) (by rw [PyData.canLay0] at h; exact h)
  | .dict _, h => by rw [PyData.canLay0] at h; exact nomatch h
theorem noDicts_of_lay : ∀ {ds : List PyData}, PyData.canLayAll0 ds = true → noDicts ds = true
  | [], _ => rfl
  | d :: ds, h => by
    rw [PyData.canLayAll0, Bool.and_eq_true] at h
    show (noDict d && noDicts ds) = true
    rw [noDict_of_lay h.1, noDicts_of_lay h.2]
    rfl
end
theorem w_eqD {x y : V} {d e : PyData} {ok2 : Addr → Prop} (h : Dn ok H x d) (h2 : Dn ok2 H y e) (s : SeqAt.shaped d = true) (s2 : SeqAt.shaped e = true) (q : Q (.bl (PyData.eqv d e)) H) : rEqD K x y H Q :=
  ⟨d, e, dn_dp (noDict_of_lay (SeqAt.canLay_of_shaped s)) h, dn_dp (noDict_of_lay (SeqAt.canLay_of_shaped s2)) h2, s, s2, q⟩
theorem w_neD {x y : V} {d e : PyData} {ok2 : Addr → Prop} (h : Dn ok H x d) (h2 : Dn ok2 H y e) (s : SeqAt.shaped d = true) (s2 : SeqAt.shaped e = true) (q : Q (.bl (!PyData.eqv d e)) H) : rNeD K x y H Q :=
  ⟨d, e, dn_dp (noDict_of_lay (SeqAt.canLay_of_shaped s)) h, dn_dp (noDict_of_lay (SeqAt.canLay_of_shaped s2)) h2, s, s2, q⟩
theorem w_eqDs {x y : V} {d : PyData} {ok2 : Addr → Prop} (h : Dn ok H x d) (h2 : Dn ok2 H y d) (s : SeqAt.shaped d = true) (q : Q (.bl true) H) : rEqD K x y H Q :=
  w_eqD h h2 s s (by rw [SeqAt.eqv_refl d (SeqAt.canLay_of_shaped s)]; exact q)
theorem w_neDs {x y : V} {d : PyData} {ok2 : Addr → Prop} (h : Dn ok H x d) (h2 : Dn ok2 H y d) (s : SeqAt.shaped d = true) (q : Q (.bl false) H) : rNeD K x y H Q :=
  w_neD h h2 s s (by rw [SeqAt.eqv_refl d (SeqAt.canLay_of_shaped s)]; exact q)
/-- signs that are ASCII -/
def ascii (z : Str) : Bool := z.cps.toList.all fun c => decide (c < 1114112)
theorem strOk_of {z : Str} (h : ascii z = true) : PyData.strOk z = true := by
  unfold PyData.strOk
  rw [← Array.all_toList]
  exact h
theorem shaped_str {z : Str} (h : ascii z = true) : SeqAt.shaped (.str z) = true := by
  unfold SeqAt.shaped
  rw [PyData.canLay0, strOk_of h]
  rfl
theorem lineC_ascii {z : Str} (h : z.cps.toList.all lineC = true) : ascii z = true := by
  unfold ascii
  rw [List.all_eq_true] at h ⊢
  intro c hc
  have := h c hc
  unfold lineC prB at this
  simp only [Bool.and_eq_true, decide_eq_true_eq] at this
  exact decide_eq_true (by omega)
theorem text_ascii {z : Str} (h : (z.cps.toList.all fun c => decide (c = 10) || lineC c) = true) : ascii z = true := by
  unfold ascii
  rw [List.all_eq_true] at h ⊢
  intro c hc
  have := h c hc
  unfold lineC prB at this
  simp only [Bool.and_eq_true, decide_eq_true_eq, Bool.or_eq_true] at this
  exact decide_eq_true (by omega)
theorem name_ascii {z : Str} (h : nameS z = true) : ascii z = true := by
  unfold ascii
  unfold nameS at h
  rw [Bool.and_eq_true] at h
  rw [List.all_eq_true] at h ⊢
  intro c hc
  have := h.2 c hc
  rw [Bool.or_eq_true, decide_eq_true_eq, decide_eq_true_eq] at this
  have l1 : ∀ c ∈ LOW.cps.toList, c < 1114112 := by decide
  have l2 : ∀ c ∈ DIG.cps.toList, c < 1114112 := by decide
  exact decide_eq_true (this.elim (l1 c) (l2 c))
theorem shaped_ref {a : Str} {n : Int} (h : nameS a = true) : SeqAt.shaped (refD a n) = true := by
  unfold SeqAt.shaped refD
  rw [PyData.canLay0, PyData.canLayAll0, PyData.canLayAll0, PyData.canLayAll0, PyData.canLay0, PyData.canLay0, strOk_of (name_ascii h)]
  rfl
end

/-! ### texts as data -/
theorem dnall_strs {ok : Addr → Prop} {H : Hp} : ∀ ms : List Str, DnAll ok H (ms.map V.str) (ms.map PyData.str)
  | [] => .nil
  | m :: ms => .cons (.str m) (dnall_strs ms)
theorem dn_strs {ok : Addr → Prop} {H : Hp} (ms : List Str) : DnAll ok H (ms.map V.str) (ms.map PyData.str) := dnall_strs ms

/-! ### folding -/
def CutIs (L : List Nat) (s w : Nat) (c : Int) : Prop :=
  (∃ j : Nat, c = (j : Int) ∧ s < j ∧ L[j]? = some 32 ∧ (j ≤ s + w → ∀ i, j < i → i ≤ s + w → L[i]? ≠ some 32) ∧ (s + w < j → ∀ i, s < i → i < j → L[i]? ≠ some 32)) ∨ (c = -1 ∧ ∀ i, s < i → L[i]? ≠ some 32)
def spCut (K : PySem.W.Frag) : Sp := fun vs H Q _ => ∃ (z : Str) (s w : Nat), vs = [.str z, .int s, .int w] ∧ z.length ≤ 100000 ∧ ∀ c, CutIs z.cps.toList s w c → Q (.int c) H
def Folded : List Str → List Nat → Nat → Prop
  | [], _, _ => False
  | [p], rest, w => p.cps.toList = rest ∧ (rest.length ≤ w ∨ ∀ i, 1 ≤ i → rest[i]? ≠ some 32)
  | p :: q :: ps, rest, w => ∃ n, p.cps.toList = rest.take n ∧ 0 < n ∧ n < rest.length ∧ w < rest.length ∧ rest[n]? = some 32 ∧ (n ≤ w → ∀ i, n < i → i ≤ w → rest[i]? ≠ some 32) ∧ (w < n → ∀ i, 1 ≤ i → i < n → rest[i]? ≠ some 32) ∧ Folded (q :: ps) (rest.drop n) w
def spFold (K : PySem.W.Frag) : Sp := fun vs H Q _ => ∃ (z : Str) (w : Nat), vs = [.str z, .int w] ∧ 1 ≤ w ∧ z.length ≤ 100000 ∧ ∀ a ps H', H a = none → Same H H' → H' a = some (.lst (ps.map V.str)) → ps.length ≤ z.length + 1 → Folded ps z.cps.toList w → Q (.ref a) H'
section
variable {K : PySem.W.Frag} {vs : List V} {H : Hp} {Q : VK} {E : XK}
theorem space_eq : Str.ofString " " = ⟨#[32]⟩ := by decide
/-- _cut_of: slots 0:line 1:start 2:width 3:behind 4:cut -/
def t__cut_of (K : PySem.W.Frag) : TS := (tSeq (tAsg (tOp qAdd (tOp qAdd (tVar 1) (tVar 2)) (tC (.int 1))) (gName 3))
  (tSeq (tAsg (tBM K "str" q_rfind4 (tVar 0) (tCons (tC (.str " ")) (tCons (tOp qAdd (tVar 1) (tC (.int 1))) (tCons (tVar 3) tNil)))) (gName 4))
  (tSeq (tIfS (tTest (tOp qLt (tVar 4) (tC (.int 0)))) (tAsg (tBM K "str" q_find3 (tVar 0) (tCons (tC (.str " ")) (tCons (tVar 3) tNil))) (gName 4)) tNext)
  (tRet (tVar 4)))))
theorem l__cut_of (h : spCut K vs H Q E) : vs.length = 3 := by obtain ⟨z, s, w, rfl, _⟩ := h; rfl
theorem r__cut_of (h : spCut K vs H Q E) : t__cut_of K { nx := fun _ H' => Q .non H', rt := Q } (start ["line", "start", "width", "behind", "cut"] vs) H := by
  obtain ⟨z, s, w, rfl, hz, q⟩ := h
  unfold t__cut_of
  walk_at "w"
  refine ⟨z, _, _, _, rfl, rfl, ?_⟩
  have e1 : PySem.fromIndex z.length ((s : Int) + 1) = s + 1 := by
    unfold PySem.fromIndex
    rw [if_neg (by omega)]
    omega
  have e2 : PySem.toIndexW z.length ((s : Int) + (w : Int) + 1) = min (s + w + 1) z.length := by
    unfold PySem.toIndexW
    rw [if_neg (by omega)]
    omega
  have er : Txt.rfindIn z (Str.ofString " ") ((s : Int) + 1) ((s : Int) + (w : Int) + 1) = match PySem.Builtin.Str.lastOccurrence z ⟨#[32]⟩ (s + 1) (min (s + w + 1) z.length) with | some k => (k : Int) | none => -1 := by
    unfold Txt.rfindIn
    rw [e1, e2, space_eq]
    all_goals rfl
  rw [er]
  have hlen : z.length = z.cps.toList.length := str_len z
  rcases last_one z 32 (s + 1) (min (s + w + 1) z.length) (Nat.min_le_right _ _) with ⟨h0, hn⟩ | ⟨j, h0, j1, j2, j3, j4⟩
  · rw [h0]
    have e3 : PySem.fromIndex z.length ((s : Int) + (w : Int) + 1) = s + w + 1 := by
      unfold PySem.fromIndex
      rw [if_neg (by omega)]
      omega
    have ef : Txt.find3 z (Str.ofString " ") ((s : Int) + (w : Int) + 1) = match PySem.Builtin.Str.occurrences z ⟨#[32]⟩ (s + w + 1) z.length 1 with | k :: _ => (k : Int) | [] => -1 := by
      unfold Txt.find3
      rw [e3, space_eq]
      all_goals rfl
    walk_at "w"
    walk_at "if" <;> intro hc
    · walk_at "w"
      refine ⟨z, _, _, rfl, rfl, ?_⟩
      rw [ef]
      have none1 : ∀ i, s < i → i ≤ s + w → z.cps.toList[i]? ≠ some 32 := fun i i1 i2 e => by
        have := (List.getElem?_eq_some_iff.mp e).1
        exact hn i i1 (by omega) e
      rcases first_one z 32 (s + w + 1) with ⟨g0, gn⟩ | ⟨j, r, g0, j1, j3, j4⟩
      · rw [g0]
        walk_at "w"
        refine q _ (.inr ⟨rfl, fun i i1 e => ?_⟩)
        by_cases hi : i ≤ s + w
        · exact none1 i i1 hi e
        · exact gn i (by omega) e
      · rw [g0]
        walk_at "w"
        refine q _ (.inl ⟨j, rfl, by omega, j3, fun h => by omega, fun _ i i1 i2 e => ?_⟩)
        by_cases hi : i ≤ s + w
        · exact none1 i i1 hi e
        · exact j4 i (by omega) i2 e
    · exact absurd (by decide) hc
  · rw [h0]
    walk_at "w"
    walk_at "if" <;> intro hc
    · have hc : (j : Int) < 0 := hc
      omega
    · walk_at "w"
      refine q _ (.inl ⟨j, rfl, by omega, j3, fun _ i i1 i2 e => ?_, fun h => by omega⟩)
      have := (List.getElem?_eq_some_iff.mp e).1
      exact j4 i i1 (by omega) e
/-- fold: slots 0:line 1:width 2:lines 3:start 4:cut -/
def t_fold (K : PySem.W.Frag) : TS := (tSeq (tAsg (tLst tNil) (gName 2))
  (tSeq (tAsg (tC (.int 0)) (gName 3))
  (tSeq (tWhile (tTest (tOp qGt (tOp qSub (tCB qLenStr (tCons (tVar 0) tNil)) (tVar 3)) (tVar 1))) (tSeq (tAsg (tCall (spCut K) [] C8.E0 (tCons (tVar 0) (tCons (tVar 3) (tCons (tVar 1) tNil)))) (gName 4))
  (tSeq (tIfS (tTest (tOp qLt (tVar 4) (tC (.int 0)))) tBreak tNext)
  (tSeq (tDrop (tBM K "list" rAppend (tVar 2) (tCons (tSl rSlS (tVar 0) (tPart (tVar 3)) (tPart (tVar 4))) tNil)))
  (tAsg (tVar 4) (gName 3))))))
  (tSeq (tDrop (tBM K "list" rAppend (tVar 2) (tCons (tSl rSlS (tVar 0) (tPart (tVar 3)) tNoPart) tNil)))
  (tRet (tVar 2))))))
theorem l_fold (h : spFold K vs H Q E) : vs.length = 2 := by obtain ⟨z, w, rfl, _⟩ := h; rfl
theorem r_fold (h : spFold K vs H Q E) : t_fold K { nx := fun _ H' => Q .non H', rt := Q } (start ["line", "width", "lines", "start", "cut"] vs) H := by
  obtain ⟨z, w, rfl, hw, hz, q⟩ := h
  have hlen : z.length = z.cps.toList.length := str_len z
  have hz' : z.length ≤ sizeLine := Nat.le_trans hz (by decide)
  unfold t_fold
  walk_at "w"
  intro l hl
  walk_at "b"
  -- the state between two turns
  have fin : ∀ (ps : List Str) (s : Nat) y H1, Same H H1 → H1 l = some (.lst (ps.map V.str)) → s ≤ z.length → ps.length ≤ s → (∀ qs, Folded qs (z.cps.toList.drop s) w → Folded (ps ++ qs) z.cps.toList w) → ((z.cps.toList.drop s).length ≤ w ∨ ∀ i, s < i → z.cps.toList[i]? ≠ some 32) →
      (tSeq (tDrop (tBM K "list" rAppend (tVar 2) (tCons (tSl rSlS (tVar 0) (tPart (tVar 3)) tNoPart) tNil))) (tRet (tVar 2))) { nx := fun _ H' => Q .non H', rt := Q } [some (.str z), some (.int w), some (.ref l), some (.int s), y] H1 := fun ps s y H1 s1 hL hs hp hf hend => by
    walk_at "w"
    refine w_slS hz' ?_
    walk_at "w"
    refine w_app hL (by rw [List.length_map]; exact Nat.lt_of_le_of_lt (show ps.length ≤ 100000 by omega) (by decide)) ?_
    walk_at "w"
    refine q l (ps ++ [cutS z (some (s : Int)) none]) _ hl (fun b o e => by
      rw [upd_ne (ne_of_none e hl)]
      exact s1 b o e) (by rw [upd_same, List.map_append]; rfl) (by rw [List.length_append]; exact Nat.succ_le_succ (Nat.le_trans hp hs)) ?_
    refine hf _ ⟨by rw [cutS_from (by omega)]; rfl, ?_⟩
    rcases hend with h | h
    · exact .inl h
    · refine .inr fun i i1 e => ?_
      rw [List.getElem?_drop] at e
      exact h (s + i) (by omega) e
  refine ⟨fun m σ H1 => ∃ (ps : List Str) (s : Nat) (y : Option V), σ = [some (.str z), some (.int w), some (.ref l), some (.int s), y] ∧ m = z.length - s ∧ Same H H1 ∧ H1 l = some (.lst (ps.map V.str)) ∧ s ≤ z.length ∧ ps.length ≤ s ∧ ∀ qs, Folded qs (z.cps.toList.drop s) w → Folded (ps ++ qs) z.cps.toList w,
    ⟨z.length, [], 0, none, rfl, rfl, Same.upd (Same.refl H) hl, upd_same, Nat.zero_le _, Nat.le_refl _, fun qs h => h⟩, fun m σ H1 hW => ?_⟩
  obtain ⟨ps, s, y, rfl, rfl, s1, hL, hs, hp, hf⟩ := hW
  walk_at "w"
  refine w_lenStr hz' ?_
  walk_at "w"
  walk_at "if" <;> intro hc
  · refine ⟨fun σ' H' => ∃ (ps' : List Str) (s' : Nat) (y : Option V), s < s' ∧ σ' = [some (.str z), some (.int w), some (.ref l), some (.int s'), y] ∧ Same H H' ∧ H' l = some (.lst (ps'.map V.str)) ∧ s' ≤ z.length ∧ ps'.length ≤ s' ∧ ∀ qs, Folded qs (z.cps.toList.drop s') w → Folded (ps' ++ qs) z.cps.toList w, fun σ' H' hN => ?_, ?_⟩
    · obtain ⟨ps', s', y', hlt, e, r1, r2, r3, r4, r5⟩ := hN
      exact ⟨z.length - s', by omega, ps', s', y', e, rfl, r1, r2, r3, r4, r5⟩
    · walk_at "w"
      refine ⟨z, s, w, rfl, hz, fun c hcut => ?_⟩
      walk_at "w"
      walk_at "if" <;> intro h0
      · refine fin ps s _ H1 s1 hL hs hp hf (.inr ?_)
        rcases hcut with ⟨j, rfl, _⟩ | ⟨_, hn⟩
        · omega
        · exact hn
      · rcases hcut with ⟨j, rfl, j1, j3, ja, jb⟩ | ⟨rfl, _⟩
        · have jl := (List.getElem?_eq_some_iff.mp j3).1
          walk_at "w"
          refine w_slS hz' ?_
          walk_at "w"
          refine w_app hL (by rw [List.length_map]; exact Nat.lt_of_le_of_lt (show ps.length ≤ 100000 by omega) (by decide)) ?_
          walk_at "w"
          have hcutS : (cutS z (some (s : Int)) (some (j : Int))).cps.toList = (z.cps.toList.drop s).take (j - s) := by
            show (z.cps.toList.drop (HT.sIx z.length 0 (some (s : Int)))).take (HT.sIx z.length z.length (some (j : Int)) - HT.sIx z.length 0 (some (s : Int))) = _
            rw [HT.sIx_nat, HT.sIx_nat, Nat.min_eq_left hs, Nat.min_eq_left (by omega)]
          refine ⟨ps ++ [cutS z (some (s : Int)) (some (j : Int))], j, _, j1, rfl, ?_, ?_, by omega, ?_, fun qs hq => ?_⟩
          · exact fun b o e => by
              rw [upd_ne (ne_of_none e hl)]
              exact s1 b o e
          · rw [upd_same, List.map_append]
            rfl
          · rw [List.length_append]
            show ps.length + 1 ≤ j
            omega
          · rw [List.append_assoc]
            refine hf _ ?_
            cases qs with
            | nil => exact hq.elim
            | cons q1 qs =>
              have hdl : (z.cps.toList.drop s).length = z.length - s := by rw [List.length_drop, hlen]
              refine ⟨j - s, hcutS, by omega, by omega, by omega, ?_, fun h i i1 i2 e => ?_, fun h i i1 i2 e => ?_, ?_⟩
              · rw [List.getElem?_drop, show s + (j - s) = j by omega]
                exact j3
              · rw [List.getElem?_drop] at e
                exact ja (by omega) (s + i) (by omega) (by omega) e
              · rw [List.getElem?_drop] at e
                exact jb (by omega) (s + i) (by omega) (by omega) e
              · rw [List.drop_drop, show s + (j - s) = j by omega]
                exact hq
        · exact absurd (by decide) h0
  · refine fin ps s _ H1 s1 hL hs hp hf (.inl ?_)
    rw [List.length_drop]
    omega
end

/-! ### the law's own view of folded lines -/
def spLawFolded (K : PySem.W.Frag) : Sp := fun vs H Q _ => ∃ (a : Addr) (ps : List Str) (z : Str) (w : Nat), vs = [.ref a, .str z, .int w] ∧ H a = some (.lst (ps.map V.str)) ∧ ps.length ≤ 10001 ∧ z.length ≤ 10000 ∧ Folded ps z.cps.toList w ∧ Q (.bl true) H
section
variable {K : PySem.W.Frag} {vs : List V} {H : Hp} {Q : VK} {E : XK}
theorem strE {a b : Str} (h : a.cps.toList = b.cps.toList) : a = b := by
  cases a
  cases b
  exact congrArg Str.mk (Array.toList_inj.mp h)
theorem cutS_nat {z : Str} (a b : Nat) : (cutS z (some (a : Int)) (some (b : Int))).cps.toList = (z.cps.toList.drop (min a z.length)).take (min b z.length - min a z.length) := by
  show (z.cps.toList.drop (HT.sIx z.length 0 (some (a : Int)))).take (HT.sIx z.length z.length (some (b : Int)) - HT.sIx z.length 0 (some (a : Int))) = _
  rw [HT.sIx_nat, HT.sIx_nat]
/-- no space in a cut -/
theorem cut_free {z : Str} {a b : Nat} {L : List Nat} (e : L = z.cps.toList) (h : ∀ i, a ≤ i → i < b → L[i]? ≠ some 32) : decide (32 ∈ (cutS z (some (a : Int)) (some (b : Int))).cps.toList) = false := by
  subst e
  refine decide_eq_false fun m => ?_
  rw [cutS_nat] at m
  obtain ⟨i, hi⟩ := List.mem_iff_getElem?.mp m
  rw [List.getElem?_take] at hi
  split at hi
  · rename_i hlt
    rw [List.getElem?_drop] at hi
    have := (List.getElem?_eq_some_iff.mp hi).1
    rw [← str_len] at this
    exact h _ (by omega) (by omega) hi
  · exact nomatch hi
theorem cut_freeF {z : Str} {a : Nat} {L : List Nat} (e : L = z.cps.toList) (h : ∀ i, a ≤ i → L[i]? ≠ some 32) : decide (32 ∈ (cutS z (some (a : Int)) none).cps.toList) = false := by
  subst e
  refine decide_eq_false fun m => ?_
  rw [cutS_from (by omega)] at m
  obtain ⟨i, hi⟩ := List.mem_iff_getElem?.mp m
  rw [List.getElem?_drop] at hi
  exact h _ (by omega) hi
theorem mem_drop {α : Type} {l : List α} {i : Nat} (h : i < l.length) : l.drop i = l[i] :: l.drop (i + 1) := List.drop_eq_getElem_cons h
/-- _law_folded: slots 0:lines 1:line 2:width 3:rest 4:k 5:part 6:size -/
def t__law_folded (K : PySem.W.Frag) : TS := (tSeq (tIfS (tNot (tB (tCB (rIsi K) (tCons (tVar 0) (tCons (tC (.ty "list")) tNil))))) (tRet (tC (.bl false))) tNext)
  (tSeq (tAsg (tVar 1) (gName 3))
  (tSeq (tFor (iRng1 (tCons (tCB (qLenSeq K) (tCons (tVar 0) tNil)) tNil)) (gName 4) (tSeq (tAsg (tOp (rIxL K) (tVar 0) (tVar 4)) (gName 5))
  (tSeq (tIfS (tOr (tNot (tB (tCB (rIsi K) (tCons (tVar 5) (tCons (tC (.ty "str")) tNil))))) (tTest (tOp rNe (tSl rSlS (tVar 3) tNoPart (tPart (tCB qLenStr (tCons (tVar 5) tNil)))) (tVar 5)))) (tRet (tC (.bl false))) tNext)
  (tSeq (tAsg (tCB qLenStr (tCons (tVar 5) tNil)) (gName 6))
  (tSeq (tIfS (tTest (tOp rEq (tVar 4) (tOp qSub (tCB (qLenSeq K) (tCons (tVar 0) tNil)) (tC (.int 1))))) (tRet (tAndV (tOp rEq (tVar 6) (tCB qLenStr (tCons (tVar 3) tNil))) (tOrV (tOp qLe (tVar 6) (tVar 2)) (tOp qNinSign (tC (.str " ")) (tSl rSlS (tVar 3) (tPart (tC (.int 1))) tNoPart))))) tNext)
  (tSeq (tIfS (tOr (tTest (tOp rEq (tVar 6) (tC (.int 0)))) (tOr (tTest (tOp qGe (tVar 6) (tCB qLenStr (tCons (tVar 3) tNil)))) (tOr (tTest (tOp qLe (tCB qLenStr (tCons (tVar 3) tNil)) (tVar 2))) (tTest (tOp rNe (tOp rIxS (tVar 3) (tVar 6)) (tC (.str " "))))))) (tRet (tC (.bl false))) tNext)
  (tSeq (tIfS (tAnd (tTest (tOp qLe (tVar 6) (tVar 2))) (tTest (tOp qInSign (tC (.str " ")) (tSl rSlS (tVar 3) (tPart (tOp qAdd (tVar 6) (tC (.int 1)))) (tPart (tOp qAdd (tVar 2) (tC (.int 1)))))))) (tRet (tC (.bl false))) tNext)
  (tSeq (tIfS (tAnd (tTest (tOp qGt (tVar 6) (tVar 2))) (tTest (tOp qInSign (tC (.str " ")) (tSl rSlS (tVar 3) (tPart (tC (.int 1))) (tPart (tVar 6)))))) (tRet (tC (.bl false))) tNext)
  (tAsg (tSl rSlS (tVar 3) (tPart (tVar 6)) tNoPart) (gName 3))))))))))
  (tRet (tC (.bl false))))))
theorem l__law_folded (h : spLawFolded K vs H Q E) : vs.length = 3 := by obtain ⟨a, ps, z, w, rfl, _⟩ := h; rfl
theorem r__law_folded (h : spLawFolded K vs H Q E) : t__law_folded K { nx := fun _ H' => Q .non H', rt := Q } (start ["lines", "line", "width", "rest", "k", "part", "size"] vs) H := by
  obtain ⟨a, ps, z, w, rfl, ha, hps, hz, hf, q⟩ := h
  have hS : SqL K H a (ps.map V.str) := SqL.of ha
  have hlm : (ps.map V.str).length = ps.length := List.length_map ..
  unfold t__law_folded
  walk_at "w"
  refine w_isi (Dn.tyX (ok := Any) (.lst trivial ha (dnall_strs ps))) (kit_list (.list (ps.map PyData.str))) ?_
  walk_at "w"
  walk_at "if" <;> intro h
  · exact absurd rfl h
  clear h
  walk_at "w"
  refine w_for (w_iRng1 ?_)
  walk_at "w"
  rw [hlm]
  refine w_rng (by omega) (by omega) (fun i σ H' => H' = H ∧ ∃ (r : Str) (y4 y5 y6 : Option V), σ = [some (.ref a), some (.str z), some (.int w), some (.str r), y4, y5, y6] ∧ r.length ≤ 10000 ∧ Folded (ps.drop i) r.cps.toList w) ⟨rfl, z, none, none, none, rfl, hz, hf⟩ (fun i σ H' hi pv => ?_) (fun σ H' pv => ?_)
  · obtain ⟨rfl, r, y4, y5, y6, rfl, hr, hfr⟩ := pv
    have hi : i < ps.length := by omega
    walk_at "w"
    refine w_ixL hS (atI_nat (j := i) (by rw [List.getElem?_map, List.getElem?_eq_getElem hi]; rfl)) ?_
    rw [mem_drop hi] at hfr
    generalize ps[i] = part at hfr
    have hpart : part.cps.toList = r.cps.toList.take part.length ∧ part.length ≤ r.length ∧ (i + 1 < ps.length → part.length ≠ 0 ∧ part.length < r.length ∧ w < r.length ∧ r.cps.toList[part.length]? = some 32 ∧ (part.length ≤ w → ∀ j, part.length < j → j ≤ w → r.cps.toList[j]? ≠ some 32) ∧ (w < part.length → ∀ j, 1 ≤ j → j < part.length → r.cps.toList[j]? ≠ some 32) ∧ Folded (ps.drop (i + 1)) (r.cps.toList.drop part.length) w) ∧ (i + 1 = ps.length → part.length = r.length ∧ (r.length ≤ w ∨ ∀ j, 1 ≤ j → r.cps.toList[j]? ≠ some 32)) := by
      rcases Nat.lt_or_ge (i + 1) ps.length with h1 | h1
      · rw [mem_drop h1] at hfr ⊢
        obtain ⟨n, e, n0, n1, n2, n3, n4, n5, n6⟩ := hfr
        have en : part.length = n := by
          rw [str_len, e, List.length_take]
          omega
        rw [en, str_len r]
        exact ⟨e, by omega, fun _ => ⟨by omega, n1, n2, n3, n4, n5, n6⟩, fun h => by omega⟩
      · rw [List.drop_eq_nil_of_le h1] at hfr
        obtain ⟨e, h2⟩ := hfr
        have en : part.length = r.length := by rw [str_len, str_len, e]
        refine ⟨?_, by omega, fun h => by omega, fun _ => ⟨en, ?_⟩⟩
        · rw [e, en, str_len, List.take_length]
        · rw [str_len]
          exact h2
    clear hfr
    obtain ⟨p1, p2, p3, p4⟩ := hpart
    walk_at "w"
    refine w_isi (Dn.tyX (ok := Any) (.str part)) (kit_str (.str part)) ?_
    walk_at "w"
    walk_at "if" <;> intro h
    · exact absurd rfl h
    clear h
    walk_at "w"
    refine w_lenStr (sz (by omega)) ?_
    walk_at "w"
    refine w_slS (sz (by omega)) ?_
    walk_at "w"
    have e1 : cutS r none (some (part.length : Int)) = part := strE (by rw [cutS_to (by omega), p1]; rfl)
    rw [e1]
    walk_at "if" <;> intro h
    · exact absurd rfl h
    clear h
    walk_at "w"
    refine w_lenStr (sz (by omega)) ?_
    walk_at "w"
    rw [hlm]
    walk_at "if" <;> intro h
    · obtain ⟨l1, l2⟩ := p4 (by omega)
      walk_at "w"
      refine w_lenStr (sz (by omega)) ?_
      walk_at "w"
      walk_at "if" <;> intro h
      · walk_at "w"
        walk_at "if" <;> intro h
        · exact q
        · walk_at "w"
          refine w_slS (sz (by omega)) ?_
          rw [space_eq]
          walk_at "w"
          have e2 : decide (32 ∈ (cutS r (some (1 : Int)) none).cps.toList) = false := cut_freeF (a := 1) rfl (by
            rcases l2 with h2 | h2
            · omega
            · exact h2)
          rw [e2]
          exact q
      · omega
    · obtain ⟨l0, l1, l2, l3, l4, l5, l6⟩ := p3 (by omega)
      walk_at "w"
      walk_at "if" <;> intro h
      · omega
      clear h
      walk_at "w"
      refine w_lenStr (sz (by omega)) ?_
      walk_at "w"
      walk_at "if" <;> intro h
      · omega
      clear h
      walk_at "w"
      refine w_lenStr (sz (by omega)) ?_
      walk_at "w"
      walk_at "if" <;> intro h
      · omega
      clear h
      walk_at "w"
      refine w_ixS (sz (by omega)) (atI_nat l3) ?_
      rw [space_eq]
      walk_at "w"
      walk_at "if" <;> intro h
      · exact absurd rfl h
      clear h
      walk_at "w"
      walk_at "if" <;> intro h
      · walk_at "w"
        refine w_slS (sz (by omega)) ?_
        walk_at "w"
        have e2 : decide (32 ∈ (cutS r (some ((part.length : Int) + 1)) (some ((w : Int) + 1))).cps.toList) = false := cut_free (a := part.length + 1) (b := w + 1) rfl (fun j j1 j2 => l4 (by omega) j (by omega) (by omega))
        rw [e2]
        walk_at "w"
        walk_at "if" <;> intro h2
        · omega
        walk_at "w"
        refine w_slS (sz (by omega)) ?_
        walk_at "w"
        refine ⟨rfl, _, _, _, _, rfl, Nat.le_trans (cutS_length _ _ _) hr, ?_⟩
        rw [cutS_from (by omega)]
        exact l6
      · walk_at "w"
        walk_at "if" <;> intro h2
        rotate_left
        · omega
        walk_at "w"
        refine w_slS (sz (by omega)) ?_
        walk_at "w"
        have e2 : decide (32 ∈ (cutS r (some (1 : Int)) (some (part.length : Int))).cps.toList) = false := cut_free (a := 1) (b := part.length) rfl (fun j j1 j2 => l5 (by omega) j j1 j2)
        rw [e2]
        walk_at "w"
        refine w_slS (sz (by omega)) ?_
        walk_at "w"
        refine ⟨rfl, _, _, _, _, rfl, Nat.le_trans (cutS_length _ _ _) hr, ?_⟩
        rw [cutS_from (by omega)]
        exact l6
  · obtain ⟨rfl, r, y4, y5, y6, rfl, hr, hfr⟩ := pv
    rw [List.drop_eq_nil_of_le (by omega)] at hfr
    exact hfr.elim
end

/-! ### the law on folding -/
def spWords (K : PySem.W.Frag) : Sp := fun vs H Q _ => ∃ p, vs = [.ref p] ∧ Stm H p ∧ ∀ z H', Kp p H H' → Stm H' p → z.length ≤ 10000 → Q (.str z) H'
def spWidth (K : PySem.W.Frag) : Sp := fun vs H Q _ => ∃ (p : Addr) (z : Str), vs = [.ref p, .str z] ∧ Stm H p ∧ z.length ≤ 10000 ∧ ∀ (w : Nat) H', Kp p H H' → Stm H' p → 1 ≤ w → Q (.int w) H'
def spLaw (K : PySem.W.Frag) : Sp := fun vs H Q _ => ∃ (a : Addr) (ns : List Int), vs = [.ref a] ∧ SqL K H a (ns.map V.int) ∧ ns.length ≤ 63 ∧ ∀ H', Q (.bl true) H'
section
variable {K : PySem.W.Frag} {vs : List V} {H : Hp} {Q : VK} {E : XK}
/-- _law_words: slots 0:stream 1:line 2:k 3:size -/
def t__law_words (K : PySem.W.Frag) : TS := (tSeq (tAsg (tOp qMulS (tC (.str " ")) (tOp (rIxT K) (tTup (tCons (tC (.int 0)) (tCons (tC (.int 0)) (tCons (tC (.int 0)) (tCons (tC (.int 1)) (tCons (tC (.int 2)) (tCons (tC (.int 70)) tNil))))))) (tCall (spNext K) [] C8.E0 (tCons (tVar 0) (tCons (tC (.int 6)) tNil))))) (gName 1))
  (tSeq (tFor (iRng1 (tCons (tCall (spNext K) [] C8.E0 (tCons (tVar 0) (tCons (tC (.int 15)) tNil))) tNil)) (gName 2) (tSeq (tAsg (tOp (rIxT K) (tTup (tCons (tC (.int 1)) (tCons (tC (.int 2)) (tCons (tCall (spNext K) [] C8.E0 (tCons (tVar 0) (tCons (tC (.int 12)) tNil))) (tCons (tCall (spNext K) [] C8.E0 (tCons (tVar 0) (tCons (tC (.int 90)) tNil))) tNil))))) (tCall (spNext K) [] C8.E0 (tCons (tVar 0) (tCons (tC (.int 4)) tNil)))) (gName 3))
  (tAsg (tOp qAddS (tOp qAddS (tVar 1) (tOp qMulS (tOp rIxS (tC (.str "abc\tdefg.|:~hi")) (tVar 2)) (tVar 3))) (tOp qMulS (tC (.str " ")) (tOp (rIxT K) (tTup (tCons (tC (.int 1)) (tCons (tC (.int 1)) (tCons (tC (.int 1)) (tCons (tC (.int 2)) (tCons (tC (.int 61)) tNil)))))) (tCall (spNext K) [] C8.E0 (tCons (tVar 0) (tCons (tC (.int 5)) tNil)))))) (gName 1))))
  (tSeq (tIfS (tTest (tOp rEq (tCall (spNext K) [] C8.E0 (tCons (tVar 0) (tCons (tC (.int 2)) tNil))) (tC (.int 0)))) (tAsg (tOp qAddS (tVar 1) (tC (.str "z"))) (gName 1)) tNext)
  (tSeq (tIfS (tTest (tOp rEq (tCall (spNext K) [] C8.E0 (tCons (tVar 0) (tCons (tC (.int 8)) tNil))) (tC (.int 0)))) (tAsg (tSl rSlS (tOp qMulS (tVar 1) (tC (.int 4))) tNoPart (tPart (tC (.int 900)))) (gName 1)) tNext)
  (tRet (tVar 1))))))
theorem l__law_words (h : spWords K vs H Q E) : vs.length = 1 := by obtain ⟨p, rfl, _⟩ := h; rfl
theorem r__law_words (h : spWords K vs H Q E) : t__law_words K { nx := fun _ H' => Q .non H', rt := Q } (start ["stream", "line", "k", "size"] vs) H := by
  obtain ⟨p, rfl, hs, q⟩ := h
  unfold t__law_words
  walk_at "s"
  refine w_op (w_c ?_)
  refine (evs_pickT (P := isInt 0 70) (n := 6) (are_cons (evs_intIn (by decide) (by decide)) (are_cons (evs_intIn (by decide) (by decide)) (are_cons (evs_intIn (by decide) (by decide)) (are_cons (evs_intIn (by decide) (by decide)) (are_cons (evs_intIn (by decide) (by decide)) (are_cons (evs_intIn (by decide) (by decide)) are_nil)))))) rfl (by decide) (by decide) (are_pick rfl)).use hs fun v d H1 k1 s1 hv dv => ?_
  obtain ⟨j, rfl, j0, j1⟩ := hv
  cases dv
  refine w_mulS j0 (by omega) (by decide) fun hl => ?_
  have hl : (Txt.mul (Str.ofString " ") j).length ≤ 70 := Nat.le_trans hl (by
    show 1 * j.toNat ≤ 70
    omega)
  walk_at "s"
  refine w_for (w_iRng1 ?_)
  walk_at "w"
  refine ⟨p, 15, rfl, s1, by decide, by decide, fun n H2 k2 s2 n0 n1 => ?_⟩
  walk_at "w"
  refine w_rng (by omega) (by omega) (fun i σ H' => ∃ z y2 y3, σ = [some (.ref p), some (.str z), y2, y3] ∧ z.length ≤ 70 + 150 * i ∧ Kp p H H' ∧ Stm H' p) ⟨_, none, none, rfl, by omega, k1.trans k2, s2⟩ (fun i σ H' hi pv => ?_) (fun σ H' pv => ?_)
  · obtain ⟨z, y2, y3, rfl, hz, k, s⟩ := pv
    walk_at "s"
    refine (evs_pickT (P := isInt 0 89) (n := 4) (are_cons (evs_intIn (by decide) (by decide)) (are_cons (evs_intIn (by decide) (by decide)) (are_cons (evs_nextIn rfl (by decide) (by decide) (by decide) (by decide)) (are_cons (evs_nextIn rfl (by decide) (by decide) (by decide) (by decide)) are_nil)))) rfl (by decide) (by decide) (are_pick rfl)).use s fun v d H3 k3 s3 hv dv => ?_
    obtain ⟨j, rfl, j0, j1⟩ := hv
    cases dv
    walk_at "s"
    refine w_op (w_op (w_var rfl (w_op (w_op (w_c (w_var rfl ?_))))))
    have hlen : (Str.ofString "abc\tdefg.|:~hi").cps.toList.length = 14 := by decide
    have hi14 : i < (Str.ofString "abc\tdefg.|:~hi").cps.toList.length := by omega
    refine w_ixS (by decide) (atI_of (v := (Str.ofString "abc\tdefg.|:~hi").cps.toList[i]) (by omega) (List.getElem?_eq_getElem hi14)) ?_
    refine w_var rfl ?_
    refine w_mulS j0 (by omega) (by show 1 ≤ 10000; decide) fun hl1 => ?_
    generalize Txt.mul _ j = m1 at hl1
    have hl1 : m1.length ≤ 89 := Nat.le_trans hl1 (by
      show 1 * j.toNat ≤ 89
      omega)
    refine w_addS (sz (by omega)) ?_
    refine w_op (w_c ?_)
    refine (evs_pickT (P := isInt 0 61) (n := 5) (are_cons (evs_intIn (by decide) (by decide)) (are_cons (evs_intIn (by decide) (by decide)) (are_cons (evs_intIn (by decide) (by decide)) (are_cons (evs_intIn (by decide) (by decide)) (are_cons (evs_intIn (by decide) (by decide)) are_nil))))) rfl (by decide) (by decide) (are_pick rfl)).use s3 fun v d H4 k4 s4 hv dv => ?_
    obtain ⟨u, rfl, u0, u1⟩ := hv
    cases dv
    refine w_mulS u0 (by omega) (by decide) fun hl2 => ?_
    generalize Txt.mul _ u = m2 at hl2
    have hl2 : m2.length ≤ 61 := Nat.le_trans hl2 (by
      show 1 * u.toNat ≤ 61
      omega)
    refine w_addS (sz (by rw [Str.length_append]; omega)) ?_
    walk_at "w"
    refine ⟨_, _, _, rfl, ?_, (k.trans k3).trans k4, s4⟩
    rw [Str.length_append, Str.length_append]
    omega
  · obtain ⟨z, y2, y3, rfl, hz, k, s⟩ := pv
    have hz : z.length ≤ 2170 := by omega
    walk_at "b"
    refine w_ifCut (Mid := fun σ' H' => ∃ z, σ' = [some (.ref p), some (.str z), y2, y3] ∧ z.length ≤ 2171 ∧ Kp p H H' ∧ Stm H' p) (fun σ' H' mv => ?_) (fun R r => ?_)
    · obtain ⟨z, rfl, hz, k, s⟩ := mv
      walk_at "b"
      refine w_ifCut (Mid := fun σ' H' => ∃ z, σ' = [some (.ref p), some (.str z), y2, y3] ∧ z.length ≤ 10000 ∧ Kp p H H' ∧ Stm H' p) (fun σ' H' mv => ?_) (fun R r => ?_)
      · obtain ⟨z, rfl, hz, k, s⟩ := mv
        walk_at "w"
        exact q z _ k s hz
      · walk_at "w"
        refine ⟨p, 8, rfl, s, by decide, by decide, fun v H4 k4 s4 v0 v1 => ?_⟩
        walk_at "w"
        walk_at "if" <;> intro h2
        · walk_at "w"
          refine w_mulS (by decide) (by decide) (by omega) fun hl => ?_
          have hl : (Txt.mul z 4).length ≤ 10000 := Nat.le_trans hl (by
            show z.length * 4 ≤ 10000
            omega)
          walk_at "w"
          refine w_slS (sz (by omega)) ?_
          walk_at "w"
          refine r _ _ ⟨_, rfl, Nat.le_trans (cutS_length _ _ _) hl, k.trans k4, s4⟩
        · walk_at "w"
          exact r _ _ ⟨z, rfl, by omega, k.trans k4, s4⟩
    · walk_at "w"
      refine ⟨p, 2, rfl, s, by decide, by decide, fun v H4 k4 s4 v0 v1 => ?_⟩
      walk_at "w"
      walk_at "if" <;> intro h2
      · walk_at "w"
        refine w_addS (sz (by show z.length + 1 ≤ _; omega)) ?_
        walk_at "w"
        refine r _ _ ⟨_, rfl, ?_, k.trans k4, s4⟩
        rw [Str.length_append]
        show z.length + 1 ≤ _
        omega
      · walk_at "w"
        exact r _ _ ⟨z, rfl, by omega, k.trans k4, s4⟩
/-- _law_width: slots 0:stream 1:line 2:size 3:widths -/
def t__law_width (K : PySem.W.Frag) : TS := (tSeq (tAsg (tCB qLenStr (tCons (tVar 1) tNil)) (gName 2))
  (tSeq (tAsg (tLst (tCons (tC (.int 60)) (tCons (tC (.int 1)) (tCons (tOp qAdd (tC (.int 1)) (tCall (spNext K) [] C8.E0 (tCons (tVar 0) (tCons (tC (.int 12)) tNil)))) (tCons (tOp qAdd (tC (.int 1)) (tCall (spNext K) [] C8.E0 (tCons (tVar 0) (tCons (tC (.int 90)) tNil)))) (tCons (tCB qMax2 (tCons (tC (.int 1)) (tCons (tVar 2) tNil))) (tCons (tCB qMax2 (tCons (tC (.int 1)) (tCons (tOp qSub (tVar 2) (tC (.int 1))) tNil))) (tCons (tOp qAdd (tVar 2) (tC (.int 1))) tNil)))))))) (gName 3))
  (tSeq (tAsg (tOp rCat (tVar 3) (tLst (tCons (tOp qPow (tC (.int 10)) (tC (.int 12))) (tCons (tOp qAdd (tC (.int 1)) (tCall (spNext K) [] C8.E0 (tCons (tVar 0) (tCons (tOp qAdd (tC (.int 1)) (tVar 2)) tNil)))) tNil)))) (gName 3))
  (tRet (tOp (rIxL K) (tVar 3) (tCall (spNext K) [] C8.E0 (tCons (tVar 0) (tCons (tC (.int 9)) tNil))))))))
theorem l__law_width (h : spWidth K vs H Q E) : vs.length = 2 := by obtain ⟨p, z, rfl, _⟩ := h; rfl
theorem r__law_width (h : spWidth K vs H Q E) : t__law_width K { nx := fun _ H' => Q .non H', rt := Q } (start ["stream", "line", "size", "widths"] vs) H := by
  obtain ⟨p, z, rfl, hs, hz, q⟩ := h
  unfold t__law_width
  walk_at "w"
  refine w_lenStr (sz (by omega)) ?_
  walk_at "w"
  refine ⟨p, 12, rfl, hs, by decide, by decide, fun a H1 k1 s1 a0 a1 => ?_⟩
  walk_at "w"
  refine ⟨p, 90, rfl, s1, by decide, by decide, fun b H2 k2 s2 b0 b1 => ?_⟩
  walk_at "w"
  intro l hl
  walk_at "w"
  refine ⟨p, _, rfl, s2.up hl, by omega, by omega, fun c H3 k3 s3 c0 c1 => ?_⟩
  walk_at "w"
  intro l2 hl2
  have hL : H3 l = some (.lst [V.int 60, V.int 1, V.int (1 + a), V.int (1 + b), V.int (if (z.length : Int) > 1 then (z.length : Int) else 1), V.int (if (z.length : Int) - 1 > 1 then (z.length : Int) - 1 else 1), V.int ((z.length : Int) + 1)]) := k3 _ _ (s2.ne hl) upd_same
  walk_at "w"
  refine w_cat (by rw [upd_ne (ne_of_none hL hl2)]; exact hL) upd_same (sz (by simp)) fun l3 hl3 => ?_
  walk_at "w"
  refine ⟨p, 9, rfl, (s3.up hl2).up hl3, by decide, by decide, fun v H4 k4 s4 v0 v1 => ?_⟩
  have hp3 : l3 ≠ p := (s3.up hl2).ne hl3
  let L : List Int := [60, 1, 1 + a, 1 + b, if (z.length : Int) > 1 then (z.length : Int) else 1, if (z.length : Int) - 1 > 1 then (z.length : Int) - 1 else 1, (z.length : Int) + 1, (10 : Int) ^ (12 : Int).toNat, 1 + c]
  have hl9 : L.length = 9 := rfl
  have hv : v.toNat < L.length := by omega
  have h1 : ∀ n ∈ L, 1 ≤ n := by
    intro n hn
    simp only [L, List.mem_cons, List.not_mem_nil, or_false] at hn
    have e12 : (10 : Int) ^ (12 : Int).toNat = 1000000000000 := by decide
    rcases hn with rfl | rfl | rfl | rfl | rfl | rfl | rfl | rfl | rfl
    · decide
    · decide
    · omega
    · omega
    · split <;> omega
    · split <;> omega
    · omega
    · rw [e12]; decide
    · omega
  have hn := h1 _ (List.getElem_mem hv)
  have h3 : H4 l3 = some (.lst (L.map V.int)) := k4 _ _ hp3 upd_same
  refine w_ixL (SqL.of h3) (atI_of v0 (v := .int L[v.toNat]) (by rw [List.getElem?_map, List.getElem?_eq_getElem hv]; rfl)) ?_
  have hq := q (L[v.toNat]).toNat H4 ((((((k1.trans k2).trans (Kp.upd Kp.refl hl)).trans k3).trans (Kp.upd Kp.refl hl2)).trans (Kp.upd Kp.refl hl3)).trans k4) s4 (by omega)
  rw [Int.toNat_of_nonneg (by omega)] at hq
  exact hq
/-- law: slots 0:script 1:k 2:stream 3:line 4:width 5:lines -/
def t_law (K : PySem.W.Frag) : TS := (tSeq (tFor (iRng1 (tCons (tOp qAdd (tC (.int 1)) (tCB qMin2 (tCons (tCB (qLenSeq K) (tCons (tVar 0) tNil)) (tCons (tC (.int 9)) tNil)))) tNil)) (gName 1) (tSeq (tAsg (tCall (spStream K) [] C8.E0 (tCons (tCall (spCell K) [] C8.E0 (tCons (tVar 0) (tCons (tVar 1) tNil))) (tCons (tVar 1) tNil))) (gName 2))
  (tSeq (tAsg (tCall (spWords K) [] C8.E0 (tCons (tVar 2) tNil)) (gName 3))
  (tSeq (tAsg (tCall (spWidth K) [] C8.E0 (tCons (tVar 2) (tCons (tVar 3) tNil))) (gName 4))
  (tSeq (tAsg (tCall (spFold K) [] C8.E0 (tCons (tVar 3) (tCons (tVar 4) tNil))) (gName 5))
  (tSeq (tIfS (tNot (tB (tCall (spLawFolded K) [] C8.E0 (tCons (tVar 5) (tCons (tVar 3) (tCons (tVar 4) tNil)))))) (tRet (tC (.bl false))) tNext)
  (tSeq (tDrop (tBM K "list" rAppend (tVar 5) (tCons (tC (.str "x")) tNil)))
  (tSeq (tAsg (tC (.str "")) (gSub (tVar 5) (tC (.int 0)) rSetL))
  (tIfS (tOr (tNot (tB (tCall (spLawFolded K) [] C8.E0 (tCons (tCall (spFold K) [] C8.E0 (tCons (tVar 3) (tCons (tVar 4) tNil))) (tCons (tVar 3) (tCons (tVar 4) tNil)))))) (tNot (tB (tCall (spLawFolded K) [] C8.E0 (tCons (tCall (spFold K) [] C8.E0 (tCons (tVar 3) (tCons (tC v_WIDTH) tNil))) (tCons (tVar 3) (tCons (tC (.int 60)) tNil))))))) (tRet (tC (.bl false))) tNext)))))))))
  (tRet (tAndV (tOp (rEqD K) (tCall (spFold K) [] C8.E0 (tCons (tC (.str "")) (tCons (tC (.int 1)) tNil))) (tLst (tCons (tC (.str "")) tNil))) (tOp rEq (tC v_WIDTH) (tC (.int 60))))))
theorem l_law (h : spLaw K vs H Q E) : vs.length = 1 := by obtain ⟨a, ns, rfl, _⟩ := h; rfl
theorem r_law (h : spLaw K vs H Q E) : t_law K { nx := fun _ H' => Q .non H', rt := Q } (start ["script", "k", "stream", "line", "width", "lines"] vs) H := by
  obtain ⟨a, ns, rfl, hS, hn, q⟩ := h
  unfold t_law
  walk_at "s"
  refine w_for (w_iRng1 ?_)
  walk_at "w"
  rw [List.length_map]
  have hm : (if (9 : Int) < (ns.length : Int) then (9 : Int) else (ns.length : Int)) ≤ 9 := by
    by_cases e : (9 : Int) < (ns.length : Int)
    · rw [if_pos e]; decide
    · rw [if_neg e]; omega
  have hm0 : 0 ≤ (if (9 : Int) < (ns.length : Int) then (9 : Int) else (ns.length : Int)) := by
    by_cases e : (9 : Int) < (ns.length : Int)
    · rw [if_pos e]; decide
    · rw [if_neg e]; omega
  generalize (if (9 : Int) < (ns.length : Int) then (9 : Int) else (ns.length : Int)) = m at hm hm0
  refine w_rng (by omega) (by omega) (fun i σ H' => (∃ y1 y2 y3 y4 y5, σ = [some (.ref a), y1, y2, y3, y4, y5]) ∧ Same H H') ⟨⟨_, _, _, _, _, rfl⟩, Same.refl H⟩ (fun i σ H0 hi pv => ?_) (fun σ H0 pv => ?_)
  · obtain ⟨⟨y1, y2, y3, y4, y5, rfl⟩, s0⟩ := pv
    walk_at "w"
    refine ⟨a, ns, _, rfl, s0.seq hS, by omega, fun z => ?_⟩
    walk_at "w"
    refine ⟨z, _, rfl, fun p H1 hp t1 s1 => ?_⟩
    walk_at "w"
    refine ⟨p, rfl, s1, fun x H2 k2 s2 hx => ?_⟩
    walk_at "w"
    refine ⟨p, x, rfl, s2, hx, fun w H3 k3 s3 hw => ?_⟩
    have t3 : Same H H3 := s0.trans ((((Same.kp t1).trans k2).trans k3).same hp)
    walk_at "w"
    refine ⟨x, w, rfl, hw, by omega, fun l ps H4 hl t4 hL hpl hf => ?_⟩
    walk_at "w"
    refine ⟨l, ps, x, w, rfl, hL, by omega, hx, hf, ?_⟩
    walk_at "w"
    refine w_app hL (by rw [List.length_map]; exact Nat.lt_of_le_of_lt (show ps.length ≤ 100000 by omega) (by decide)) ?_
    walk_at "w"
    refine w_setL (j := 0) upd_same ?_ ?_
    · unfold ixN
      simp
    have t5 := t3.trans (Same.upd (o := .lst ((ps.map V.str ++ [V.str (Str.ofString "x")]).set 0 (V.str (Str.ofString "")))) (Same.upd (o := .lst (ps.map V.str ++ [V.str (Str.ofString "x")])) t4 hl) hl)
    revert t5
    generalize L2.upd (L2.upd H4 l _) l _ = H5
    intro t5
    walk_at "w"
    refine ⟨x, w, rfl, hw, by omega, fun l6 ps6 H6 hl6 t6 hL6 hpl6 hf6 => ?_⟩
    walk_at "w"
    refine ⟨l6, ps6, x, w, rfl, hL6, by omega, hx, hf6, ?_⟩
    walk_at "w"
    refine ⟨x, 60, rfl, by decide, by omega, fun l7 ps7 H7 hl7 t7 hL7 hpl7 hf7 => ?_⟩
    walk_at "w"
    refine ⟨l7, ps7, x, 60, rfl, hL7, by omega, hx, hf7, ?_⟩
    walk_at "w"
    exact ⟨⟨_, _, _, _, _, rfl⟩, (t5.trans t6).trans t7⟩
  · obtain ⟨⟨y1, y2, y3, y4, y5, rfl⟩, s0⟩ := pv
    walk_at "w"
    refine ⟨Str.ofString "", 1, rfl, by decide, by decide, fun l7 ps7 H7 hl7 t7 hL7 hpl7 hf7 => ?_⟩
    have hps : ps7 = [Str.ofString ""] := by
      match ps7, hf7 with
      | [x], h => exact congrArg (fun x => [x]) (strE h.1)
      | x :: y :: r, h =>
        obtain ⟨n, _, _, h3, _⟩ := h
        exact absurd h3 (Nat.not_lt_zero _)
    subst hps
    walk_at "w"
    intro l8 hl8
    walk_at "w"
    refine w_eqDs (d := .list [.str (Str.ofString "")]) (ok := Any) (ok2 := Any) (.lst trivial (by rw [upd_ne (ne_of_none hL7 hl8)]; exact hL7) (dn_strs _)) (.lst trivial upd_same (dn_strs [Str.ofString ""])) (by
      unfold SeqAt.shaped
      rw [PyData.canLay0, PyData.canLayAll0, PyData.canLayAll0, PyData.canLay0, strOk_of (by decide)]
      rfl) ?_
    walk_at "w"
    exact q _
end

/-! ### further steps -/
local macro_rules | `(tactic| walk_at "case") => `(tactic| dsimp only [Bd.kind, Bd.text, Bd.rest, Bd.toD])
local macro_rules | `(tactic| walk_at "z1") => `(tactic| ((with_reducible show qAddS (.str _) (.str _) _ _); refine w_addS (sz (by first | omega | (simp only [Str.length_append]; omega))) ?_))
local macro_rules | `(tactic| walk_at "z1") => `(tactic| ((with_reducible show qJoin _ (.str _) [.ref _] _ _); first | refine w_joinT (by walk_at "sq") (by assumption) ?_ | refine w_joinL (by walk_at "sq") (by assumption) ?_))
/-- what stands off an address still stands -/
local macro_rules | `(tactic| walk_at "kp") => `(tactic| first
  | assumption
  | exact Kp.refl
  | (refine Kp.trans ?_ (by assumption); walk_at "kp")
  | (refine Kp.trans ?_ (Same.kp (by assumption)); walk_at "kp"))
local macro_rules | `(tactic| walk_at "fin") => `(tactic| first
  | (walk_at "hp"; done)
  | (refine Eq.trans (by walk_at "hp") ?_; first | rfl | (simp only [List.map_cons, List.map_nil, List.append_nil, List.append_assoc, List.cons_append, List.nil_append]; rfl)))
local macro_rules | `(tactic| walk_at "ln") => `(tactic| exact Nat.le_of_ble_eq_true rfl)

section
variable {P : Program} {w : World} {K : PySem.W.Frag} {mg : Str → Option Value} {base : Heap}
def topS (i : Nat) : Stmt := PySem.Challenge.pw_lettersonce_k09_fold.main.body.getD i (.Pass ⟨0, 0, 0, 0⟩)
abbrev s__cut_of : Stmt := topS 3
theorem sc__cut_of : FnScope ["line", "start", "width", "behind", "cut"] ["line", "start", "width"] (C8.fnScope s__cut_of) := C8.fnScope_by (by decide +kernel)
theorem c__cut_of {f : Addr} {fd : FuncData} (F : C8.Def K mg "_cut_of" s__cut_of f fd) (b : Binds K fd ["line", "start", "width"] [])
   :
  C8.Cal P w K mg base 1 "_cut_of" (spCut K) [] :=
  C8.cal0 F b .nil sc__cut_of (fun vs H Q E h => l__cut_of h) (fun cdv A outer s H vs Q E hr h => ⟨t__cut_of K,
  (pss_cons (ps_set (i := 3) sc__cut_of.nd rfl (Or.inl rfl) (pe_op op_add (pe_op op_add (pv 1) (pv 2)) pe_int))
  (pss_cons (ps_set (i := 4) sc__cut_of.nd rfl (Or.inl rfl) (pe_bm PySem.F.plainAttrs_str PySem.F.slot_str_rfind PySem.F.type_str_rfind mt_rfind4 (pv 0) (pa_cons pe_str (pa_cons (pe_op op_add (pv 1) pe_int) (pa_cons (pv 3) pa_nil)))))
  (pss_cons (ps_if (pt_cmpR op_lt (pv 4) pe_int (nomark _)) (pss_one (ps_set (i := 4) sc__cut_of.nd rfl (Or.inl rfl) (pe_bm PySem.F.plainAttrs_str PySem.F.slot_str_find PySem.F.type_str_find mt_find3 (pv 0) (pa_cons pe_str (pa_cons (pv 3) pa_nil))))) pss_nil)
  (pss_one (ps_ret (pv 4)))))), r__cut_of h⟩)
abbrev s__law_cell : Stmt := topS 5
theorem sc__law_cell : FnScope ["script", "k"] ["script", "k"] (C8.fnScope s__law_cell) := C8.fnScope_by (by decide +kernel)
theorem c__law_cell {f : Addr} {fd : FuncData} (F : C8.Def K mg "_law_cell" s__law_cell f fd) (b : Binds K fd ["script", "k"] [])
  (n_len : mg "len" = none) :
  C8.Cal P w K mg base 1 "_law_cell" (spCell K) [] :=
  C8.cal0 F b .nil sc__law_cell (fun vs H Q E h => l__law_cell h) (fun cdv A outer s H vs Q E hr h => ⟨t__law_cell K,
  (pss_cons (ps_if (pt_cmpR op_lt (pv 1) (pe_callB call_len_seq (by rfl) n_len (by decide +kernel) (pa_cons (pv 0) pa_nil)) (nomark _)) (pss_one (ps_ret (pe_ix ix_list (pv 0) (pv 1) (fun _ _ => rfl)))) pss_nil)
  (pss_one (ps_ret pe_int))), r__law_cell h⟩)
abbrev s__law_stream : Stmt := topS 6
theorem sc__law_stream : FnScope ["cell", "k", "digits"] ["cell", "k"] (C8.fnScope s__law_stream) := C8.fnScope_by (by decide +kernel)
theorem c__law_stream {f : Addr} {fd : FuncData} (F : C8.Def K mg "_law_stream" s__law_stream f fd) (b : Binds K fd ["cell", "k"] [])
  (n_int : mg "int" = none) :
  C8.Cal P w K mg base 1 "_law_stream" (spStream K) [] :=
  C8.cal0 F b .nil sc__law_stream (fun vs H Q E h => l__law_stream h) (fun cdv A outer s H vs Q E hr h => ⟨t__law_stream K,
  (pss_cons (ps_set (i := 2) sc__law_stream.nd rfl (Or.inl rfl) pe_int)
  (pss_cons (ps_if (pt_cmpR op_ge (pv 0) (pe_op op_pow pe_int pe_int) (nomark _)) (pss_one (ps_set (i := 2) sc__law_stream.nd rfl (Or.inl rfl) (pv 0))) pss_nil)
  (pss_one (ps_ret (pe_lst (pa_cons (pv 2) (pa_cons (pe_op op_mod (pe_callTy call_int1 (by rfl) n_int (by decide +kernel) (pa_cons (pe_op op_add (pe_op op_add (pe_op op_mul (pv 0) pe_int) (pe_op op_mul (pv 1) pe_int)) pe_int) pa_nil)) pe_int) pa_nil))))))), r__law_stream h⟩)
abbrev s__law_next : Stmt := topS 7
theorem sc__law_next : FnScope ["stream", "size", "drawn"] ["stream", "size"] (C8.fnScope s__law_next) := C8.fnScope_by (by decide +kernel)
theorem c__law_next {f : Addr} {fd : FuncData} (F : C8.Def K mg "_law_next" s__law_next f fd) (b : Binds K fd ["stream", "size"] [])
  (n_int : mg "int" = none) :
  C8.Cal P w K mg base 1 "_law_next" (spNext K) [] :=
  C8.cal0 F b .nil sc__law_next (fun vs H Q E h => l__law_next h) (fun cdv A outer s H vs Q E hr h => ⟨t__law_next K,
  (pss_cons (ps_if (pt_cmpR op_gt (pe_ix ix_list (pv 0) pe_int (fun _ _ => rfl)) pe_int (nomark _)) (pss_cons (ps_set (i := 2) sc__law_next.nd rfl (Or.inl rfl) (pe_op op_mod (pe_callTy call_int1 (by rfl) n_int (by decide +kernel) (pa_cons (pe_ix ix_list (pv 0) pe_int (fun _ _ => rfl)) pa_nil)) (pv 1)))
  (pss_cons (ps_asg (pe_op op_fdiv (pe_ix ix_list (pv 0) pe_int (fun _ _ => rfl)) (pv 1)) (pg_sub (pv 0) pe_int set_list))
  (pss_one (ps_ret (pv 2))))) pss_nil)
  (pss_cons (ps_asg (pe_op op_mod (pe_callTy call_int1 (by rfl) n_int (by decide +kernel) (pa_cons (pe_op op_add (pe_op op_mul (pe_ix ix_list (pv 0) pe_int (fun _ _ => rfl)) pe_int) pe_int) pa_nil)) pe_int) (pg_sub (pv 0) pe_int set_list))
  (pss_one (ps_ret (pe_op op_mod (pe_callTy call_int1 (by rfl) n_int (by decide +kernel) (pa_cons (pe_op op_fdiv (pe_op op_mod (pe_callTy call_int1 (by rfl) n_int (by decide +kernel) (pa_cons (pe_op op_add (pe_op op_mul (pe_ix ix_list (pv 0) pe_int (fun _ _ => rfl)) pe_int) pe_int) pa_nil)) pe_int) pe_int) pa_nil)) (pv 1)))))), r__law_next h⟩)
abbrev s__law_folded : Stmt := topS 9
theorem sc__law_folded : FnScope ["lines", "line", "width", "rest", "k", "part", "size"] ["lines", "line", "width"] (C8.fnScope s__law_folded) := C8.fnScope_by (by decide +kernel)
theorem c__law_folded {f : Addr} {fd : FuncData} (F : C8.Def K mg "_law_folded" s__law_folded f fd) (b : Binds K fd ["lines", "line", "width"] [])
  (n_isinstance : mg "isinstance" = none) (n_list : mg "list" = none) (n_range : mg "range" = none) (n_len : mg "len" = none) (n_str : mg "str" = none) :
  C8.Cal P w K mg base 1 "_law_folded" (spLawFolded K) [] :=
  C8.cal0 F b .nil sc__law_folded (fun vs H Q E h => l__law_folded h) (fun cdv A outer s H vs Q E hr h => ⟨t__law_folded K,
  (pss_cons (ps_if (pt_not (pt_val (pe_callB call_isi (by rfl) n_isinstance (by decide +kernel) (pa_cons (pv 0) (pa_cons (pe_bltn (v := .ty "list") (by rfl) n_list PyProof.Rows.boot_list rfl) pa_nil))))) (pss_one (ps_ret pe_bl)) pss_nil)
  (pss_cons (ps_set (i := 3) sc__law_folded.nd rfl (Or.inl rfl) (pv 1))
  (pss_cons (ps_for PassesOwn.never rfl (pi_range1 (by rfl) n_range (pa_cons (pe_callB call_len_seq (by rfl) n_len (by decide +kernel) (pa_cons (pv 0) pa_nil)) pa_nil)) (pg_name (i := 4) sc__law_folded.nd rfl (Or.inl rfl)) (pss_cons (ps_set (i := 5) sc__law_folded.nd rfl (Or.inl rfl) (pe_ix ix_list (pv 0) (pv 4) (fun _ _ => rfl)))
  (pss_cons (ps_if (PW.pt (pw_or (pt_not (pt_val (pe_callB call_isi (by rfl) n_isinstance (by decide +kernel) (pa_cons (pv 5) (pa_cons (pe_bltn (v := .ty "str") (by rfl) n_str PyProof.Rows.boot_str rfl) pa_nil))))) (pw_or1 (pt_cmpR op_ne (pe_slice sl_str (pv 3) po_none (po_some (pe_callB call_len_str (by rfl) n_len (by decide +kernel) (pa_cons (pv 5) pa_nil)))) (pv 5) (nomark _))))) (pss_one (ps_ret pe_bl)) pss_nil)
  (pss_cons (ps_set (i := 6) sc__law_folded.nd rfl (Or.inl rfl) (pe_callB call_len_str (by rfl) n_len (by decide +kernel) (pa_cons (pv 5) pa_nil)))
  (pss_cons (ps_if (pt_cmpR op_eq (pv 4) (pe_op op_sub (pe_callB call_len_seq (by rfl) n_len (by decide +kernel) (pa_cons (pv 0) pa_nil)) pe_int) (nomark _)) (pss_one (ps_ret (pe_and (pe_cmpR op_eq (pv 6) (pe_callB call_len_str (by rfl) n_len (by decide +kernel) (pa_cons (pv 3) pa_nil)) (nomark _)) (pe_one (pe_or (pe_cmpR op_le (pv 6) (pv 2) (nomark _)) (pe_one (pe_cmpR op_notIn_sign pe_str (pe_slice sl_str (pv 3) (po_some pe_int) po_none) (by rfl)))))))) pss_nil)
  (pss_cons (ps_if (PW.pt (pw_or (pt_cmpR op_eq (pv 6) pe_int (nomark _)) (pw_or (pt_cmpR op_ge (pv 6) (pe_callB call_len_str (by rfl) n_len (by decide +kernel) (pa_cons (pv 3) pa_nil)) (nomark _)) (pw_or (pt_cmpR op_le (pe_callB call_len_str (by rfl) n_len (by decide +kernel) (pa_cons (pv 3) pa_nil)) (pv 2) (nomark _)) (pw_or1 (pt_cmpR op_ne (pe_ix ix_str (pv 3) (pv 6) (fun _ _ => rfl)) pe_str (nomark _))))))) (pss_one (ps_ret pe_bl)) pss_nil)
  (pss_cons (ps_if (PW.pt (pw_and (pt_cmpR op_le (pv 6) (pv 2) (nomark _)) (pw_and1 (pt_cmpR op_in_sign pe_str (pe_slice sl_str (pv 3) (po_some (pe_op op_add (pv 6) pe_int)) (po_some (pe_op op_add (pv 2) pe_int))) (by rfl))))) (pss_one (ps_ret pe_bl)) pss_nil)
  (pss_cons (ps_if (PW.pt (pw_and (pt_cmpR op_gt (pv 6) (pv 2) (nomark _)) (pw_and1 (pt_cmpR op_in_sign pe_str (pe_slice sl_str (pv 3) (po_some pe_int) (po_some (pv 6))) (by rfl))))) (pss_one (ps_ret pe_bl)) pss_nil)
  (pss_one (ps_set (i := 3) sc__law_folded.nd rfl (Or.inl rfl) (pe_slice sl_str (pv 3) (po_some (pv 6)) po_none)))))))))))
  (pss_one (ps_ret pe_bl))))), r__law_folded h⟩)
abbrev s_fold : Stmt := topS 2
theorem sc_fold : FnScope ["line", "width", "lines", "start", "cut"] ["line", "width"] (C8.fnScope s_fold) := C8.fnScope_by (by decide +kernel)
theorem c_fold {f : Addr} {fd : FuncData} (F : C8.Def K mg "fold" s_fold f fd) (b : Binds K fd ["line", "width"] [])
  (c__cut_of : C8.Cal P w K mg base 1 "_cut_of" (spCut K) []) (n_len : mg "len" = none) :
  C8.Cal P w K mg base 2 "fold" (spFold K) [] :=
  C8.cal0 F b .nil sc_fold (fun vs H Q E h => l_fold h) (fun cdv A outer s H vs Q E hr h => ⟨t_fold K,
  (pss_cons (ps_set (i := 2) sc_fold.nd rfl (Or.inl rfl) (pe_lst pa_nil))
  (pss_cons (ps_set (i := 3) sc_fold.nd rfl (Or.inl rfl) pe_int)
  (pss_cons (ps_while PassesOwn.never (pt_cmpR op_gt (pe_op op_sub (pe_callB call_len_str (by rfl) n_len (by decide +kernel) (pa_cons (pv 0) pa_nil)) (pv 3)) (pv 1) (nomark _)) (pss_cons (ps_set (i := 4) sc_fold.nd rfl (Or.inl rfl) (C8.pe_c c__cut_of hr (by decide) (by rfl) (pa_cons (pv 0) (pa_cons (pv 3) (pa_cons (pv 1) pa_nil)))))
  (pss_cons (ps_if (pt_cmpR op_lt (pv 4) pe_int (nomark _)) (pss_one ps_break) pss_nil)
  (pss_cons (ps_expr (pe_bm PySem.F.plainAttrs_list PySem.F.slot_list_append PySem.F.type_list_append mt_append (pv 2) (pa_cons (pe_slice sl_str (pv 0) (po_some (pv 3)) (po_some (pv 4))) pa_nil)))
  (pss_one (ps_set (i := 3) sc_fold.nd rfl (Or.inl rfl) (pv 4)))))))
  (pss_cons (ps_expr (pe_bm PySem.F.plainAttrs_list PySem.F.slot_list_append PySem.F.type_list_append mt_append (pv 2) (pa_cons (pe_slice sl_str (pv 0) (po_some (pv 3)) po_none) pa_nil)))
  (pss_one (ps_ret (pv 2))))))), r_fold h⟩)
abbrev s__law_words : Stmt := topS 8
theorem sc__law_words : FnScope ["stream", "line", "k", "size"] ["stream"] (C8.fnScope s__law_words) := C8.fnScope_by (by decide +kernel)
theorem c__law_words {f : Addr} {fd : FuncData} (F : C8.Def K mg "_law_words" s__law_words f fd) (b : Binds K fd ["stream"] [])
  (c__law_next : C8.Cal P w K mg base 1 "_law_next" (spNext K) []) (n_range : mg "range" = none) :
  C8.Cal P w K mg base 2 "_law_words" (spWords K) [] :=
  C8.cal0 F b .nil sc__law_words (fun vs H Q E h => l__law_words h) (fun cdv A outer s H vs Q E hr h => ⟨t__law_words K,
  (pss_cons (ps_set (i := 1) sc__law_words.nd rfl (Or.inl rfl) (pe_op op_mulS pe_str (pe_ix ix_tup (pe_tup (pa_cons pe_int (pa_cons pe_int (pa_cons pe_int (pa_cons pe_int (pa_cons pe_int (pa_cons pe_int pa_nil))))))) (C8.pe_c c__law_next hr (by decide) (by rfl) (pa_cons (pv 0) (pa_cons pe_int pa_nil))) (fun _ _ => rfl))))
  (pss_cons (ps_for PassesOwn.never rfl (pi_range1 (by rfl) n_range (pa_cons (C8.pe_c c__law_next hr (by decide) (by rfl) (pa_cons (pv 0) (pa_cons pe_int pa_nil))) pa_nil)) (pg_name (i := 2) sc__law_words.nd rfl (Or.inl rfl)) (pss_cons (ps_set (i := 3) sc__law_words.nd rfl (Or.inl rfl) (pe_ix ix_tup (pe_tup (pa_cons pe_int (pa_cons pe_int (pa_cons (C8.pe_c c__law_next hr (by decide) (by rfl) (pa_cons (pv 0) (pa_cons pe_int pa_nil))) (pa_cons (C8.pe_c c__law_next hr (by decide) (by rfl) (pa_cons (pv 0) (pa_cons pe_int pa_nil))) pa_nil))))) (C8.pe_c c__law_next hr (by decide) (by rfl) (pa_cons (pv 0) (pa_cons pe_int pa_nil))) (fun _ _ => rfl)))
  (pss_one (ps_set (i := 1) sc__law_words.nd rfl (Or.inl rfl) (pe_op op_add_str (pe_op op_add_str (pv 1) (pe_op op_mulS (pe_ix ix_str pe_str (pv 2) (fun _ _ => rfl)) (pv 3))) (pe_op op_mulS pe_str (pe_ix ix_tup (pe_tup (pa_cons pe_int (pa_cons pe_int (pa_cons pe_int (pa_cons pe_int (pa_cons pe_int pa_nil)))))) (C8.pe_c c__law_next hr (by decide) (by rfl) (pa_cons (pv 0) (pa_cons pe_int pa_nil))) (fun _ _ => rfl))))))))
  (pss_cons (ps_if (pt_cmpR op_eq (C8.pe_c c__law_next hr (by decide) (by rfl) (pa_cons (pv 0) (pa_cons pe_int pa_nil))) pe_int (nomark _)) (pss_one (ps_set (i := 1) sc__law_words.nd rfl (Or.inl rfl) (pe_op op_add_str (pv 1) pe_str))) pss_nil)
  (pss_cons (ps_if (pt_cmpR op_eq (C8.pe_c c__law_next hr (by decide) (by rfl) (pa_cons (pv 0) (pa_cons pe_int pa_nil))) pe_int (nomark _)) (pss_one (ps_set (i := 1) sc__law_words.nd rfl (Or.inl rfl) (pe_slice sl_str (pe_op op_mulS (pv 1) pe_int) po_none (po_some pe_int)))) pss_nil)
  (pss_one (ps_ret (pv 1))))))), r__law_words h⟩)
abbrev s__law_width : Stmt := topS 10
theorem sc__law_width : FnScope ["stream", "line", "size", "widths"] ["stream", "line"] (C8.fnScope s__law_width) := C8.fnScope_by (by decide +kernel)
theorem c__law_width {f : Addr} {fd : FuncData} (F : C8.Def K mg "_law_width" s__law_width f fd) (b : Binds K fd ["stream", "line"] [])
  (c__law_next : C8.Cal P w K mg base 1 "_law_next" (spNext K) []) (n_len : mg "len" = none) (n_max : mg "max" = none) :
  C8.Cal P w K mg base 2 "_law_width" (spWidth K) [] :=
  C8.cal0 F b .nil sc__law_width (fun vs H Q E h => l__law_width h) (fun cdv A outer s H vs Q E hr h => ⟨t__law_width K,
  (pss_cons (ps_set (i := 2) sc__law_width.nd rfl (Or.inl rfl) (pe_callB call_len_str (by rfl) n_len (by decide +kernel) (pa_cons (pv 1) pa_nil)))
  (pss_cons (ps_set (i := 3) sc__law_width.nd rfl (Or.inl rfl) (pe_lst (pa_cons pe_int (pa_cons pe_int (pa_cons (pe_op op_add pe_int (C8.pe_c c__law_next hr (by decide) (by rfl) (pa_cons (pv 0) (pa_cons pe_int pa_nil)))) (pa_cons (pe_op op_add pe_int (C8.pe_c c__law_next hr (by decide) (by rfl) (pa_cons (pv 0) (pa_cons pe_int pa_nil)))) (pa_cons (pe_callB (call_max2 rfl) (by rfl) n_max (by decide +kernel) (pa_cons pe_int (pa_cons (pv 2) pa_nil))) (pa_cons (pe_callB (call_max2 rfl) (by rfl) n_max (by decide +kernel) (pa_cons pe_int (pa_cons (pe_op op_sub (pv 2) pe_int) pa_nil))) (pa_cons (pe_op op_add (pv 2) pe_int) pa_nil)))))))))
  (pss_cons (ps_set (i := 3) sc__law_width.nd rfl (Or.inl rfl) (pe_op op_cat (pv 3) (pe_lst (pa_cons (pe_op op_pow pe_int pe_int) (pa_cons (pe_op op_add pe_int (C8.pe_c c__law_next hr (by decide) (by rfl) (pa_cons (pv 0) (pa_cons (pe_op op_add pe_int (pv 2)) pa_nil)))) pa_nil)))))
  (pss_one (ps_ret (pe_ix ix_list (pv 3) (C8.pe_c c__law_next hr (by decide) (by rfl) (pa_cons (pv 0) (pa_cons pe_int pa_nil))) (fun _ _ => rfl))))))), r__law_width h⟩)
abbrev s_law : Stmt := topS 11
theorem sc_law : FnScope ["script", "k", "stream", "line", "width", "lines"] ["script"] (C8.fnScope s_law) := C8.fnScope_by (by decide +kernel)
theorem f_law {f : Addr} {fd : FuncData} (F : C8.Fun K "law" "law" s_law f fd)
  (c__law_stream : C8.Cal P w K mg base 1 "_law_stream" (spStream K) []) (c__law_cell : C8.Cal P w K mg base 1 "_law_cell" (spCell K) []) (c__law_words : C8.Cal P w K mg base 2 "_law_words" (spWords K) []) (c__law_width : C8.Cal P w K mg base 2 "_law_width" (spWidth K) []) (c_fold : C8.Cal P w K mg base 2 "fold" (spFold K) []) (c__law_folded : C8.Cal P w K mg base 1 "_law_folded" (spLawFolded K) []) (n_range : mg "range" = none) (n_min : mg "min" = none) (n_len : mg "len" = none) (g_WIDTH : ∃ u, mg "WIDTH" = some u ∧ RelV v_WIDTH u) :
  FnOk P w K mg base C8.CX0 3 f fd ["script"] (spLaw K) :=
  C8.fn0 F sc_law (fun vs H Q E h => l_law h) (fun cdv A outer s H vs Q E hr h => ⟨t_law K,
  (pss_cons (ps_for PassesOwn.never rfl (pi_range1 (by rfl) n_range (pa_cons (pe_op op_add pe_int (pe_callB (call_min2 rfl) (by rfl) n_min (by decide +kernel) (pa_cons (pe_callB call_len_seq (by rfl) n_len (by decide +kernel) (pa_cons (pv 0) pa_nil)) (pa_cons pe_int pa_nil)))) pa_nil)) (pg_name (i := 1) sc_law.nd rfl (Or.inl rfl)) (pss_cons (ps_set (i := 2) sc_law.nd rfl (Or.inl rfl) (C8.pe_c c__law_stream hr (by decide) (by rfl) (pa_cons (C8.pe_c c__law_cell hr (by decide) (by rfl) (pa_cons (pv 0) (pa_cons (pv 1) pa_nil))) (pa_cons (pv 1) pa_nil))))
  (pss_cons (ps_set (i := 3) sc_law.nd rfl (Or.inl rfl) (C8.pe_c c__law_words hr (by decide) (by rfl) (pa_cons (pv 2) pa_nil)))
  (pss_cons (ps_set (i := 4) sc_law.nd rfl (Or.inl rfl) (C8.pe_c c__law_width hr (by decide) (by rfl) (pa_cons (pv 2) (pa_cons (pv 3) pa_nil))))
  (pss_cons (ps_set (i := 5) sc_law.nd rfl (Or.inl rfl) (C8.pe_c c_fold hr (by decide) (by rfl) (pa_cons (pv 3) (pa_cons (pv 4) pa_nil))))
  (pss_cons (ps_if (pt_not (pt_val (C8.pe_c c__law_folded hr (by decide) (by rfl) (pa_cons (pv 5) (pa_cons (pv 3) (pa_cons (pv 4) pa_nil)))))) (pss_one (ps_ret pe_bl)) pss_nil)
  (pss_cons (ps_expr (pe_bm PySem.F.plainAttrs_list PySem.F.slot_list_append PySem.F.type_list_append mt_append (pv 5) (pa_cons pe_str pa_nil)))
  (pss_cons (ps_asg pe_str (pg_sub (pv 5) pe_int set_list))
  (pss_one (ps_if (PW.pt (pw_or (pt_not (pt_val (C8.pe_c c__law_folded hr (by decide) (by rfl) (pa_cons (C8.pe_c c_fold hr (by decide) (by rfl) (pa_cons (pv 3) (pa_cons (pv 4) pa_nil))) (pa_cons (pv 3) (pa_cons (pv 4) pa_nil)))))) (pw_or1 (pt_not (pt_val (C8.pe_c c__law_folded hr (by decide) (by rfl) (pa_cons (C8.pe_c c_fold hr (by decide) (by rfl) (pa_cons (pv 3) (pa_cons (C8.pe_gc (by rfl) g_WIDTH) pa_nil))) (pa_cons (pv 3) (pa_cons pe_int pa_nil))))))))) (pss_one (ps_ret pe_bl)) pss_nil))))))))))
  (pss_one (ps_ret (pe_and (pe_cmpR (op_eqD hr.units) (C8.pe_c c_fold hr (by decide) (by rfl) (pa_cons pe_str (pa_cons pe_int pa_nil))) (pe_lst (pa_cons pe_str pa_nil)) (nomark _)) (pe_one (pe_cmpR op_eq (C8.pe_gc (by rfl) g_WIDTH) pe_int (nomark _))))))), r_law h⟩)
end
theorem all_mk {l : PySem.W.OpenLaw} {w : World} {K : PySem.W.Frag} {h : Heap} {mg : Str → Option Value} {fa f0 f1 f2 f3 f4 f5 f6 f7 f8 : Addr} (X : K.In h) (G : h.Ns mainGlobals mg) (hfa : mg "law" = some (.ref fa))
    {od0 an0 od1 an1 od2 an2 od3 an3 od4 an4 od5 an5 od6 an6 od7 an7 od8 an8 : Option Addr} {sl0 sl1 sl2 sl3 sl4 sl5 sl6 sl7 sl8 : Array (Option Value)} {oc0 kV0 dc0 pm0 cd0 ct0 oc1 kV1 dc1 pm1 cd1 ct1 oc2 kV2 dc2 pm2 cd2 ct2 oc3 kV3 dc3 pm3 cd3 ct3 oc4 kV4 dc4 pm4 cd4 ct4 oc5 kV5 dc5 pm5 cd5 ct5 oc6 kV6 dc6 pm6 cd6 ct6 oc7 kV7 dc7 pm7 cd7 ct7 oc8 kV8 dc8 pm8 cd8 ct8 : Value}
    (a0 : PySem.W.nsIn K mainGlobals "_cut_of" = some (some (.ref f0))) (l0 : K.lookup f0 = some ⟨oc0, od0, .func (PySem.W.fnOf "_cut_of" "_cut_of" (C8.fnArgs s__cut_of) (C8.fnBody s__cut_of) (C8.fnScope s__cut_of) .none kV0 dc0 pm0 an0 cd0 ct0), sl0⟩) (c0 : PySem.W.codeIn K cd0 "_cut_of" = true) (k0 : PySem.W.keepIn K (.ref f0) = true)
    (a1 : PySem.W.nsIn K mainGlobals "_law_cell" = some (some (.ref f1))) (l1 : K.lookup f1 = some ⟨oc1, od1, .func (PySem.W.fnOf "_law_cell" "_law_cell" (C8.fnArgs s__law_cell) (C8.fnBody s__law_cell) (C8.fnScope s__law_cell) .none kV1 dc1 pm1 an1 cd1 ct1), sl1⟩) (c1 : PySem.W.codeIn K cd1 "_law_cell" = true) (k1 : PySem.W.keepIn K (.ref f1) = true)
    (a2 : PySem.W.nsIn K mainGlobals "_law_stream" = some (some (.ref f2))) (l2 : K.lookup f2 = some ⟨oc2, od2, .func (PySem.W.fnOf "_law_stream" "_law_stream" (C8.fnArgs s__law_stream) (C8.fnBody s__law_stream) (C8.fnScope s__law_stream) .none kV2 dc2 pm2 an2 cd2 ct2), sl2⟩) (c2 : PySem.W.codeIn K cd2 "_law_stream" = true) (k2 : PySem.W.keepIn K (.ref f2) = true)
    (a3 : PySem.W.nsIn K mainGlobals "_law_next" = some (some (.ref f3))) (l3 : K.lookup f3 = some ⟨oc3, od3, .func (PySem.W.fnOf "_law_next" "_law_next" (C8.fnArgs s__law_next) (C8.fnBody s__law_next) (C8.fnScope s__law_next) .none kV3 dc3 pm3 an3 cd3 ct3), sl3⟩) (c3 : PySem.W.codeIn K cd3 "_law_next" = true) (k3 : PySem.W.keepIn K (.ref f3) = true)
    (a4 : PySem.W.nsIn K mainGlobals "_law_folded" = some (some (.ref f4))) (l4 : K.lookup f4 = some ⟨oc4, od4, .func (PySem.W.fnOf "_law_folded" "_law_folded" (C8.fnArgs s__law_folded) (C8.fnBody s__law_folded) (C8.fnScope s__law_folded) .none kV4 dc4 pm4 an4 cd4 ct4), sl4⟩) (c4 : PySem.W.codeIn K cd4 "_law_folded" = true) (k4 : PySem.W.keepIn K (.ref f4) = true)
    (a5 : PySem.W.nsIn K mainGlobals "fold" = some (some (.ref f5))) (l5 : K.lookup f5 = some ⟨oc5, od5, .func (PySem.W.fnOf "fold" "fold" (C8.fnArgs s_fold) (C8.fnBody s_fold) (C8.fnScope s_fold) .none kV5 dc5 pm5 an5 cd5 ct5), sl5⟩) (c5 : PySem.W.codeIn K cd5 "fold" = true) (k5 : PySem.W.keepIn K (.ref f5) = true)
    (a6 : PySem.W.nsIn K mainGlobals "_law_words" = some (some (.ref f6))) (l6 : K.lookup f6 = some ⟨oc6, od6, .func (PySem.W.fnOf "_law_words" "_law_words" (C8.fnArgs s__law_words) (C8.fnBody s__law_words) (C8.fnScope s__law_words) .none kV6 dc6 pm6 an6 cd6 ct6), sl6⟩) (c6 : PySem.W.codeIn K cd6 "_law_words" = true) (k6 : PySem.W.keepIn K (.ref f6) = true)
    (a7 : PySem.W.nsIn K mainGlobals "_law_width" = some (some (.ref f7))) (l7 : K.lookup f7 = some ⟨oc7, od7, .func (PySem.W.fnOf "_law_width" "_law_width" (C8.fnArgs s__law_width) (C8.fnBody s__law_width) (C8.fnScope s__law_width) .none kV7 dc7 pm7 an7 cd7 ct7), sl7⟩) (c7 : PySem.W.codeIn K cd7 "_law_width" = true) (k7 : PySem.W.keepIn K (.ref f7) = true)
    (a8 : PySem.W.nsIn K mainGlobals "law" = some (some (.ref f8))) (l8 : K.lookup f8 = some ⟨oc8, od8, .func (PySem.W.fnOf "law" "law" (C8.fnArgs s_law) (C8.fnBody s_law) (C8.fnScope s_law) .none kV8 dc8 pm8 an8 cd8 ct8), sl8⟩) (c8 : PySem.W.codeIn K cd8 "law" = true) (k8 : PySem.W.keepIn K (.ref f8) = true)
    (z0 : PySem.W.nsIn K mainGlobals "len" = some none)
    (z1 : PySem.W.nsIn K mainGlobals "int" = some none)
    (z2 : PySem.W.nsIn K mainGlobals "isinstance" = some none)
    (z3 : PySem.W.nsIn K mainGlobals "list" = some none)
    (z4 : PySem.W.nsIn K mainGlobals "range" = some none)
    (z5 : PySem.W.nsIn K mainGlobals "str" = some none)
    (z6 : PySem.W.nsIn K mainGlobals "max" = some none)
    (z7 : PySem.W.nsIn K mainGlobals "min" = some none)
    {t0 : Tok} (v0 : PySem.W.nsIn K mainGlobals "WIDTH" = some (some (.int 60 t0)))
    : ∃ fd : FuncData, (∀ (s : Shared) (v : Value), BindsTo s fd ⟨[v], []⟩ [("script", v)]) ∧ ∀ base : Heap, K.In base → base.Ns mainGlobals mg → FnOk l.prog w K mg base C8.CX0 3 fa fd ["script"] (spLaw K) := by
  have e := hfa.symm.trans (PySem.W.mg_of X G a8)
  cases e
  have n_len : mg "len" = none := PySem.W.mg_none_of X G z0
  have n_int : mg "int" = none := PySem.W.mg_none_of X G z1
  have n_isinstance : mg "isinstance" = none := PySem.W.mg_none_of X G z2
  have n_list : mg "list" = none := PySem.W.mg_none_of X G z3
  have n_range : mg "range" = none := PySem.W.mg_none_of X G z4
  have n_str : mg "str" = none := PySem.W.mg_none_of X G z5
  have n_max : mg "max" = none := PySem.W.mg_none_of X G z6
  have n_min : mg "min" = none := PySem.W.mg_none_of X G z7
  have g_WIDTH : ∃ u, mg "WIDTH" = some u ∧ RelV v_WIDTH u := ⟨_, PySem.W.mg_of X G v0, _, rfl⟩
  have F0 : C8.Fun K "_cut_of" "_cut_of" s__cut_of _ _ := ⟨⟨_, _, _, _, _, _, _, _, _, _, rfl, l0, c0⟩⟩
  have F1 : C8.Fun K "_law_cell" "_law_cell" s__law_cell _ _ := ⟨⟨_, _, _, _, _, _, _, _, _, _, rfl, l1, c1⟩⟩
  have F2 : C8.Fun K "_law_stream" "_law_stream" s__law_stream _ _ := ⟨⟨_, _, _, _, _, _, _, _, _, _, rfl, l2, c2⟩⟩
  have F3 : C8.Fun K "_law_next" "_law_next" s__law_next _ _ := ⟨⟨_, _, _, _, _, _, _, _, _, _, rfl, l3, c3⟩⟩
  have F4 : C8.Fun K "_law_folded" "_law_folded" s__law_folded _ _ := ⟨⟨_, _, _, _, _, _, _, _, _, _, rfl, l4, c4⟩⟩
  have F5 : C8.Fun K "fold" "fold" s_fold _ _ := ⟨⟨_, _, _, _, _, _, _, _, _, _, rfl, l5, c5⟩⟩
  have F6 : C8.Fun K "_law_words" "_law_words" s__law_words _ _ := ⟨⟨_, _, _, _, _, _, _, _, _, _, rfl, l6, c6⟩⟩
  have F7 : C8.Fun K "_law_width" "_law_width" s__law_width _ _ := ⟨⟨_, _, _, _, _, _, _, _, _, _, rfl, l7, c7⟩⟩
  have F8 : C8.Fun K "law" "law" s_law _ _ := ⟨⟨_, _, _, _, _, _, _, _, _, _, rfl, l8, c8⟩⟩
  refine ⟨PySem.W.fnOf "law" "law" (C8.fnArgs s_law) (C8.fnBody s_law) (C8.fnScope s_law) .none kV8 dc8 pm8 an8 cd8 ct8, fun s v => .of_eq rfl, fun base _ _ => ?_⟩
  have c__cut_of := c__cut_of (P := l.prog) (w := w) (base := base) ⟨F0, PySem.W.mg_of X G a0, k0⟩ (F0.binds rfl fun _ _ _ _ _ _ us hl => match us, hl with | [_, _, _], _ => rfl) 
  have c__law_cell := c__law_cell (P := l.prog) (w := w) (base := base) ⟨F1, PySem.W.mg_of X G a1, k1⟩ (F1.binds rfl fun _ _ _ _ _ _ us hl => match us, hl with | [_, _], _ => rfl) n_len
  have c__law_stream := c__law_stream (P := l.prog) (w := w) (base := base) ⟨F2, PySem.W.mg_of X G a2, k2⟩ (F2.binds rfl fun _ _ _ _ _ _ us hl => match us, hl with | [_, _], _ => rfl) n_int
  have c__law_next := c__law_next (P := l.prog) (w := w) (base := base) ⟨F3, PySem.W.mg_of X G a3, k3⟩ (F3.binds rfl fun _ _ _ _ _ _ us hl => match us, hl with | [_, _], _ => rfl) n_int
  have c__law_folded := c__law_folded (P := l.prog) (w := w) (base := base) ⟨F4, PySem.W.mg_of X G a4, k4⟩ (F4.binds rfl fun _ _ _ _ _ _ us hl => match us, hl with | [_, _, _], _ => rfl) n_isinstance n_list n_range n_len n_str
  have c_fold := c_fold (P := l.prog) (w := w) (base := base) ⟨F5, PySem.W.mg_of X G a5, k5⟩ (F5.binds rfl fun _ _ _ _ _ _ us hl => match us, hl with | [_, _], _ => rfl) c__cut_of n_len
  have c__law_words := c__law_words (P := l.prog) (w := w) (base := base) ⟨F6, PySem.W.mg_of X G a6, k6⟩ (F6.binds rfl fun _ _ _ _ _ _ us hl => match us, hl with | [_], _ => rfl) c__law_next n_range
  have c__law_width := c__law_width (P := l.prog) (w := w) (base := base) ⟨F7, PySem.W.mg_of X G a7, k7⟩ (F7.binds rfl fun _ _ _ _ _ _ us hl => match us, hl with | [_, _], _ => rfl) c__law_next n_len n_max
  exact f_law F8 c__law_stream c__law_cell c__law_words c__law_width c_fold c__law_folded n_range n_min n_len g_WIDTH
end T
open PySem PySem.W PyProof.Rows
set_option maxHeartbeats 0 in
theorem PySem.Challenge.cw_lettersonce_k09_fold_holds : PySem.Challenge.rw_lettersonce_k09_fold.Holds := by
  w_on; o_law; k_head; (case hw => w_witness2)
  k_fill
  refine L2.walk_of (l := PySem.Challenge.rw_lettersonce_k09_fold) (n := 63) (k := 3) (x := "script") (CX := fun _ => C8.CX0) (sp := fun w => T.spLaw _) rfl (by decide) rfl ⟨rfl, by decide, by decide⟩ (fun w h Y => PySem.W.kIn_of Y) ?F (fun _ _ a ns hl _ hS => ⟨a, ns, rfl, hS, hl, fun _ => rfl⟩) (fun _ _ _ _ _ h => h)
  case F =>
    intro w mg fa h KX G hmg
    refine' T.all_mk KX G hmg ?a0 ?l0 ?c0 ?k0 ?a1 ?l1 ?c1 ?k1 ?a2 ?l2 ?c2 ?k2 ?a3 ?l3 ?c3 ?k3 ?a4 ?l4 ?c4 ?k4 ?a5 ?l5 ?c5 ?k5 ?a6 ?l6 ?c6 ?k6 ?a7 ?l7 ?c7 ?k7 ?a8 ?l8 ?c8 ?k8 ?z0 ?z1 ?z2 ?z3 ?z4 ?z5 ?z6 ?z7 ?v0
    (case a0 => k_is); (case l0 => k_is); (case c0 => k_is); (case k0 => k_is); (case a1 => k_is); (case l1 => k_is); (case c1 => k_is); (case k1 => k_is); (case a2 => k_is); (case l2 => k_is); (case c2 => k_is); (case k2 => k_is); (case a3 => k_is); (case l3 => k_is); (case c3 => k_is); (case k3 => k_is); (case a4 => k_is); (case l4 => k_is); (case c4 => k_is); (case k4 => k_is); (case a5 => k_is); (case l5 => k_is); (case c5 => k_is); (case k5 => k_is); (case a6 => k_is); (case l6 => k_is); (case c6 => k_is); (case k6 => k_is); (case a7 => k_is); (case l7 => k_is); (case c7 => k_is); (case k7 => k_is); (case a8 => k_is); (case l8 => k_is); (case c8 => k_is); (case k8 => k_is); (case z0 => k_is); (case z1 => k_is); (case z2 => k_is); (case z3 => k_is); (case z4 => k_is); (case z5 => k_is); (case z6 => k_is); (case z7 => k_is); (case v0 => k_is)
