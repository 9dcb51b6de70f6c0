import PyProof.Rows.All
import Wide.All
import OpenK.AllK
import Wide.FinOn
import HandS.ForMost
import HandS.IsInst
import HandS.More
import PyProof.TypeEq
import PyProof.InstEq
import HandS.Codes
import HandS.TupLe
import HandS.Walk
import HandS.StrMore
import PyProof.StrBlock2
import HandS.Property
import HandS.DictComp
import HandS.HeadHook3
import HandS.Zip
import HandS.FStr
import HandS.TupAny
import PyProof.FitsInt
import KE.DataCmp
import PySem.Challenge.RW_lettersonce_k60_exam_of_one_history
set_option Elab.async false
set_option linter.all false
set_option maxRecDepth 100000
set_option maxHeartbeats 4000000
namespace TyNe
open PySem PySem.Spec PyProof.Rows L2 PySem.TypeEq Builtin

theorem slot_type_ne : Slot "type" (cmpInfo .NotEq).2.1 "object.__ne__" :=
  .of (owner := "object") (n := "__ne__") (by rw [typeLookup_type, builtinLookup_eq_fast]; kernel_rfl) (by decide +kernel) (by decide +kernel) (by decide +kernel)
    (by first | exact .inl (by decide +kernel) | exact .inr (by decide +kernel)) (by rw [isSubtype_type]; kernel_rfl)
theorem slot_type_ne_refl : Slot "type" (cmpInfo .NotEq).2.2 "object.__ne__" :=
  .of (owner := "object") (n := "__ne__") (by rw [typeLookup_type, builtinLookup_eq_fast]; kernel_rfl) (by decide +kernel) (by decide +kernel) (by decide +kernel)
    (by first | exact .inl (by decide +kernel) | exact .inr (by decide +kernel)) (by rw [isSubtype_type]; kernel_rfl)
theorem slot_type_eq' : Slot "type" "__eq__" "object.__eq__" := slot_type_eq
section
variable {prog : Program} {w : World} {A : Around} {E : Value → Shared → Prop} {s : Shared}
theorem ne_entry_same {X : String} (hX : ∀ s' : Shared, s'.TypeIs (.type X) "type") {Q : Fin → Shared → Prop} (h : Q (.done (.ret (.bool false))) s) :
    wpAny (model prog w) A (Builtin.«object.__ne__» ⟨[.type X, .type X], []⟩) Q E s := by
  unfold Builtin.«object.__ne__»
  repeat (first
    | with_reducible refine wpAny_cRoomFor_or (.inl rfl) ?_
    | (refine wpAny_bind (m := callSpecialIfBound? (.type X) (Str.ofString "__eq__") [.type X]) (wpAny_callSpecialIfBound?_slot (hX s) slot_type_eq'
        (call_gives slot_type_eq' (hX s) F.entry_object_eq (F.args_object_eq_2 _ _) (object_eq_same rfl (by simp)) ?_)))
    | wp_step)
  show wpAny _ A _ Q E s
  repeat (first | exact h | exact wpAny_pure h | (refine wpAny_bind (m := truthy (.bool _)) (wpAny_truthy_bool ?_)) | wp_step)
theorem ne_entry_other {X Y : String} (hX : ∀ s' : Shared, s'.TypeIs (.type X) "type") (hne : (Value.type X == Value.type Y) = false) {Q : Fin → Shared → Prop} (h : Q (.done (.ret .notImplemented)) s) :
    wpAny (model prog w) A (Builtin.«object.__ne__» ⟨[.type X, .type Y], []⟩) Q E s := by
  unfold Builtin.«object.__ne__»
  repeat (first
    | with_reducible refine wpAny_cRoomFor_or (.inl rfl) ?_
    | (refine wpAny_bind (m := callSpecialIfBound? (.type X) (Str.ofString "__eq__") [.type Y]) (wpAny_callSpecialIfBound?_slot (hX s) slot_type_eq'
        (call_gives slot_type_eq' (hX s) F.entry_object_eq (F.args_object_eq_2 _ _) (object_eq_other rfl hne) ?_)))
    | wp_step)
  show wpAny _ A _ Q E s
  repeat (first | exact h | exact wpAny_pure h | wp_step)
theorem call_ne_same {X : String} (hX : ∀ s' : Shared, s'.TypeIs (.type X) "type") {Q : Value → Shared → Prop} (h : Q (.bool false) s) :
    wpAny (model prog w) A (call (.builtin "object.__ne__") [.type X, .type X]) Q E s :=
  wpAny_call_entry slot_type_ne (hX s) F.cmpEntry_ne (ne_entry_same hX ⟨_, rfl, h⟩) (F.cmpArgs_ne _ _)
theorem call_ne_other {X Y : String} (hX : ∀ s' : Shared, s'.TypeIs (.type X) "type") (hne : (Value.type X == Value.type Y) = false) {Q : Value → Shared → Prop} (h : Q .notImplemented s) :
    wpAny (model prog w) A (call (.builtin "object.__ne__") [.type X, .type Y]) Q E s :=
  wpAny_call_entry slot_type_ne (hX s) F.cmpEntry_ne (ne_entry_other hX hne ⟨_, rfl, h⟩) (F.cmpArgs_ne _ _)
theorem ne_type_same {Q : Value → Shared → Prop} {X : String} (hX : ∀ s' : Shared, s'.TypeIs (.type X) "type") (h : Q (.bool false) s) : wpAny (model prog w) A (compareOp .NotEq (.type X) (.type X)) Q E s := by
  show wpAny _ A (richCompare .NotEq _ _) Q E s
  exact wpAny_richCompare_same (T := "type") (hX s) (hX s) slot_type_ne (call_ne_same hX ⟨(by intro e; cases e), h⟩)
theorem rich_ne_decline {M : Model} {a b : Value} {T id : String} {k : Bool} {Q : Value → Shared → Prop} (ha : ∀ s' : Shared, s'.TypeIs a T) (hb : ∀ s' : Shared, s'.TypeIs b T)
    (h1 : Slot T (cmpInfo .NotEq).2.1 id) (h2 : Slot T (cmpInfo .NotEq).2.2 id) (hv : [a, b].any Value.onHeap = false) (hk : isSame a b = pure k)
    (hc : wpAny M A (call (.builtin id) [a, b]) (fun v s₁ => v = .notImplemented ∧ wpAny M A (call (.builtin id) [b, a]) (fun v s₂ => v = .notImplemented ∧ Q (.bool (!k)) s₂) E s₁) E s) :
    wpAny M A (richCompare .NotEq a b) Q E s := by
  rcases hi : cmpInfo CmpOp.NotEq with ⟨sym, f, r⟩
  rw [hi] at h1 h2
  simp only [richCompare, hi, (ha s).oneThing_none]
  try with_reducible refine wpAny_holding ?_
  refine wpAny_bind (wpAny_cRoomFor_or (.inl hv) ?_)
  refine wpAny_bind (wpAny_typeOf (ha s) (wpAny_bind (wpAny_typeOf (hb s) ?_)))
  simp only [bne_self_eq_false, Bool.false_eq_true, if_false, pure_bind, Bool.not_false, if_true]
  refine wpAny_bind (m := tryCompare a _ b) (wpAny_tryCompare_declines (ha s) h1 (wpAny_mono hc (fun v s₁ h₁ => ⟨h₁.1, ?_⟩) fun _ _ x => x))
  refine wpAny_bind (m := tryCompare b _ a) (wpAny_tryCompare_declines (hb s₁) h2 (wpAny_mono h₁.2 (fun v s₂ h₂ => ⟨h₂.1, ?_⟩) fun _ _ x => x))
  refine wpAny_bind (wpAny_rule (wpAny_bind (wpAny_of_eq hk (wpAny_pure h₂.2))))
theorem ne_type_other {Q : Value → Shared → Prop} {X Y : String} (hX : ∀ s' : Shared, s'.TypeIs (.type X) "type") (hY : ∀ s' : Shared, s'.TypeIs (.type Y) "type") (hne : (Value.type X == Value.type Y) = false) (h : Q (.bool true) s) : wpAny (model prog w) A (compareOp .NotEq (.type X) (.type Y)) Q E s := by
  have hne' : (Value.type Y == Value.type X) = false := by
    rw [Bool.eq_false_iff] at hne ⊢
    intro e
    exact hne (by rw [beq_iff_eq] at e ⊢; exact e.symm)
  show wpAny _ A (richCompare .NotEq _ _) Q E s
  exact rich_ne_decline (T := "type") (k := false) hX hY slot_type_ne slot_type_ne_refl rfl (by rw [isSame_plain rfl, hne])
    (call_ne_other hX hne ⟨rfl, call_ne_other hY hne' ⟨rfl, h⟩⟩)
end
/-- the types whose own type is plainly `type` -/
def Ty9 (a : String) : Prop := ∀ s' : Shared, s'.TypeIs (.type a) "type"
section
variable {X : Cx}
def rEqTy : R2 := fun x y H Q => ∃ a b, x = .ty a ∧ y = .ty b ∧ Ty9 a ∧ Ty9 b ∧ Q (.bl (decide (a = b))) H
def rNeTy : R2 := fun x y H Q => ∃ a b, x = .ty a ∧ y = .ty b ∧ Ty9 a ∧ Ty9 b ∧ Q (.bl (!decide (a = b))) H
theorem op_eqTy : OpR X (compareOp .Eq) rEqTy := by
  intro pins s σ H x y v u Q I rx ry h
  obtain ⟨a, b, rfl, rfl, ta, tb, q⟩ := h
  cases (show v = Value.type a from rx)
  cases (show u = Value.type b from ry)
  by_cases e : a = b
  · subst e
    exact eq_type_same ta (fin_bl I q (by simp))
  · exact eq_type_other ta tb (by rw [ty_beq]; exact decide_eq_false e) (fin_bl I q (by simp [e]))
theorem op_neTy : OpR X (compareOp .NotEq) rNeTy := by
  intro pins s σ H x y v u Q I rx ry h
  obtain ⟨a, b, rfl, rfl, ta, tb, q⟩ := h
  cases (show v = Value.type a from rx)
  cases (show u = Value.type b from ry)
  by_cases e : a = b
  · subst e
    exact ne_type_same ta (fin_bl I q (by simp))
  · exact ne_type_other ta tb (by rw [ty_beq]; exact decide_eq_false e) (fin_bl I q (by simp [e]))
end
end TyNe

namespace Wp
open PySem PySem.Spec PyProof.Rows L2 TyNe

/-! ### the rules' readings under short names -/
abbrev qAdd : R2 := rI0 fun i j => .int (i + j)
abbrev qSub : R2 := rI0 fun i j => .int (i - j)
abbrev qMul : R2 := rI CMul fun i j => .int (i * j)
abbrev qFdiv : R2 := rI CDiv fun i j => .int (i / j)
abbrev qMod : R2 := rI (fun _ j => 0 < j) fun i j => .int (i % j)
abbrev qPow : R2 := rI CPow fun i j => .int (i ^ j.toNat)
abbrev qNeg : V → Hp → VK → Prop := rU fun i => .int (-i)
abbrev qLt : R2 := rI0 fun i j => .bl (decide (i < j))
abbrev qLe : R2 := rI0 fun i j => .bl (decide (i ≤ j))
abbrev qGt : R2 := rI0 fun i j => .bl (decide (j < i))
abbrev qGe : R2 := rI0 fun i j => .bl (decide (j ≤ i))
abbrev qAddS : R2 := fun x y H Q => ∃ i j, x = .str i ∧ y = .str j ∧ i.length + j.length ≤ sizeLine ∧ Q (.str (i ++ j)) H
abbrev qInSign : R2 := fun x y H Q => ∃ (c : Nat) (z : Str), x = .str ⟨#[c]⟩ ∧ y = .str z ∧ Q (.bl (decide (c ∈ z.cps.toList))) H
abbrev qNinSign : R2 := fun x y H Q => ∃ (c : Nat) (z : Str), x = .str ⟨#[c]⟩ ∧ y = .str z ∧ Q (.bl (!decide (c ∈ z.cps.toList))) H
abbrev qLtS : R2 := fun x y H Q => ∃ i j, x = .str i ∧ y = .str j ∧ Q (.bl (decide (i.cps.toList < j.cps.toList))) H
abbrev qLeS : R2 := fun x y H Q => ∃ i j, x = .str i ∧ y = .str j ∧ Q (.bl (!decide (j.cps.toList < i.cps.toList))) H
abbrev qGtS : R2 := fun x y H Q => ∃ i j, x = .str i ∧ y = .str j ∧ Q (.bl (decide (j.cps.toList < i.cps.toList))) H
abbrev qGeS : R2 := fun x y H Q => ∃ i j, x = .str i ∧ y = .str j ∧ Q (.bl (!decide (i.cps.toList < j.cps.toList))) H
abbrev qIsBl : R2 := fun x y H Q => ∃ a b, x = .bl a ∧ y = .bl b ∧ Q (.bl (decide (a = b))) H
abbrev qLenStr : List V → Hp → VK → Prop := fun xs H Q => ∃ z, xs = [.str z] ∧ z.length ≤ sizeLine ∧ Q (.int z.length) H
abbrev qLenSeq (K : PySem.W.Frag) : List V → Hp → VK → Prop := fun xs H Q => ∃ p ys, xs = [.ref p] ∧ (SqL K H p ys ∨ SqT K H p ys) ∧ Q (.int ys.length) H
abbrev qInt1 : List V → Hp → VK → Prop := fun xs H Q => (∃ i, xs = [.int i] ∧ Q (.int i) H) ∨ ∃ k, xs = [.bl k] ∧ Q (.int (if k then 1 else 0)) H
abbrev qStrInt : List V → Hp → VK → Prop := fun xs H Q => ∃ i : Int, xs = [.int i] ∧ i.natAbs.log2 < 1920 ∧ Q (.str (toString i)) H
abbrev qTupleOf (K : PySem.W.Frag) : List V → Hp → VK → Prop := fun xs H Q => ∃ p ys, xs = [.ref p] ∧ ((SqL K H p ys ∧ ∀ l, H l = none → Q (.ref l) (upd H l (.tup ys))) ∨ (SqT K H p ys ∧ Q (.ref p) H))
abbrev qListOf (K : PySem.W.Frag) : List V → Hp → VK → Prop := fun xs H Q => ∃ p ys, xs = [.ref p] ∧ (SqL K H p ys ∨ SqT K H p ys) ∧ ∀ l, H l = none → Q (.ref l) (upd H l (.lst ys))
abbrev qIsN : R2 := fun x y H Q => y = .non ∧ Q (.bl (decide (x = .non))) H
abbrev qNotN : R2 := fun x y H Q => y = .non ∧ Q (.bl (!decide (x = .non))) H
abbrev qMax2 : List V → Hp → VK → Prop := fun xs H Q => ∃ i j, xs = [.int i, .int j] ∧ Q (.int (if j > i then j else i)) H
abbrev qMin2 : List V → Hp → VK → Prop := fun xs H Q => ∃ i j, xs = [.int i, .int j] ∧ Q (.int (if j < i then j else i)) H

/-! ### heaps -/
/-- what was tracked stands as it stood, but p -/
def Kp (p : Addr) (H H' : Hp) : Prop := ∀ b o, b ≠ p → H b = some o → H' b = some o
theorem Same.kp {p : Addr} {H H' : Hp} (h : Same H H') : Kp p H H' := fun b o _ e => h b o e
theorem Kp.refl {p : Addr} {H : Hp} : Kp p H H := fun _ _ _ e => e
theorem Kp.trans {p : Addr} {H H1 H2 : Hp} (a : Kp p H H1) (b : Kp p H1 H2) : Kp p H H2 := fun c o n e => b c o n (a c o n e)
theorem Kp.get {p : Addr} {H H' : Hp} (h : Kp p H H') {b : Addr} {o : HO} (n : b ≠ p) (e : H b = some o) : H' b = some o := h b o n e
theorem Kp.updp {p : Addr} {H H' : Hp} {o : HO} (h : Kp p H H') : Kp p H (upd H' p o) := fun b u n e => by
  rw [upd_ne n]
  exact h b u n e
theorem Kp.upd {p a : Addr} {H H' : Hp} {o : HO} (h : Kp p H H') (n : H a = none) : Kp p H (upd H' a o) := fun b u m e => by
  rw [upd_ne (ne_of_none e n)]
  exact h b u m e
theorem Same.upd {a : Addr} {H H' : Hp} {o : HO} (h : Same H H') (n : H a = none) : Same H (L2.upd H' a o) := fun b u e => by
  rw [upd_ne (ne_of_none e n)]
  exact h b u e
theorem Kp.same {p : Addr} {H H' : Hp} (h : Kp p H H') (n : H p = none) : Same H H' := fun b o e => h b o (ne_of_none e n) e
theorem Kp.free {p a : Addr} {H H' : Hp} (h : Kp p H H') (n : a ≠ p) (e : H' a = none) : H a = none := by
  cases q : H a with
  | none => rfl
  | some o => rw [h a o n q] at e; cases e
/-- a stream -/
def Stm (H : Hp) (p : Addr) : Prop := ∃ a b : Int, H p = some (.lst [.int a, .int b]) ∧ 0 ≤ a ∧ 0 ≤ b
theorem Stm.ne {H : Hp} {p a : Addr} (h : Stm H p) (e : H a = none) : a ≠ p := by
  obtain ⟨x, y, h, _⟩ := h
  exact (ne_of_none h e).symm
theorem Stm.same {H H' : Hp} {p : Addr} (h : Stm H p) (s : Same H H') : Stm H' p := by
  obtain ⟨x, y, h, r⟩ := h
  exact ⟨x, y, s _ _ h, r⟩
theorem Stm.up {H : Hp} {p a : Addr} {o : HO} (h : Stm H p) (e : H a = none) : Stm (L2.upd H a o) p := by
  obtain ⟨x, y, h, r⟩ := h
  exact ⟨x, y, by rw [upd_ne (ne_of_none h e)]; exact h, r⟩

/-! ### steps, in the order of the reading -/
section
variable {K : PySem.W.Frag} {σ : L2.St} {H : Hp} {Q : VK} {v : V} {ta tb tc te : TE} {tt uu : TT} {r r' : R2} {D : Ends} {t u : TS}
theorem w_var {i : Nat} (h : σ[i]? = some (some v)) (q : Q v H) : tVar i σ H Q := ⟨v, h, q⟩
theorem w_c (q : Q v H) : tC v σ H Q := q
theorem w_op (q : ta σ H fun x H1 => tb σ H1 fun y H2 => r x y H2 Q) : tOp r ta tb σ H Q := q
theorem w_un {r : V → Hp → VK → Prop} (q : ta σ H fun x H1 => r x H1 Q) : tUn r ta σ H Q := q
theorem w_I0 {g : Int → Int → V} {i j : Int} (q : Q (g i j) H) : rI0 g (.int i) (.int j) H Q := ⟨i, j, rfl, rfl, q⟩
theorem w_I {C : Int → Int → Prop} {g : Int → Int → V} {i j : Int} (c : C i j) (q : Q (g i j) H) : rI C g (.int i) (.int j) H Q := ⟨i, j, rfl, rfl, c, q⟩
theorem w_U {g : Int → V} {i : Int} (q : Q (g i) H) : rU g (.int i) H Q := ⟨i, rfl, q⟩
theorem w_eqI {i j : Int} (q : Q (.bl (decide (i = j))) H) : rEq (.int i) (.int j) H Q := ⟨rfl, by
  have e : decide (V.int i = V.int j) = decide (i = j) := by rw [decide_eq_decide]; exact ⟨fun z => V.int.inj z, fun z => by rw [z]⟩
  rw [e]; exact q⟩
theorem w_neI {i j : Int} (q : Q (.bl (decide (i ≠ j))) H) : rNe (.int i) (.int j) H Q := ⟨rfl, by
  have e : (!decide (V.int i = V.int j)) = decide (i ≠ j) := by rw [decide_not]; congr 1; rw [decide_eq_decide]; exact ⟨fun z => V.int.inj z, fun z => by rw [z]⟩
  rw [e]; exact q⟩
theorem w_eqS {i j : Str} (q : Q (.bl (decide (i = j))) H) : rEq (.str i) (.str j) H Q := ⟨rfl, by
  have e : decide (V.str i = V.str j) = decide (i = j) := by rw [decide_eq_decide]; exact ⟨fun z => V.str.inj z, fun z => by rw [z]⟩
  rw [e]; exact q⟩
theorem w_neS {i j : Str} (q : Q (.bl (decide (i ≠ j))) H) : rNe (.str i) (.str j) H Q := ⟨rfl, by
  have e : (!decide (V.str i = V.str j)) = decide (i ≠ j) := by rw [decide_not]; congr 1; rw [decide_eq_decide]; exact ⟨fun z => V.str.inj z, fun z => by rw [z]⟩
  rw [e]; exact q⟩
theorem w_eqB {i j : Bool} (q : Q (.bl (decide (i = j))) H) : rEq (.bl i) (.bl j) H Q := ⟨rfl, by
  have e : decide (V.bl i = V.bl j) = decide (i = j) := by rw [decide_eq_decide]; exact ⟨fun z => V.bl.inj z, fun z => by rw [z]⟩
  rw [e]; exact q⟩
theorem w_eqTy {a b : String} (ha : Ty9 a) (hb : Ty9 b) (q : Q (.bl (decide (a = b))) H) : rEqTy (.ty a) (.ty b) H Q := ⟨a, b, rfl, rfl, ha, hb, q⟩
theorem w_neTy {a b : String} (ha : Ty9 a) (hb : Ty9 b) (q : Q (.bl (decide (a ≠ b))) H) : rNeTy (.ty a) (.ty b) H Q := ⟨a, b, rfl, rfl, ha, hb, by rw [← decide_not]; exact q⟩
theorem w_addS {i j : Str} (h : i.length + j.length ≤ sizeLine) (q : Q (.str (i ++ j)) H) : qAddS (.str i) (.str j) H Q := ⟨i, j, rfl, rfl, h, q⟩
theorem w_inSign {c : Nat} {z : Str} (q : Q (.bl (decide (c ∈ z.cps.toList))) H) : qInSign (.str ⟨#[c]⟩) (.str z) H Q := ⟨c, z, rfl, rfl, q⟩
theorem w_ninSign {c : Nat} {z : Str} (q : Q (.bl (!decide (c ∈ z.cps.toList))) H) : qNinSign (.str ⟨#[c]⟩) (.str z) H Q := ⟨c, z, rfl, rfl, q⟩
theorem w_ixL {p : Addr} {xs : List V} {i : Int} (h : SqL K H p xs) (ha : atI xs i = some v) (q : Q v H) : rIxL K (.ref p) (.int i) H Q := ⟨p, xs, i, v, rfl, rfl, h, ha, q⟩
theorem w_ixT {p : Addr} {xs : List V} {i : Int} (h : SqT K H p xs) (ha : atI xs i = some v) (q : Q v H) : rIxT K (.ref p) (.int i) H Q := ⟨p, xs, i, v, rfl, rfl, h, ha, q⟩
theorem w_ixS {z : Str} {i : Int} {c : Nat} (h : z.length ≤ sizeLine) (ha : atI z.cps.toList i = some c) (q : Q (.str ⟨#[c]⟩) H) : rIxS (.str z) (.int i) H Q := ⟨z, i, c, rfl, rfl, h, ha, q⟩
theorem w_nil {R : List V → Hp → Prop} (q : R [] H) : tNil σ H R := q
theorem w_cons {tr : TA} {R : List V → Hp → Prop} (q : ta σ H fun x H1 => tr σ H1 fun xs H2 => R (x :: xs) H2) : tCons ta tr σ H R := q
theorem w_tup {tr : TA} (q : tr σ H fun xs H1 => xs.length ≤ sizeLine ∧ ∀ p, H1 p = none → Q (.ref p) (upd H1 p (.tup xs))) : tTup tr σ H Q := q
theorem w_lst {tr : TA} (q : tr σ H fun xs H1 => xs.length ≤ sizeLine ∧ ∀ p, H1 p = none → Q (.ref p) (upd H1 p (.lst xs))) : tLst tr σ H Q := q
theorem w_cb {r : List V → Hp → VK → Prop} {tr : TA} (q : tr σ H fun vs H1 => r vs H1 Q) : tCB r tr σ H Q := q
theorem w_lenStr {z : Str} (h : z.length ≤ sizeLine) (q : Q (.int z.length) H) : qLenStr [.str z] H Q := ⟨z, rfl, h, q⟩
theorem w_lenL {p : Addr} {xs : List V} (h : SqL K H p xs) (q : Q (.int xs.length) H) : qLenSeq K [.ref p] H Q := ⟨p, xs, rfl, .inl h, q⟩
theorem w_lenT {p : Addr} {xs : List V} (h : SqT K H p xs) (q : Q (.int xs.length) H) : qLenSeq K [.ref p] H Q := ⟨p, xs, rfl, .inr h, q⟩
theorem w_int1 {i : Int} (q : Q (.int i) H) : qInt1 [.int i] H Q := .inl ⟨i, rfl, q⟩
theorem w_int1b {c : Prop} [Decidable c] (q : Q (.int (if c then 1 else 0)) H) : qInt1 [.bl (decide c)] H Q := .inr ⟨_, rfl, by
  by_cases h : c
  · simp only [h, decide_true, if_true] at q ⊢; exact q
  · simp only [h, decide_false, if_false, Bool.false_eq_true] at q ⊢; exact q⟩
theorem w_strInt {i : Int} (h0 : 0 ≤ i) (h1 : i ≤ 100000000000000000000) (q : Q (.str (toString i)) H) : qStrInt [.int i] H Q := ⟨i, rfl, by
  have h2 : i.natAbs ≤ 100000000000000000000 := by omega
  have h3 : i.natAbs.log2 < 67 := by
    by_cases h : i.natAbs = 0
    · rw [h]; decide
    · exact (Nat.log2_lt h).mpr (Nat.lt_of_le_of_lt h2 (by decide))
  omega, q⟩
theorem w_tupleOfL {p : Addr} {ys : List V} (h : SqL K H p ys) (q : ∀ l, H l = none → Q (.ref l) (upd H l (.tup ys))) : qTupleOf K [.ref p] H Q := ⟨p, ys, rfl, .inl ⟨h, q⟩⟩
theorem w_tupleOfT {p : Addr} {ys : List V} (h : SqT K H p ys) (q : Q (.ref p) H) : qTupleOf K [.ref p] H Q := ⟨p, ys, rfl, .inr ⟨h, q⟩⟩
theorem w_listOf {p : Addr} {ys : List V} (h : SqL K H p ys ∨ SqT K H p ys) (q : ∀ l, H l = none → Q (.ref l) (upd H l (.lst ys))) : qListOf K [.ref p] H Q := ⟨p, ys, rfl, h, q⟩
theorem w_isN (q : Q (.bl (decide (v = .non))) H) : qIsN v .non H Q := ⟨rfl, q⟩
theorem w_notN (q : Q (.bl (!decide (v = .non))) H) : qNotN v .non H Q := ⟨rfl, q⟩
theorem w_bm {T : String} {r : V → List V → Hp → VK → Prop} {tr : TA} (q : te σ H fun x H1 => tyV K T x H1 ∧ tr σ H1 fun xs H2 => r x xs H2 Q) : tBM K T r te tr σ H Q := q
theorem w_tyL {p : Addr} {xs : List V} {A : Prop} (h : H p = some (.lst xs)) (q : A) : tyV K "list" (.ref p) H ∧ A := ⟨.inl ⟨rfl, xs, SqL.of h⟩, q⟩
theorem w_app {p : Addr} {xs : List V} (h : H p = some (.lst xs)) (z : xs.length < sizeLine) (q : Q .non (upd H p (.lst (xs ++ [v])))) : rAppend (.ref p) [v] H Q := ⟨p, xs, v, rfl, rfl, h, z, q⟩
theorem w_inL {neg : Bool} {p : Addr} {xs : List V} (h : SqL K H p xs) (f : flatV v = true) (fs : xs.all flatV = true) (q : Q (.bl (if neg then !inV v xs else inV v xs)) H) : rIn K neg v (.ref p) H Q := ⟨p, xs, rfl, .inl h, f, fs, q⟩
theorem w_inT {neg : Bool} {p : Addr} {xs : List V} (h : SqT K H p xs) (f : flatV v = true) (fs : xs.all flatV = true) (q : Q (.bl (if neg then !inV v xs else inV v xs)) H) : rIn K neg v (.ref p) H Q := ⟨p, xs, rfl, .inr h, f, fs, q⟩
theorem inV_strs (z : Str) (ys : List Str) : inV (.str z) (ys.map V.str) = decide (z ∈ ys) := by
  unfold inV
  rw [List.any_map, Bool.eq_iff_iff, List.any_eq_true, decide_eq_true_eq]
  constructor
  · rintro ⟨y, hy, e⟩
    have e' : (y == z) = true := e
    rw [beq_iff_eq] at e'
    exact e' ▸ hy
  · intro h
    refine ⟨z, h, ?_⟩
    show (z == z) = true
    exact beq_self_eq_true z
theorem flat_strs (ys : List Str) : (ys.map V.str).all flatV = true := by
  rw [List.all_map, List.all_eq_true]
  intro y _
  rfl
theorem w_max2 {i j : Int} (q : Q (.int (if j > i then j else i)) H) : qMax2 [.int i, .int j] H Q := ⟨i, j, rfl, q⟩
theorem w_min2 {i j : Int} (q : Q (.int (if j < i then j else i)) H) : qMin2 [.int i, .int j] H Q := ⟨i, j, rfl, q⟩
theorem w_test {R : Bool → Hp → Prop} (q : te σ H fun x H' => ∃ k, x = .bl k ∧ R k H') : tTest te σ H R := q
theorem w_B {R : Bool → Hp → Prop} (q : te σ H fun x H' => ∃ k, x = .bl k ∧ R k H') : tB te σ H R := q
theorem w_exb {b : Bool} {R : Bool → Prop} (q : R b) : ∃ k, V.bl b = .bl k ∧ R k := ⟨b, rfl, q⟩
theorem w_and {R : Bool → Hp → Prop} (q : tt σ H fun c H1 => if c = true then uu σ H1 R else R false H1) : tAnd tt uu σ H R := q
theorem w_or {R : Bool → Hp → Prop} (q : tt σ H fun c H1 => if c = true then R true H1 else uu σ H1 R) : tOr tt uu σ H R := q
theorem w_not {R : Bool → Hp → Prop} (q : tt σ H fun c H1 => R (!c) H1) : tNot tt σ H R := q
theorem w_andV (q : ta σ H fun x H1 => ∃ c, x = .bl c ∧ if c = true then tb σ H1 Q else Q (.bl false) H1) : tAndV ta tb σ H Q := q
theorem w_orV (q : ta σ H fun x H1 => ∃ c, x = .bl c ∧ if c = true then Q (.bl true) H1 else tb σ H1 Q) : tOrV ta tb σ H Q := q
theorem w_notV (q : ta σ H fun x H1 => ∃ c, x = .bl c ∧ Q (.bl (!c)) H1) : tNotV ta σ H Q := q
theorem w_if (q : tt σ H fun c H1 => if c = true then ta σ H1 Q else tb σ H1 Q) : tIf tt ta tb σ H Q := q
theorem w_chain (q : ta σ H fun x H1 => tb σ H1 fun y H2 => r x y H2 fun z H3 => ∃ k, z = .bl k ∧ (if k = true then tc σ H3 fun w' H4 => r' y w' H4 Q else Q (.bl false) H3)) : tChain r r' ta tb tc σ H Q := q
theorem w_ifS (q : tt σ H fun b H1 => if b = true then t D σ H1 else u D σ H1) : tIfS tt t u D σ H := q
theorem w_ifCut {Mid : L2.St → Hp → Prop} (k : ∀ σ' H', Mid σ' H' → D.nx σ' H') (q : ∀ R : L2.St → Hp → Prop, (∀ σ' H', Mid σ' H' → R σ' H') → tIfS tt t u { D with nx := R } σ H) : tIfS tt t u D σ H := q _ k
theorem cmul_l {i j : Int} (h0 : -1000000000000 ≤ i) (h1 : i ≤ 1000000000000) : CMul i j := .inl ⟨by omega, by omega⟩
theorem cmul_r {i j : Int} (h0 : -1000000000000 ≤ j) (h1 : j ≤ 1000000000000) : CMul i j := .inr ⟨by omega, by omega⟩
theorem w_ite {c A B : Prop} [Decidable c] (h1 : c → A) (h2 : ¬ c → B) : if decide c = true then A else B := by
  by_cases h : c
  · rw [if_pos (decide_eq_true h)]; exact h1 h
  · rw [if_neg (by rw [decide_eq_true_iff]; exact h)]; exact h2 h
theorem w_iteN {c A B : Prop} [Decidable c] (h1 : ¬ c → A) (h2 : c → B) : if (!decide c) = true then A else B := by
  by_cases h : c
  · rw [decide_eq_true h, if_neg (by decide)]; exact h2 h
  · rw [decide_eq_false h]; exact h1 h
theorem w_iteb {b : Bool} {A B : Prop} (h1 : b = true → A) (h2 : b = false → B) : if b = true then A else B := by
  cases b
  · rw [if_neg (by decide)]; exact h2 rfl
  · rw [if_pos rfl]; exact h1 rfl
theorem w_seq (q : t { D with nx := u D } σ H) : tSeq t u D σ H := q
theorem w_next (q : D.nx σ H) : tNext D σ H := q
theorem w_asg {g : TG} (q : te σ H fun x H1 => g x σ H1 D.nx) : tAsg te g D σ H := q
theorem w_name {i : Nat} {R : L2.St → Hp → Prop} (q : R (σ.set i (some v)) H) : gName i v σ H R := q
theorem w_sub {to ti : TE} {ts : TSet} {R : L2.St → Hp → Prop} (q : to σ H fun o H1 => ti σ H1 fun i H2 => ts o i v H2 fun H3 => R σ H3) : gSub to ti ts v σ H R := q
theorem w_setL {p : Addr} {xs : List V} {k : Int} {j : Nat} {R : Hp → Prop} (h : H p = some (.lst xs)) (hj : ixN xs.length k = some j) (q : R (upd H p (.lst (xs.set j v)))) : rSetL (.ref p) (.int k) v H R := ⟨p, xs, k, j, rfl, rfl, h, hj, q⟩
theorem w_ret (q : te σ H D.rt) : tRet te D σ H := q
theorem w_retN (q : D.rt .non H) : tRetN D σ H := q
theorem w_drop (q : te σ H fun _ H1 => D.nx σ H1) : tDrop te D σ H := q
theorem w_call {sp : Sp} {dvs : List V} {E : XK} {tr : TA} (q : tr σ H fun vs H1 => sp (vs ++ dvs) H1 Q E) : tCall sp dvs E tr σ H Q := q
theorem w_sl {r : V → Option Int → Option Int → Hp → VK → Prop} {tl th : TO} (q : te σ H fun x H1 => tl σ H1 fun l H2 => th σ H2 fun u H3 => r x l u H3 Q) : tSl r te tl th σ H Q := q
theorem w_noPart {R : Option Int → Hp → Prop} (q : R none H) : tNoPart σ H R := q
theorem w_part {R : Option Int → Hp → Prop} (q : te σ H fun x H1 => ∃ i, x = .int i ∧ R (some i) H1) : tPart te σ H R := q
theorem w_exi {i : Int} {R : Int → Prop} (q : R i) : ∃ k, V.int i = .int k ∧ R k := ⟨i, rfl, q⟩
theorem w_slS {z : Str} {lo hi : Option Int} (h : z.length ≤ sizeLine) (q : Q (.str (cutS z lo hi)) H) : rSlS (.str z) lo hi H Q := ⟨z, rfl, h, q⟩
theorem w_isi {x : V} {t : Value} {T : String} {b : Bool} (h : TyX K H x t) (k : PySem.W.kitOne K t (.type T) = some b) (q : Q (.bl b) H) : rIsi K [x, .ty T] H Q := ⟨x, _, t, _, b, rfl, .ty T, h, k, q⟩
theorem w_typ {x : V} {T : String} (h : TyB K H x T) (q : Q (.ty T) H) : rTyp K [x] H Q := ⟨x, T, rfl, h, q⟩
theorem w_cat {l b : Addr} {xs zs : List V} (h : H l = some (.lst xs)) (h' : H b = some (.lst zs)) (z : xs.length + zs.length ≤ sizeLine) (q : ∀ p, H p = none → Q (.ref p) (upd H p (.lst (xs ++ zs)))) : rCat (.ref l) (.ref b) H Q := ⟨l, b, xs, zs, rfl, rfl, h, h', z, q⟩
theorem w_isBl {a b : Bool} (q : Q (.bl (decide (a = b))) H) : qIsBl (.bl a) (.bl b) H Q := ⟨a, b, rfl, rfl, q⟩
theorem w_nf {A B : Prop} (q : A) : if (!false) = true then A else B := q
theorem w_nt {A B : Prop} (q : B) : if (!true) = true then A else B := q
theorem w_len0 {n : Nat} {A : Prop} (h : n ≤ sizeLine) (q : A) : n ≤ sizeLine ∧ A := ⟨h, q⟩
end
theorem sz {n : Nat} (h : n ≤ 100000) : n ≤ sizeLine := Nat.le_trans h (by decide)
theorem atI_of {α : Type} {xs : List α} {i : Int} {v : α} (h0 : 0 ≤ i) (h : xs[i.toNat]? = some v) : atI xs i = some v := by
  have e : ((i.toNat : Nat) : Int) = i := Int.toNat_of_nonneg h0
  rw [← e]
  exact atI_nat h
end Wp

namespace Wp
open PySem PySem.Spec PyProof.Rows L2 TyNe

/-! ### what is made of data -/
mutual
/-- v denotes d at H; every object on the way stands at an address that ok takes -/
inductive Dn (ok : Addr → Prop) (H : Hp) : V → PyData → Prop where
  | non : Dn ok H .non .none
  | bl (b : Bool) : Dn ok H (.bl b) (.bool b)
  | int (i : Int) : Dn ok H (.int i) (.int i)
  | str (x : Str) : Dn ok H (.str x) (.str x)
  | lst {a : Addr} {xs : List V} {ds : List PyData} (ha : ok a) (h : H a = some (.lst xs)) (hs : DnAll ok H xs ds) : Dn ok H (.ref a) (.list ds)
  | tup {a : Addr} {xs : List V} {ds : List PyData} (ha : ok a) (h : H a = some (.tup xs)) (hs : DnAll ok H xs ds) : Dn ok H (.ref a) (.tuple ds)
  | dic {a : Addr} {kvs : List (Key × V)} (ha : ok a) (h : H a = some (.dK kvs)) : Dn ok H (.ref a) (.dict [])
inductive DnAll (ok : Addr → Prop) (H : Hp) : List V → List PyData → Prop where
  | nil : DnAll ok H [] []
  | cons {v : V} {vs : List V} {d : PyData} {ds : List PyData} (h : Dn ok H v d) (hs : DnAll ok H vs ds) : DnAll ok H (v :: vs) (d :: ds)
end
mutual
theorem Dn.step {ok : Addr → Prop} {H H' : Hp} (k : ∀ a o, ok a → H a = some o → H' a = some o) {v : V} {d : PyData} : Dn ok H v d → Dn ok H' v d
  | .non => .non
  | .bl b => .bl b
  | .int i => .int i
  | .str x => .str x
  | .lst ha h hs => .lst ha (k _ _ ha h) (DnAll.step k hs)
  | .tup ha h hs => .tup ha (k _ _ ha h) (DnAll.step k hs)
  | .dic ha h => .dic ha (k _ _ ha h)
theorem DnAll.step {ok : Addr → Prop} {H H' : Hp} (k : ∀ a o, ok a → H a = some o → H' a = some o) {vs : List V} {ds : List PyData} : DnAll ok H vs ds → DnAll ok H' vs ds
  | .nil => .nil
  | .cons h hs => .cons (Dn.step k h) (DnAll.step k hs)
end
mutual
theorem Dn.weak {ok ok' : Addr → Prop} {H : Hp} (k : ∀ a o, ok a → H a = some o → ok' a) {v : V} {d : PyData} : Dn ok H v d → Dn ok' H v d
  | .non => .non
  | .bl b => .bl b
  | .int i => .int i
  | .str x => .str x
  | .lst ha h hs => .lst (k _ _ ha h) h (DnAll.weak k hs)
  | .tup ha h hs => .tup (k _ _ ha h) h (DnAll.weak k hs)
  | .dic ha h => .dic (k _ _ ha h) h
theorem DnAll.weak {ok ok' : Addr → Prop} {H : Hp} (k : ∀ a o, ok a → H a = some o → ok' a) {vs : List V} {ds : List PyData} : DnAll ok H vs ds → DnAll ok' H vs ds
  | .nil => .nil
  | .cons h hs => .cons (Dn.weak k h) (DnAll.weak k hs)
end
/-- off the address p -/
abbrev Off (p : Addr) : Addr → Prop := fun a => a ≠ p
abbrev Any : Addr → Prop := fun _ => True
theorem Dn.same {ok : Addr → Prop} {H H' : Hp} {v : V} {d : PyData} (h : Dn ok H v d) (s : Same H H') : Dn ok H' v d := h.step fun a o _ e => s a o e
theorem Dn.kp {p : Addr} {H H' : Hp} {v : V} {d : PyData} (h : Dn (Off p) H v d) (s : Kp p H H') : Dn (Off p) H' v d := h.step fun a o n e => s a o n e
theorem Dn.any {ok : Addr → Prop} {H : Hp} {v : V} {d : PyData} (h : Dn ok H v d) : Dn Any H v d := h.weak fun _ _ _ _ => trivial
theorem Dn.off {ok : Addr → Prop} {p : Addr} {H : Hp} {v : V} {d : PyData} (h : Dn ok H v d) (n : H p = none) : Dn (Off p) H v d := h.weak fun a o _ e => ne_of_none e n
theorem DnAll.same {ok : Addr → Prop} {H H' : Hp} {v : List V} {d : List PyData} (h : DnAll ok H v d) (s : Same H H') : DnAll ok H' v d := h.step fun a o _ e => s a o e
theorem DnAll.kp {p : Addr} {H H' : Hp} {v : List V} {d : List PyData} (h : DnAll (Off p) H v d) (s : Kp p H H') : DnAll (Off p) H' v d := h.step fun a o n e => s a o n e
theorem DnAll.any {ok : Addr → Prop} {H : Hp} {v : List V} {d : List PyData} (h : DnAll ok H v d) : DnAll Any H v d := h.weak fun _ _ _ _ => trivial
theorem DnAll.off {ok : Addr → Prop} {p : Addr} {H : Hp} {v : List V} {d : List PyData} (h : DnAll ok H v d) (n : H p = none) : DnAll (Off p) H v d := h.weak fun a o _ e => ne_of_none e n
theorem DnAll.len {ok : Addr → Prop} {H : Hp} : ∀ {vs : List V} {ds : List PyData}, DnAll ok H vs ds → vs.length = ds.length
  | _, _, .nil => rfl
  | _, _, .cons _ hs => congrArg (· + 1) (DnAll.len hs)
theorem DnAll.get {ok : Addr → Prop} {H : Hp} : ∀ {vs : List V} {ds : List PyData} {i : Nat} {v : V}, DnAll ok H vs ds → vs[i]? = some v → ∃ d, ds[i]? = some d ∧ Dn ok H v d
  | _, _, _, _, .nil, e => by simp at e
  | _, _, 0, _, .cons h _, e => by
    have e' := Option.some.inj e
    subst e'
    exact ⟨_, rfl, h⟩
  | _, _, i + 1, v, .cons _ hs, e => DnAll.get (i := i) hs e
theorem DnAll.app {ok : Addr → Prop} {H : Hp} : ∀ {vs ws : List V} {ds es : List PyData}, DnAll ok H vs ds → DnAll ok H ws es → DnAll ok H (vs ++ ws) (ds ++ es)
  | _, _, _, _, .nil, h => h
  | _, _, _, _, .cons h hs, h' => .cons h (DnAll.app hs h')
def tyN : PyData → String
  | .none => "NoneType" | .bool _ => "bool" | .int _ => "int" | .str _ => "str" | .list _ => "list" | .tuple _ => "tuple" | .dict _ => "dict"
theorem Dn.tyB {K : PySem.W.Frag} {ok : Addr → Prop} {H : Hp} {v : V} {d : PyData} (h : Dn ok H v d) : TyB K H v (tyN d) := by
  cases h with
  | non => exact .non
  | bl b => exact .bl b
  | int i => exact .int i
  | str x => exact .str x
  | lst ha h hs => exact .lst (SqL.of h)
  | tup ha h hs => exact .tup (SqT.of h)
  | dic ha h => exact .dK h
theorem Dn.tyX {K : PySem.W.Frag} {ok : Addr → Prop} {H : Hp} {v : V} {d : PyData} (h : Dn ok H v d) : TyX K H v (.type (tyN d)) := by
  cases h with
  | non => exact .base .non
  | bl b => exact .base (.bl b)
  | int i => exact .base (.int i)
  | str x => exact .base (.str x)
  | lst ha h hs => exact .base (.lst h)
  | tup ha h hs => exact .base (.tup h)
  | dic ha h => exact .base (.dK h)
theorem ty9 (d : PyData) : Ty9 (tyN d) := by
  cases d
  · exact TypeEq.meta_NoneType
  · exact TypeEq.meta_bool
  · exact TypeEq.meta_int
  · exact TypeEq.meta_str
  · exact TypeEq.meta_list
  · exact TypeEq.meta_tuple
  · exact TypeEq.meta_dict
theorem kit_str {K : PySem.W.Frag} (d : PyData) : PySem.W.kitOne K (.type (tyN d)) (.type "str") = some (decide (tyN d = "str")) := by
  have hh : ∀ a ∈ ["NoneType", "bool", "int", "str", "list", "tuple", "dict"], kitB a "str" = some (decide (a = "str")) := by decide +kernel
  exact kit_ty (hh _ (by cases d <;> simp [tyN]))
theorem kit_tuple {K : PySem.W.Frag} (d : PyData) : PySem.W.kitOne K (.type (tyN d)) (.type "tuple") = some (decide (tyN d = "tuple")) := by
  have hh : ∀ a ∈ ["NoneType", "bool", "int", "str", "list", "tuple", "dict"], kitB a "tuple" = some (decide (a = "tuple")) := by decide +kernel
  exact kit_ty (hh _ (by cases d <;> simp [tyN]))
theorem kit_list {K : PySem.W.Frag} (d : PyData) : PySem.W.kitOne K (.type (tyN d)) (.type "list") = some (decide (tyN d = "list")) := by
  have hh : ∀ a ∈ ["NoneType", "bool", "int", "str", "list", "tuple", "dict"], kitB a "list" = some (decide (a = "list")) := by decide +kernel
  exact kit_ty (hh _ (by cases d <;> simp [tyN]))
theorem kit_bool {K : PySem.W.Frag} (d : PyData) : PySem.W.kitOne K (.type (tyN d)) (.type "bool") = some (decide (tyN d = "bool")) := by
  have hh : ∀ a ∈ ["NoneType", "bool", "int", "str", "list", "tuple", "dict"], kitB a "bool" = some (decide (a = "bool")) := by decide +kernel
  exact kit_ty (hh _ (by cases d <;> simp [tyN]))
theorem kit_int {K : PySem.W.Frag} (d : PyData) : PySem.W.kitOne K (.type (tyN d)) (.type "int") = some (decide (tyN d = "int" ∨ tyN d = "bool")) := by
  have hh : ∀ a ∈ ["NoneType", "bool", "int", "str", "list", "tuple", "dict"], kitB a "int" = some (decide (a = "int" ∨ a = "bool")) := by decide +kernel
  exact kit_ty (hh _ (by cases d <;> simp [tyN]))

/-! ### loops -/
section
variable {K : PySem.W.Frag} {σ : L2.St} {H : Hp} {Q : VK} {ta : TA} {te : TE} {g : TG} {tb : TS} {D : Ends} {tt : TT}
theorem w_forR (q : ta σ H fun vs H1 => ∃ n : Int, vs = [.int n] ∧ -(2 ^ 62) ≤ n ∧ n < 2 ^ 62 ∧ ∃ Pv : Nat → L2.St → Hp → Prop, Pv 0 σ H1 ∧
    (∀ (i : Nat) σ H, (i : Int) < n → Pv i σ H → g (.int (i : Int)) σ H fun σ2 H2 => tb { D with nx := Pv (i + 1), ct := Pv (i + 1), bk := D.nx } σ2 H2) ∧ ∀ σ H, Pv n.toNat σ H → D.nx σ H)
    (mono : ∀ R R' : List V → Hp → Prop, (∀ vs H, R vs H → R' vs H) → ta σ H R → ta σ H R') : tFor (iRng1 ta) g tb D σ H := by
  refine mono _ _ (fun vs H1 h => ?_) q
  obtain ⟨n, rfl, h1, h2, Pv, p0, ps, pd⟩ := h
  refine ⟨n, rfl, h1, h2, for_range (lo := 0) (n := n.toNat) Pv p0 (fun i σ' H' hi p => ?_) pd⟩
  have e0 : (0 : Int) + (i : Int) = (i : Int) := Int.zero_add _
  rw [e0]
  exact ps i σ' H' (by omega) p
theorem w_for {wi : TI} (q : wi σ H fun J H1 => ∃ W : Nat → Nat → L2.St → Hp → Prop, (∃ m, W 0 m σ H1) ∧ ∀ i m σ H, W i m σ H →
  (J.stop i H ∧ D.nx σ H) ∨ (J.go i H ∧ ∃ N : L2.St → Hp → Prop, (∀ σ' H', N σ' H' → ∃ m', m' < m ∧ W (i + 1) m' σ' H') ∧ ∀ x H', J.yld i H x H' → g x σ H' fun σ2 H2 => tb { D with nx := N, ct := N, bk := D.nx } σ2 H2)) : tFor wi g tb D σ H := q
theorem w_iRng1 {R : It → Hp → Prop} (q : ta σ H fun vs H1 => ∃ j : Int, vs = [.int j] ∧ -(2 ^ 62) ≤ j ∧ j < 2 ^ 62 ∧ R (Itr 0 j.toNat) H1) : iRng1 ta σ H R := q
theorem w_iRng2 {R : It → Hp → Prop} (q : ta σ H fun vs H1 => ∃ i j : Int, vs = [.int i, .int j] ∧ (-(2 ^ 62) ≤ i ∧ i < 2 ^ 62 ∧ -(2 ^ 62) ≤ j ∧ j < 2 ^ 62) ∧ R (Itr i (j - i).toNat) H1) : iRng2 ta σ H R := q
theorem w_iList {R : It → Hp → Prop} (q : te σ H fun x H1 => ∃ a, x = .ref a ∧ (∃ xs, SqL K H1 a xs) ∧ R (Itl K a) H1) : iList K te σ H R := q
theorem w_iTup {R : It → Hp → Prop} (q : te σ H fun x H1 => ∃ a, x = .ref a ∧ (∃ xs, SqT K H1 a xs) ∧ R (Itt K a) H1) : iTup K te σ H R := q
theorem w_iStr {R : It → Hp → Prop} (q : te σ H fun v H1 => ∃ x, v = .str x ∧ R (Its x) H1) : iStr te σ H R := q
/-- the end of iRng1's reading in a for -/
theorem w_rng {n : Int} (h1 : -(2 ^ 62) ≤ n) (h2 : n < 2 ^ 62) (Pv : Nat → L2.St → Hp → Prop) (p0 : Pv 0 σ H)
    (ps : ∀ (i : Nat) σ H, (i : Int) < n → Pv i σ H → g (.int (i : Int)) σ H fun σ2 H2 => tb { D with nx := Pv (i + 1), ct := Pv (i + 1), bk := D.nx } σ2 H2) (pd : ∀ σ H, Pv n.toNat σ H → D.nx σ H) :
    ∃ j : Int, [V.int n] = [.int j] ∧ -(2 ^ 62) ≤ j ∧ j < 2 ^ 62 ∧ ∃ W : Nat → Nat → L2.St → Hp → Prop, (∃ m, W 0 m σ H) ∧ ∀ i m σ H, W i m σ H →
  ((Itr 0 j.toNat).stop i H ∧ D.nx σ H) ∨ ((Itr 0 j.toNat).go i H ∧ ∃ N : L2.St → Hp → Prop, (∀ σ' H', N σ' H' → ∃ m', m' < m ∧ W (i + 1) m' σ' H') ∧ ∀ x H', (Itr 0 j.toNat).yld i H x H' → g x σ H' fun σ2 H2 => tb { D with nx := N, ct := N, bk := D.nx } σ2 H2) := by
  refine ⟨n, rfl, h1, h2, for_range (lo := 0) (n := n.toNat) Pv p0 (fun i σ' H' hi p => ?_) pd⟩
  have e0 : (0 : Int) + (i : Int) = (i : Int) := Int.zero_add _
  rw [e0]
  exact ps i σ' H' (by omega) p
/-- the end of iList's reading in a for -/
theorem w_lstF {a : Addr} {xs : List V} (hx : SqL K H a xs) (Pv : Nat → L2.St → Hp → Prop) (p0 : Pv 0 σ H) (hl : ∀ i σ H, i ≤ xs.length → Pv i σ H → SqL K H a xs)
    (ps : ∀ i x σ H, xs[i]? = some x → Pv i σ H → g x σ H fun σ2 H2 => tb { D with nx := Pv (i + 1), ct := Pv (i + 1), bk := D.nx } σ2 H2) (pd : ∀ σ H, Pv xs.length σ H → D.nx σ H) :
    ∃ b, V.ref a = .ref b ∧ (∃ xs, SqL K H b xs) ∧ ∃ W : Nat → Nat → L2.St → Hp → Prop, (∃ m, W 0 m σ H) ∧ ∀ i m σ H, W i m σ H →
  ((Itl K b).stop i H ∧ D.nx σ H) ∨ ((Itl K b).go i H ∧ ∃ N : L2.St → Hp → Prop, (∀ σ' H', N σ' H' → ∃ m', m' < m ∧ W (i + 1) m' σ' H') ∧ ∀ x H', (Itl K b).yld i H x H' → g x σ H' fun σ2 H2 => tb { D with nx := N, ct := N, bk := D.nx } σ2 H2) :=
  ⟨a, rfl, ⟨xs, hx⟩, for_list (xs := xs) Pv p0 hl ps pd⟩
end
/-! ### comprehensions whose element and test leave all that was tracked -/
section
variable {K : PySem.W.Frag} {σ : L2.St} {H : Hp} {Q : VK} {te : TE} {tt : TT} {vs : List Nat} {g : TG}
theorem lc_fm {Qd : Addr → Hp → Prop} {J : It} {its : List V} {G : Hp → Prop} {Y : Nat → Hp → V → Hp → Prop} (w : Walk J its.length G Y) (hy : ∀ i H x H', i < its.length → Y i H x H' → H' = H ∧ its[i]? = some x)
    (hG : ∀ H1, Same H H1 → G H1) (f : V → V) (k : V → Bool) (bind : V → L2.St)
    (hg : ∀ x H1 (R : L2.St → Hp → Prop), R (bind x) H1 → g x (wipe σ vs) H1 R) (hw : ∀ x, wipe (bind x) vs = wipe σ vs)
    (ht : ∀ x ∈ its, ∀ H1, Same H H1 → ∀ R : Bool → Hp → Prop, (∀ H2, Same H1 H2 → R (k x) H2) → tt (bind x) H1 R)
    (he : ∀ x ∈ its, k x = true → ∀ H1, Same H H1 → ∀ R : VK, (∀ H2, Same H1 H2 → R (f x) H2) → te (bind x) H1 R)
    (hlen : its.length < sizeLine) (q : ∀ D H1, H D = none → Same H H1 → H1 D = some (.lst ((its.filter k).map f)) → Qd D H1) :
    ∀ D, H D = none → ∃ W : Nat → Nat → Hp → Prop, (∃ m, W 0 m (upd H D (.lst []))) ∧ ∀ i m H, W i m H →
  (J.stop i H ∧ Qd D H) ∨ (J.go i H ∧ ∃ Nx : Hp → Prop, (∀ H', Nx H' → ∃ m', m' < m ∧ W (i + 1) m' H') ∧ ∀ x H', J.yld i H x H' → g x (wipe σ vs) H' fun σ2 H2 => wipe σ2 vs = wipe σ vs ∧ tt σ2 H2 fun b H3 =>
    if b = true then te σ2 H3 fun y H4 => ∃ acc, H4 D = some (.lst acc) ∧ acc.length < sizeLine ∧ Nx (upd H4 D (.lst (acc ++ [y]))) else Nx H3) := by
  intro D hD
  refine lc_it w (Pv := fun i H' => Same H H' ∧ H' D = some (.lst (((its.take i).filter k).map f))) ⟨Same.upd (Same.refl H) hD, upd_same⟩ (fun i H' _ p => hG H' p.1) (fun i x H' H'' hi p y => ?_) (fun H' p => ?_)
  · obtain ⟨e, hx⟩ := hy i H' x H'' hi y
    subst e
    obtain ⟨s, hD'⟩ := p
    have hm : x ∈ its := List.mem_of_getElem? hx
    have et : its.take (i + 1) = its.take i ++ [x] := by rw [List.take_add_one, hx]; rfl
    refine hg x H'' _ ⟨hw x, ht x hm H'' s _ fun H2 s2 => ?_⟩
    cases hk : k x with
    | true =>
      rw [if_pos rfl]
      refine he x hm hk H2 (s.trans s2) _ fun H3 s3 => ?_
      have hD3 : H3 D = some (.lst (((its.take i).filter k).map f)) := s3 _ _ (s2 _ _ hD')
      refine ⟨_, hD3, ?_, ?_, ?_⟩
      · rw [List.length_map]
        have h1 := List.length_filter_le k (its.take i)
        have h2 : (its.take i).length ≤ its.length := by rw [List.length_take]; omega
        omega
      · exact fun b o e => by
          rw [upd_ne (ne_of_none e hD)]
          exact s3 _ _ (s2 _ _ (s _ _ e))
      · rw [upd_same, et, List.filter_append, List.map_append, List.filter_cons_of_pos hk]
        rfl
    | false =>
      rw [if_neg (by decide)]
      refine ⟨s.trans s2, ?_⟩
      rw [et, List.filter_append, List.filter_cons_of_neg (by simp [hk]), List.filter_nil, List.append_nil]
      exact s2 _ _ hD'
  · obtain ⟨s, hD'⟩ := p
    rw [List.take_length] at hD'
    exact q D H' hD s hD'
/-- over a text, one name bound -/
def sgns (z : Str) : List V := z.cps.toList.map fun c => V.str ⟨#[c]⟩
theorem sgns_len {z : Str} : (sgns z).length = z.cps.size := by unfold sgns; simp
theorem w_lc {wi : TI} (q : wi σ H fun J H1 => ∀ D, H1 D = none → ∃ W : Nat → Nat → Hp → Prop, (∃ m, W 0 m (upd H1 D (.lst []))) ∧ ∀ i m H, W i m H →
  (J.stop i H ∧ Q (.ref D) H) ∨ (J.go i H ∧ ∃ Nx : Hp → Prop, (∀ H', Nx H' → ∃ m', m' < m ∧ W (i + 1) m' H') ∧ ∀ x H', J.yld i H x H' → g x (wipe σ vs) H' fun σ2 H2 => wipe σ2 vs = wipe σ vs ∧ tt σ2 H2 fun b H3 =>
    if b = true then te σ2 H3 fun y H4 => ∃ acc, H4 D = some (.lst acc) ∧ acc.length < sizeLine ∧ Nx (upd H4 D (.lst (acc ++ [y]))) else Nx H3)) : tLc wi g tt te vs σ H Q := q
theorem lcStr {Qd : Addr → Hp → Prop} {z : Str} {i : Nat} (hz : z.length ≤ 100000) (f : V → V) (k : V → Bool) (hw : ∀ x, wipe ((wipe σ vs).set i (some x)) vs = wipe σ vs)
    (ht : ∀ x ∈ sgns z, ∀ H1, Same H H1 → ∀ R : Bool → Hp → Prop, (∀ H2, Same H1 H2 → R (k x) H2) → tt ((wipe σ vs).set i (some x)) H1 R)
    (he : ∀ x ∈ sgns z, k x = true → ∀ H1, Same H H1 → ∀ R : VK, (∀ H2, Same H1 H2 → R (f x) H2) → te ((wipe σ vs).set i (some x)) H1 R)
    (q : ∀ D H1, H D = none → Same H H1 → H1 D = some (.lst (((sgns z).filter k).map f)) → Qd D H1) :
    ∀ D, H D = none → ∃ W : Nat → Nat → Hp → Prop, (∃ m, W 0 m (upd H D (.lst []))) ∧ ∀ j m H, W j m H →
  ((Its z).stop j H ∧ Qd D H) ∨ ((Its z).go j H ∧ ∃ Nx : Hp → Prop, (∀ H', Nx H' → ∃ m', m' < m ∧ W (j + 1) m' H') ∧ ∀ x H', (Its z).yld j H x H' → gName i x (wipe σ vs) H' fun σ2 H2 => wipe σ2 vs = wipe σ vs ∧ tt σ2 H2 fun b H3 =>
    if b = true then te σ2 H3 fun y H4 => ∃ acc, H4 D = some (.lst acc) ∧ acc.length < sizeLine ∧ Nx (upd H4 D (.lst (acc ++ [y]))) else Nx H3) := by
  have hl : (sgns z).length < sizeLine := by
    rw [sgns_len]
    exact Nat.lt_of_le_of_lt hz (by decide)
  refine lc_fm (its := sgns z) (by rw [sgns_len]; exact walk_str) (fun j H x H' hj y => ?_) (fun _ _ => trivial) f k (fun x => (wipe σ vs).set i (some x)) (fun x H1 R r => r) hw ht he hl q
  obtain ⟨e, c, hc, rfl⟩ := y
  refine ⟨e, ?_⟩
  unfold sgns
  rw [List.getElem?_map, Array.getElem?_toList, hc]
  rfl
theorem lcL {Qd : Addr → Hp → Prop} {a : Addr} {its : List V} {i : Nat} (hS : ∀ H1, Same H H1 → SqL K H1 a its) (hl : its.length < sizeLine) (f : V → V) (k : V → Bool) (hw : ∀ x, wipe ((wipe σ vs).set i (some x)) vs = wipe σ vs)
    (ht : ∀ x ∈ its, ∀ H1, Same H H1 → ∀ R : Bool → Hp → Prop, (∀ H2, Same H1 H2 → R (k x) H2) → tt ((wipe σ vs).set i (some x)) H1 R)
    (he : ∀ x ∈ its, k x = true → ∀ H1, Same H H1 → ∀ R : VK, (∀ H2, Same H1 H2 → R (f x) H2) → te ((wipe σ vs).set i (some x)) H1 R)
    (q : ∀ D H1, H D = none → Same H H1 → H1 D = some (.lst ((its.filter k).map f)) → Qd D H1) :
    ∃ b, V.ref a = .ref b ∧ (∃ xs, SqL K H b xs) ∧ ∀ D, H D = none → ∃ W : Nat → Nat → Hp → Prop, (∃ m, W 0 m (upd H D (.lst []))) ∧ ∀ j m H, W j m H →
  ((Itl K b).stop j H ∧ Qd D H) ∨ ((Itl K b).go j H ∧ ∃ Nx : Hp → Prop, (∀ H', Nx H' → ∃ m', m' < m ∧ W (j + 1) m' H') ∧ ∀ x H', (Itl K b).yld j H x H' → gName i x (wipe σ vs) H' fun σ2 H2 => wipe σ2 vs = wipe σ vs ∧ tt σ2 H2 fun b H3 =>
    if b = true then te σ2 H3 fun y H4 => ∃ acc, H4 D = some (.lst acc) ∧ acc.length < sizeLine ∧ Nx (upd H4 D (.lst (acc ++ [y]))) else Nx H3) :=
  ⟨a, rfl, ⟨its, hS H (Same.refl H)⟩, lc_fm (its := its) walk_list (fun j H x H' hj y => y) hS f k (fun x => (wipe σ vs).set i (some x)) (fun x H1 R r => r) hw ht he hl q⟩
theorem lcT {Qd : Addr → Hp → Prop} {a : Addr} {its : List V} {i : Nat} (hS : ∀ H1, Same H H1 → SqT K H1 a its) (hl : its.length < sizeLine) (f : V → V) (k : V → Bool) (hw : ∀ x, wipe ((wipe σ vs).set i (some x)) vs = wipe σ vs)
    (ht : ∀ x ∈ its, ∀ H1, Same H H1 → ∀ R : Bool → Hp → Prop, (∀ H2, Same H1 H2 → R (k x) H2) → tt ((wipe σ vs).set i (some x)) H1 R)
    (he : ∀ x ∈ its, k x = true → ∀ H1, Same H H1 → ∀ R : VK, (∀ H2, Same H1 H2 → R (f x) H2) → te ((wipe σ vs).set i (some x)) H1 R)
    (q : ∀ D H1, H D = none → Same H H1 → H1 D = some (.lst ((its.filter k).map f)) → Qd D H1) :
    ∃ b, V.ref a = .ref b ∧ (∃ xs, SqT K H b xs) ∧ ∀ D, H D = none → ∃ W : Nat → Nat → Hp → Prop, (∃ m, W 0 m (upd H D (.lst []))) ∧ ∀ j m H, W j m H →
  ((Itt K b).stop j H ∧ Qd D H) ∨ ((Itt K b).go j H ∧ ∃ Nx : Hp → Prop, (∀ H', Nx H' → ∃ m', m' < m ∧ W (j + 1) m' H') ∧ ∀ x H', (Itt K b).yld j H x H' → gName i x (wipe σ vs) H' fun σ2 H2 => wipe σ2 vs = wipe σ vs ∧ tt σ2 H2 fun b H3 =>
    if b = true then te σ2 H3 fun y H4 => ∃ acc, H4 D = some (.lst acc) ∧ acc.length < sizeLine ∧ Nx (upd H4 D (.lst (acc ++ [y]))) else Nx H3) :=
  ⟨a, rfl, ⟨its, hS H (Same.refl H)⟩, lc_fm (its := its) walk_tup (fun j H x H' hj y => y) hS f k (fun x => (wipe σ vs).set i (some x)) (fun x H1 R r => r) hw ht he hl q⟩
theorem w_exs {z : Str} {R : Str → Prop} (q : R z) : ∃ x, V.str z = .str x ∧ R x := ⟨z, rfl, q⟩
theorem w_lcStr {z : Str} {tz : TE} {i : Nat} (hz : z.length ≤ 100000) (f : V → V) (k : V → Bool)
    (hq : ∀ R : It → Hp → Prop, R (Its z) H → iStr tz σ H R) (hw : ∀ x, wipe ((wipe σ vs).set i (some x)) vs = wipe σ vs)
    (ht : ∀ x ∈ sgns z, ∀ H1, Same H H1 → ∀ R : Bool → Hp → Prop, (∀ H2, Same H1 H2 → R (k x) H2) → tt ((wipe σ vs).set i (some x)) H1 R)
    (he : ∀ x ∈ sgns z, k x = true → ∀ H1, Same H H1 → ∀ R : VK, (∀ H2, Same H1 H2 → R (f x) H2) → te ((wipe σ vs).set i (some x)) H1 R)
    (q : ∀ D H1, H D = none → Same H H1 → H1 D = some (.lst (((sgns z).filter k).map f)) → Q (.ref D) H1) :
    tLc (iStr tz) (gName i) tt te vs σ H Q := hq _ (lcStr hz f k hw ht he q)
theorem w_all {a : Addr} {bs : List Bool} (h : SqL K H a (bs.map V.bl)) (q : Q (.bl (bs.all id)) H) : rAll K [.ref a] H Q := ⟨a, bs, rfl, h, q⟩
end
end Wp

namespace Wp
open PySem PySem.Spec PyProof.Rows L2 TyNe

/-! ### what an expression yields, as data, while one stream at p is drawn from -/
def EvS (p : Addr) (te : TE) (σ : L2.St) (H : Hp) (P : PyData → Prop) : Prop := ∀ H1, Kp p H H1 → Stm H1 p → ∀ Q : VK, (∀ v d H2, Kp p H1 H2 → Stm H2 p → P d → Dn (Off p) H2 v d → Q v H2) → te σ H1 Q
def EvSs (p : Addr) (ta : TA) (σ : L2.St) (H : Hp) (P : List PyData → Prop) : Prop := ∀ H1, Kp p H H1 → Stm H1 p → ∀ Q : List V → Hp → Prop, (∀ vs ds H2, Kp p H1 H2 → Stm H2 p → P ds → DnAll (Off p) H2 vs ds → Q vs H2) → ta σ H1 Q
section
variable {p : Addr} {te : TE} {ta : TA} {σ : L2.St} {H : Hp} {P P' : PyData → Prop} {R : List PyData → Prop}
theorem EvS.weak (h : EvS p te σ H P) (k : ∀ d, P d → P' d) : EvS p te σ H P' := fun H1 a s Q q => h H1 a s Q fun v d H2 b s' x y => q v d H2 b s' (k d x) y
theorem EvSs.weak {R' : List PyData → Prop} (h : EvSs p ta σ H R) (k : ∀ d, R d → R' d) : EvSs p ta σ H R' := fun H1 a s Q q => h H1 a s Q fun v d H2 b s' x y => q v d H2 b s' (k d x) y
theorem evs_non (h : P .none) : EvS p (tC .non) σ H P := fun H1 _ s Q q => q _ _ H1 Kp.refl s h .non
theorem evs_bl {b : Bool} (h : P (.bool b)) : EvS p (tC (.bl b)) σ H P := fun H1 _ s Q q => q _ _ H1 Kp.refl s h (.bl b)
theorem evs_int {i : Int} (h : P (.int i)) : EvS p (tC (.int i)) σ H P := fun H1 _ s Q q => q _ _ H1 Kp.refl s h (.int i)
theorem evs_str {x : Str} (h : P (.str x)) : EvS p (tC (.str x)) σ H P := fun H1 _ s Q q => q _ _ H1 Kp.refl s h (.str x)
theorem evs_var {i : Nat} {v : V} {d : PyData} (e : σ[i]? = some (some v)) (hd : Dn (Off p) H v d) (h : P d) : EvS p (tVar i) σ H P := fun H1 k s Q q => ⟨v, e, q v d H1 Kp.refl s h (hd.kp k)⟩
theorem evss_nil (h : R []) : EvSs p tNil σ H R := fun H1 _ s Q q => q _ _ H1 Kp.refl s h .nil
theorem evss_cons {R' : List PyData → Prop} (h : EvS p te σ H P) (hs : EvSs p ta σ H R) (k : ∀ d r, P d → R r → R' (d :: r)) : EvSs p (tCons te ta) σ H R' := fun H1 a s Q q =>
  h H1 a s _ fun v d H2 b s2 x y => hs H2 (a.trans b) s2 _ fun vs ds H3 c s3 xs ys => q (v :: vs) (d :: ds) H3 (b.trans c) s3 (k d ds x xs) (.cons (y.kp c) ys)
theorem evs_tup (h : EvSs p ta σ H R) (k : ∀ ds, R ds → ds.length ≤ 100000 ∧ P (.tuple ds)) : EvS p (tTup ta) σ H P := fun H1 a s Q q =>
  h H1 a s _ fun vs ds H2 b s2 x y => ⟨sz (by rw [y.len]; exact (k ds x).1), fun t ht => by
    have hn : t ≠ p := (Stm.ne s2 ht)
    exact q (.ref t) (.tuple ds) _ (b.upd (b.free hn ht)) (s2.up ht) (k ds x).2 (.tup hn upd_same (y.step fun c o n e => by rw [upd_ne (ne_of_none e ht)]; exact e))⟩
theorem evs_lst (h : EvSs p ta σ H R) (k : ∀ ds, R ds → ds.length ≤ 100000 ∧ P (.list ds)) : EvS p (tLst ta) σ H P := fun H1 a s Q q =>
  h H1 a s _ fun vs ds H2 b s2 x y => ⟨sz (by rw [y.len]; exact (k ds x).1), fun t ht => by
    have hn : t ≠ p := (Stm.ne s2 ht)
    exact q (.ref t) (.list ds) _ (b.upd (b.free hn ht)) (s2.up ht) (k ds x).2 (.lst hn upd_same (y.step fun c o n e => by rw [upd_ne (ne_of_none e ht)]; exact e))⟩
theorem evs_dnew (h : P (.dict [])) : EvS p tDNewK σ H P := fun H1 a s Q q t ht =>
  have hn : t ≠ p := (Stm.ne s ht)
  q (.ref t) (.dict []) _ (Kp.refl.upd ht) (s.up ht) h (.dic hn upd_same)
theorem evs_disp1 {k : Str} {v : Int} (h : P (.dict [])) : EvS p (tDisp [(tC (.str k), tC (.int v))]) σ H P := fun H1 a s Q q t ht =>
  have hn : t ≠ p := (Stm.ne s ht)
  ⟨upd_same, [(Sum.inr k, .int v)], rfl, (show 1 ≤ 15 by decide), q (.ref t) (.dict []) _ ((Kp.refl.upd ht).upd ht) (by
    obtain ⟨x, y, e, r⟩ := s
    exact ⟨x, y, by rw [upd_ne (ne_of_none e ht), upd_ne (ne_of_none e ht)]; exact e, r⟩) h (.dic hn upd_same)⟩
theorem evs_call {sp : Sp} (h : ∀ vs ds H1, Kp p H H1 → Stm H1 p → R ds → DnAll (Off p) H1 vs ds → ∀ Q : VK, (∀ v d H2, Kp p H1 H2 → Stm H2 p → P d → Dn (Off p) H2 v d → Q v H2) → sp vs H1 Q C8.E0) (ha : EvSs p ta σ H R) : EvS p (tCall sp [] C8.E0 ta) σ H P := fun H1 a s Q q =>
  ha H1 a s _ fun vs ds H2 b s2 x y => by
    show sp (vs ++ []) H2 Q C8.E0
    rw [List.append_nil]
    exact h vs ds H2 (a.trans b) s2 x y Q fun v d H3 c s3 x3 y3 => q v d H3 (b.trans c) s3 x3 y3
/-- used in a reading -/
theorem EvS.use {Q : VK} (h : EvS p te σ H P) (s : Stm H p) (q : ∀ v d H2, Kp p H H2 → Stm H2 p → P d → Dn (Off p) H2 v d → Q v H2) : te σ H Q := h H Kp.refl s Q q
theorem EvSs.use {Q : List V → Hp → Prop} (h : EvSs p ta σ H R) (s : Stm H p) (q : ∀ vs ds H2, Kp p H H2 → Stm H2 p → R ds → DnAll (Off p) H2 vs ds → Q vs H2) : ta σ H Q := h H Kp.refl s Q q
end
end Wp

namespace Wp
open PySem PySem.Spec PyProof.Rows L2 TyNe

/-! ### text * int -/
abbrev qMulS : R2 := fun x y H Q => ∃ (z : Str) (n : Int), x = .str z ∧ y = .int n ∧ MulOk z n ∧ Q (.str (Txt.mul z n)) H
theorem op_mulS {X : Cx} : OpR X (binaryOp .Mult) qMulS := by
  intro pins s σ H x y v u Q I rx ry h
  obtain ⟨i, j, rfl, rfl, hz, q⟩ := h
  obtain ⟨t, rfl⟩ := rx
  obtain ⟨t', rfl⟩ := ry
  exact SB.mul hz fun t' k => ⟨.str (Txt.mul i j), H, I.tok _, ⟨_, rfl⟩, q⟩
theorem foldl_size : ∀ (l : List (Array Nat)) (a : Array Nat), (l.foldl (· ++ ·) a).size = a.size + (l.map Array.size).sum
  | [], a => by simp
  | x :: l, a => by
    rw [List.foldl_cons, foldl_size l, Array.size_append, List.map_cons, List.sum_cons]
    omega
theorem rep_sum (n k : Nat) : ((List.replicate n k) : List Nat).sum = n * k := by
  induction n with
  | zero => simp
  | succ n ih => rw [List.replicate_succ, List.sum_cons, ih, Nat.succ_mul, Nat.add_comm]
theorem mul_len (x : Str) {n : Int} (h : 0 ≤ n) : (Txt.mul x n).length ≤ x.length * n.toNat := by
  unfold Txt.mul
  by_cases h1 : n < 1
  · rw [if_pos h1]
    exact Nat.zero_le _
  · rw [if_neg h1]
    by_cases h2 : (n == 1 || x.length == 0) = true
    · rw [if_pos h2]
      have : 1 ≤ n.toNat := by omega
      exact Nat.le_mul_of_pos_right _ this
    · rw [if_neg h2]
      show ((List.replicate n.toNat x.cps).foldl (· ++ ·) (#[] : Array Nat)).size ≤ _
      rw [foldl_size, List.map_replicate, rep_sum]
      show 0 + n.toNat * x.cps.size ≤ x.cps.size * n.toNat
      rw [Nat.zero_add, Nat.mul_comm]
      exact Nat.le_refl _
theorem mulOk {x : Str} {n : Int} (h0 : 0 ≤ n) (h1 : n ≤ 1000) (hx : x.length ≤ 10000) : MulOk x n := by
  refine ⟨?_, fun a b => ?_, fun a b => ?_⟩
  · rw [decide_eq_false (by omega), decide_eq_false (by omega)]
    rfl
  · have e : (2 ^ 63 - 1 : Int) / n ≥ (2 ^ 63 - 1 : Int) / 1000 := by
      rw [ge_iff_le, Int.le_ediv_iff_mul_le (by omega)]
      have e2 : (2 ^ 63 - 1 : Int) / 1000 = 9223372036854775 := by decide
      rw [e2]
      have := Int.mul_le_mul_of_nonneg_left h1 (show (0 : Int) ≤ 9223372036854775 by decide)
      omega
    have e2 : (2 ^ 63 - 1 : Int) / 1000 = 9223372036854775 := by decide
    omega
  · unfold Builtin.Str.tooLong
    have h2 : n.toNat ≤ 1000 := by omega
    have h3 : x.length * n.toNat ≤ 10000 * 1000 := Nat.mul_le_mul hx h2
    exact decide_eq_false (by
      have : (10000 * 1000 : Nat) ≤ sizeLine := by decide
      omega)
section
variable {H : Hp} {Q : VK}
theorem w_mulS {z : Str} {n : Int} (h0 : 0 ≤ n) (h1 : n ≤ 1000) (hx : z.length ≤ 10000) (q : (Txt.mul z n).length ≤ z.length * n.toNat → Q (.str (Txt.mul z n)) H) : qMulS (.str z) (.int n) H Q := ⟨z, n, rfl, rfl, mulOk h0 h1 hx, q (mul_len z h0)⟩
end

/-! ### the place of a sign -/
abbrev q_rfind4 : V → List V → Hp → VK → Prop := fun x xs H Q => ∃ (a b : Str) (i j : Int), x = .str a ∧ xs = [.str b, .int i, .int j] ∧ Q (.int (Txt.rfindIn a b i j)) H
abbrev q_find3 : V → List V → Hp → VK → Prop := fun x xs H Q => ∃ (a b : Str) (i : Int), x = .str a ∧ xs = [.str b, .int i] ∧ Q (.int (Txt.find3 a b i)) H
open Builtin Builtin.Str StrLaws in
theorem at_one {x : Str} {c hi i : Nat} (h : hi ≤ x.length) : At x ⟨#[c]⟩ hi i ↔ i < hi ∧ x.cps.toList[i]? = some c := by
  have e : (⟨#[c]⟩ : Str).length = 1 := rfl
  constructor
  · rintro ⟨h1, h2⟩
    rw [e] at h1
    exact ⟨by omega, (subAt_one x c i).mp ⟨by rw [e]; omega, h2⟩⟩
  · rintro ⟨h1, h2⟩
    exact ⟨by rw [e]; omega, ((subAt_one x c i).mpr h2).2⟩
open Builtin Builtin.Str StrLaws in
/-- the last c in [lo, hi) -/
theorem last_one (x : Str) (c lo hi : Nat) (h : hi ≤ x.length) : (lastOccurrence x ⟨#[c]⟩ lo hi = none ∧ ∀ i, lo ≤ i → i < hi → x.cps.toList[i]? ≠ some c) ∨
    ∃ i, lastOccurrence x ⟨#[c]⟩ lo hi = some i ∧ lo ≤ i ∧ i < hi ∧ x.cps.toList[i]? = some c ∧ ∀ k, i < k → k < hi → x.cps.toList[k]? ≠ some c := by
  rw [last_eq]
  have key := last_run x ⟨#[c]⟩ hi (List.range' lo (hi + 1 - lo)) [] none (fun _ h => nomatch h) (fun _ h => nomatch h) (by simpa using List.pairwise_lt_range' (s := lo) (n := hi + 1 - lo))
  have mem : ∀ i, lo ≤ i → i < hi → i ∈ [] ++ List.range' lo (hi + 1 - lo) := fun i h1 h2 => by
    simp [List.mem_range']
    exact ⟨i - lo, by omega, by omega⟩
  cases hr : (forIn (List.range' lo (hi + 1 - lo)) none (lastBody x ⟨#[c]⟩ hi)).run with
  | none =>
    rw [hr] at key
    exact .inl ⟨rfl, fun i h1 h2 e => key i (mem i h1 h2) ((at_one h).mpr ⟨h2, e⟩)⟩
  | some a =>
    rw [hr] at key
    have ka := (at_one h).mp key.1
    refine .inr ⟨a, rfl, ?_, ka.1, ka.2, fun k h1 h2 e => ?_⟩
    · -- it was among the places looked at
      have hmem : ∀ (l : List Nat) (st : Option Nat) (r : Nat), (forIn l st (lastBody x ⟨#[c]⟩ hi)).run = some r → r ∈ l ∨ st = some r := by
        intro l
        induction l with
        | nil => intro st r e; exact .inr e
        | cons b l ih =>
          intro st r e
          rw [List.forIn_cons] at e
          unfold lastBody at e
          split at e
          · rcases ih _ _ e with hm | hm
            · exact .inl (List.mem_cons_of_mem _ hm)
            · exact .inl (by cases hm; exact List.mem_cons_self ..)
          · rcases ih _ _ e with hm | hm
            · exact .inl (List.mem_cons_of_mem _ hm)
            · exact .inr hm
      rcases hmem _ _ _ hr with hm | hm
      · simp [List.mem_range'] at hm
        omega
      · exact nomatch hm
    · by_cases hk : lo ≤ k
      · exact key.2 k (mem k hk h2) h1 ((at_one h).mpr ⟨h2, e⟩)
      · exact key.2 k (by
          have hk2 : k < lo := by omega
          have : lo ≤ a := by
            have hmem : ∀ (l : List Nat) (st : Option Nat) (r : Nat), (forIn l st (lastBody x ⟨#[c]⟩ hi)).run = some r → r ∈ l ∨ st = some r := by
              intro l
              induction l with
              | nil => intro st r e; exact .inr e
              | cons b l ih =>
                intro st r e
                rw [List.forIn_cons] at e
                unfold lastBody at e
                split at e
                · rcases ih _ _ e with hm | hm
                  · exact .inl (List.mem_cons_of_mem _ hm)
                  · exact .inl (by cases hm; exact List.mem_cons_self ..)
                · rcases ih _ _ e with hm | hm
                  · exact .inl (List.mem_cons_of_mem _ hm)
                  · exact .inr hm
            rcases hmem _ _ _ hr with hm | hm
            · simp [List.mem_range'] at hm
              omega
            · exact nomatch hm
          omega) h1 ((at_one h).mpr ⟨h2, e⟩)
open Builtin Builtin.Str StrLaws in
/-- the first c from lo on -/
theorem first_one (x : Str) (c lo : Nat) : (occurrences x ⟨#[c]⟩ lo x.length 1 = [] ∧ ∀ i, lo ≤ i → x.cps.toList[i]? ≠ some c) ∨
    ∃ i r, occurrences x ⟨#[c]⟩ lo x.length 1 = i :: r ∧ lo ≤ i ∧ x.cps.toList[i]? = some c ∧ ∀ k, lo ≤ k → k < i → x.cps.toList[k]? ≠ some c := by
  rw [occ_eq]
  have inr : ∀ i c, x.cps.toList[i]? = some c → i < x.length := fun i c e => by
    have h := (List.getElem?_eq_some_iff.mp e).1
    simpa [Str.length] using h
  rcases occ_first x ⟨#[c]⟩ x.length 1 (Nat.le_refl _) (List.range' lo (x.length + 1 - lo)) lo (fun i hi => by simp [List.mem_range'] at hi; omega) with ⟨h0, hn⟩ | ⟨pre, a, post, e, h0, ha, hn⟩
  · refine .inl ⟨by rw [h0], fun i h1 e => ?_⟩
    have := inr i c e
    exact hn i (by simp [List.mem_range']; exact ⟨i - lo, by omega, by omega⟩) ((at_one (Nat.le_refl _)).mpr ⟨this, e⟩)
  · have hm : a ∈ List.range' lo (x.length + 1 - lo) := by rw [e]; simp
    have hlo : lo ≤ a := by simp [List.mem_range'] at hm; omega
    have ka := (at_one (Nat.le_refl _)).mp ha
    generalize hl : (forIn (List.range' lo (x.length + 1 - lo)) ((#[] : Array Nat), lo) (occBody x ⟨#[c]⟩ x.length 1)).run.fst = arr at h0
    rw [← Array.getElem?_toList] at h0
    cases hal : arr.toList with
    | nil => rw [hal] at h0; exact nomatch h0
    | cons b r =>
      rw [hal] at h0
      have hb : b = a := Option.some.inj h0
      subst hb
      refine .inr ⟨b, r, rfl, hlo, ka.2, fun k h1 h2 ek => ?_⟩
      have hk := inr k c ek
      refine hn k ?_ ((at_one (Nat.le_refl _)).mpr ⟨hk, ek⟩)
      have hp : (List.range' lo (x.length + 1 - lo)).Pairwise (· < ·) := by simpa using List.pairwise_lt_range' (s := lo) (n := x.length + 1 - lo)
      rw [e] at hp
      have hmk : k ∈ pre ++ b :: post := by rw [← e]; simp [List.mem_range']; exact ⟨k - lo, by omega, by omega⟩
      rcases List.mem_append.mp hmk with g | g
      · exact g
      · rcases List.mem_cons.mp g with g | g
        · omega
        · have := (List.pairwise_cons.mp (List.pairwise_append.mp hp).2.1).1 k g
          omega
end Wp

namespace Wp
open PySem PySem.Spec PyProof.Rows L2 TyNe

/-! ### a property of an own class -/
structure Prp (P : Program) (w : World) (K : PySem.W.Frag) (mg : Str → Option Value) (base : Heap) (k : Nat) (C : Addr) (m : Str) (sp : Sp) : Prop where
  ex : ∃ (f p : Addr) (fd : FuncData) (ps : List Str), Cls K C ∧ PropOf K C m p f ∧ FnOk P w K mg base C8.CX0 k f fd ps sp ∧ Binds K fd ps []
theorem prp0 {P : Program} {w : World} {K : PySem.W.Frag} {mg : Str → Option Value} {base : Heap} {m x qual : Str} {C p : Addr} {st : Stmt} {f : Addr} {fd : FuncData} {N ps : List Str} {k : Nat} {sp : Sp} (c : Cls K C) (hp : PropOf K C m p f) (F : C8.Fun K x qual st f fd) (b : Binds K fd ps []) (S : FnScope N ps (C8.fnScope st)) (len : ∀ vs H Q E, sp vs H Q E → vs.length = ps.length)
    (hbody : ∀ (cdv : Value) (A : Around) (outer : List Env) (s : Shared) (H : Hp) (vs : List V) (Q : VK) (E : XK), Room k (A.deeper (envOfC qual (C8.fnScope st) s.heap.objs.size f cdv)) → sp vs H Q E →
      ∃ t, PSs (cxOf C8.CX0 P w K mg base N qual (C8.fnScope st) f cdv A outer s H E).nox (C8.fnBody st) t ∧ t { nx := fun _ H' => Q .non H', rt := Q } (start N vs) H) : Prp P w K mg base (k + 1) C m sp :=
  ⟨f, p, fd, ps, c, hp, C8.fn0 F S len hbody, b⟩
theorem pe_pp {X : Cx} {k j : Nat} {C : Addr} {m : Str} {sp : Sp} {e : Expr} {pos : Pos} {ta : TE} (c : Prp X.prog X.w X.K X.mg X.base k C m sp) (hr : Room j X.A) (hk : k + 1 ≤ j) (he : PE X e ta)
    (hab : attributeBase e m X.env (eval e X.env) = eval e X.env) : PE X (.Attribute e m pos) (tProp C sp [] C8.E0 ta) := by
  obtain ⟨f, p, fd, ps, hc, hp, F, b⟩ := c.ex
  exact pe_prop he hc hp F (hr.mono hk) b .nil C8.pass0 hab
theorem hu1 {j : Nat} {A : Around} (hr : Room j A) : A.units + 1 < cLine := by
  have := hr.units
  omega
abbrev qSortedD : List V → Hp → VK → Prop := fun xs H Q => ∃ (a : Addr) (kvs : List (Key × V)) (ks : List Str), xs = [.ref a] ∧ Rd H a (.dK kvs) ∧ kvs.map (·.1) = ks.map Sum.inr ∧ ks.length < 64 ∧
    ∀ ys p, ys.Perm ks → sortedS ys = true → H p = none → Q (.ref p) (upd H p (.lst (ys.map V.str)))

section
variable {K : PySem.W.Frag} {σ : L2.St} {H : Hp} {v : V} {Q : VK} {D : Ends} {te ta td ty tv tx : TE}
theorem w_yes {R : Bool → Hp → Prop} (q : R true H) : tYes σ H R := q
theorem iteT_ {A B : Prop} (q : A) : if (true : Bool) = true then A else B := q
theorem gc {t : TG} {u : TGs} {v : V} {r : List V} {Q : L2.St → Hp → Prop} (q : t v σ H fun σ' H' => u r σ' H' Q) : gCons t u (v :: r) σ H Q := ⟨v, r, rfl, q⟩
theorem gn {Q : L2.St → Hp → Prop} (q : Q σ H) : gNil [] σ H Q := ⟨rfl, q⟩
theorem w_fld {f : Str} (q : ta σ H fun x H1 => ∃ a C dx fs v, x = .ref a ∧ H1 a = some (.ins C dx fs) ∧ Cls K C ∧ NoAttr K C f ∧ fs.lookup f = some v ∧ Q v H1) : tFld K ta f σ H Q := q
theorem w_prop {C : Addr} {sp : Sp} {dvs : List V} {E : XK} (q : ta σ H fun x H1 => ∃ a dx fs, x = .ref a ∧ H1 a = some (.ins C dx fs) ∧ sp (.ref a :: dvs) H1 Q E) : tProp C sp dvs E ta σ H Q := q
theorem w_meth {C : Addr} {m : Str} {sp : Sp} {dvs : List V} {E : XK} {t : TA} (q : ta σ H fun x H1 => ∃ a dx fs, x = .ref a ∧ H1 a = some (.ins C dx fs) ∧ fs.lookup m = none ∧ t σ H1 fun vs H2 => sp (x :: (vs ++ dvs)) H2 Q E) : tMeth C m sp dvs E ta t σ H Q := q
theorem w_make {C : Addr} {sp : Sp} {dvs : List V} {E : XK} {t : TA} (q : t σ H fun vs H1 => ∀ x dx, H1 x = none → H1 dx = none → dx ≠ x → sp (.ref x :: (vs ++ dvs)) (upd (upd H1 dx (.own x)) x (.ins C dx [])) (fun v H2 => v = .non ∧ Q (.ref x) H2) E) : tMake C sp dvs E t σ H Q := q
theorem w_dget (q : td σ H fun x H1 => ty σ H1 fun y H2 => ∃ a v, x = .ref a ∧ DGet H2 a y (some v) ∧ Q v H2) : tDGet td ty σ H Q := q
theorem w_dget2 (q : td σ H fun x H1 => ∃ a, x = .ref a ∧ IsD H1 a ∧ ty σ H1 fun y H2 => tx σ H2 fun z H3 => ∃ o, DGet H3 a y o ∧ Q (o.getD z) H3) : tDGet2 td ty tx σ H Q := q
theorem w_dput (q : tv σ H fun v H1 => td σ H1 fun x H2 => ty σ H2 fun y H3 => ∃ a H4, x = .ref a ∧ DPut H3 a y v H4 ∧ D.nx σ H4) : sDPut td ty tv D σ H := q
theorem w_sfld {f : Str} (q : tv σ H fun y H1 => ta σ H1 fun x H2 => ∃ a C dx fs, x = .ref a ∧ H2 a = some (.ins C dx fs) ∧ Cls K C ∧ NoAttr K C f ∧ fs.length < 1000 ∧ D.nx σ (upd H2 a (.ins C dx (putF f y fs)))) : sFld K ta tv f D σ H := q
end
end Wp

namespace Wp
open PySem PySem.Spec PyProof.Rows L2 TyNe He

/-! ### a dict of the module with text keys, asked by get -/
structure MDict (K : PySem.W.Frag) (w : World) (d : Addr) (g : Str → Option V) : Prop where
  ex : ∃ es n, KDict K w d es n ∧ ∀ z, ∃ r, PySem.W.nsIn K d z = some r ∧ RelO (g z) r
/-- NAME.get(k, x) -/
def tKGet2 (g : Str → Option V) (ty tx : TE) : TE := fun σ H Q => ty σ H fun y H1 => tx σ H1 fun z H2 => ∃ w : Str, y = .str w ∧ Q ((g w).getD z) H2
theorem pe_kget2 {X : Cx} {d : Addr} {g : Str → Option V} {x : Str} {e f : Expr} {p apos cpos : Pos} {ty tx : TE} (M : MDict X.K X.w d g) (hg : Gl X x) (hm : X.mg x = some (.ref d)) (he : PE X e ty) (hf : PE X f tx)
    (m : M2 X (.Name x p) "get" apos e f cpos) (hd : (x == ("__debug__" : Str)) = false := by decide) : PE X (.Call (.Attribute (.Name x p) "get" apos) [e, f] [] cpos) (tKGet2 g ty tx) := by
  obtain ⟨es, n, D, hn⟩ := M.ex
  refine ⟨fun pins s σ H Q I h => ?_⟩
  refine wpAny_Call_method m.base m.few m.line PySem.F.plainAttrs_dict PySem.F.slot_dict_get PySem.F.type_dict_get (thn ((C8.pe_gc (pos := p) (v := .ref d) hg ⟨_, hm, rfl⟩ hd).run pins s σ H (fun v H1 => v = .ref d ∧ ty σ H1 fun y H1 => tx σ H1 fun z H2 => ∃ w : Str, y = .str w ∧ Q ((g w).getD z) H2) I ⟨rfl, h⟩) fun u s1 ⟨x, H1, I1, rx, ex, q1⟩ => ?_)
  subst ex
  obtain rfl : u = Value.ref d := rx
  have mo : ∀ {s' : Shared} {σ' : L2.St} {H' : Hp}, Inv X pins σ' H' s' → s'.heap.MapOf (strKind X.prog X.w) d (fun k => findBy Value.isStrOf es k) := fun I' => PySem.W.mapOf_K (prog := X.prog) I'.kIn D.at_ D.lit
  refine ⟨(mo I1).typeIs, (mo I1).noDict, ?_⟩
  rw [m.trees]
  refine Calls.callWith_builtin rfl (Calls.evalArgs_plain (Calls.spliced_cons (thn (he.run pins s1 σ H1 _ I1 q1) fun iv s2 ⟨y, H2, I2, ry, q2⟩ =>
    Calls.spliced_cons (thn (hf.run pins s2 σ H2 _ I2 q2) fun fv s3 ⟨z, H3, I3, rz, w, ey, q3⟩ => Calls.spliced_nil ?_))))
  subst ey
  obtain ⟨t, rfl⟩ := ry
  obtain ⟨r, hr, rel⟩ := hn w
  refine call_meetsIn PySem.F.slot_dict_get (mo I3).typeIs PySem.F.entry_dict_get (PySem.F.args_dict_get_3 _ _ _) (meets_dict_get_default (strKind X.prog X.w) d (PySem.strKind_is X.prog X.w w t) D.low fv) ⟨_, mo I3, ?_⟩
  rw [PySem.W.find_K D.at_ hr]
  exact ⟨_, H3, I3.tok _, rel.getD rz, q3⟩
/-- from the keys, and what stands at each -/
theorem mdict {K : PySem.W.Frag} {w : World} {d : Addr} {kvs : List (Str × V)} (hk : dicW K d = some (keysIn w.params (kvs.map (·.1)))) (hv : ∀ p ∈ kvs, ∃ u, PySem.W.nsIn K d p.1 = some (some u) ∧ RelV p.2 u) :
    MDict K w d (fun z => (kvs.find? fun p => decide (p.1 = z)).map (·.2)) := by
  obtain ⟨es, n, D⟩ := dicW_ok hk
  refine ⟨es, n, D, fun z => ?_⟩
  cases hf : kvs.find? fun p => decide (p.1 = z) with
  | some p =>
    have hp := List.mem_of_find?_eq_some hf
    have hz0 := List.find?_some hf
    have hz : p.1 = z := of_decide_eq_true hz0
    obtain ⟨u, h1, h2⟩ := hv p hp
    rw [hz] at h1
    exact ⟨some u, h1, h2⟩
  | none =>
    refine ⟨none, ?_, trivial⟩
    have he : es.toList.map He.keyOf = keysIn w.params (kvs.map (·.1)) := by
      unfold dicW at hk
      rw [D.at_] at hk
      have hl := D.low
      simp [hl] at hk
      exact hk
    have hkey : ∀ e ∈ es.toList, ∃ x t, e.key = .str x t ∧ x ≠ z := fun e hm => by
      have h1 : He.keyOf e ∈ keysIn w.params (kvs.map (·.1)) := by rw [← he]; exact List.mem_map.mpr ⟨e, hm, rfl⟩
      obtain ⟨k, hkm, h2⟩ := List.mem_map.mp h1
      obtain ⟨p, hpm, rfl⟩ := List.mem_map.mp hkm
      obtain ⟨x, t, e1, e2⟩ := D.lit.all e hm
      refine ⟨x, t, e1, fun ez => ?_⟩
      unfold He.keyOf at h2
      rw [e1] at h2
      have h3 := congrArg Prod.fst (Option.some.inj h2)
      exact (List.find?_eq_none.mp hf p hpm) (decide_eq_true (h3.trans ez))
    unfold PySem.W.nsIn
    rw [D.at_]
    dsimp only
    have f0 : es.toList.find? (·.key.isStr z) = none := List.find?_eq_none.mpr fun e hm h => by
      obtain ⟨x, t, e1, e2⟩ := hkey e hm
      rw [e1] at h
      exact e2 (beq_iff_eq.mp h)
    have a0 : es.toList.any (·.refKey) = false := List.any_eq_false.mpr fun e hm h => by
      obtain ⟨x, t, e1, e2⟩ := hkey e hm
      unfold DictEntry.refKey at h
      rw [e1] at h
      exact nomatch h
    rw [f0, a0]
    rfl
end Wp

/-! zip of a tuple and a list -/
namespace ZMix
open PySem PySem.Spec PyProof.Rows L2 RZ
section
variable {prog : Program} {w : World} {A : Around} {E : Value → Shared → Prop} {s : Shared}
/-- what a zip object looks like: the tuple's iterator first, then the list's -/
structure Zst (h : Heap) (z TI TO i j p l : Addr) (n : Nat) (f : Value) : Prop where
  Z : IsZip h z TI TO f
  I : IsPair h TI (.ref i) (.ref j)
  O : ∃ a b, IsPair h TO a b
  P : h.IsTupleIter i p n
  L : h.IsListIter j l n
theorem step {z TI TO i j p l : Addr} {n : Nat} {xs ys : Array Value} {x y : Value} {Q : Value → Shared → Prop} (D : ZipApart z TI TO i j p l) (S : Zst s.heap z TI TO i j p l n .none)
    (hp : s.heap.IsTuple p xs) (hl : s.heap.IsList l ys) (hx : xs[n]? = some x) (hy : ys[n]? = some y)
    (q : ∀ h', Zst h' z TI TO i j p l (n + 1) (rawInt s.heap.objs.size) → IsPair h' s.heap.objs.size x y → h'.objs.size = s.heap.objs.size + 1 →
      (∀ c o, c ≠ z ∧ c ≠ TO ∧ c ≠ i ∧ c ≠ j → s.heap.get? c = some o → h'.get? c = some o) → Q (.ref s.heap.objs.size) { s with heap := h' }) :
    wpAny (model prog w) A (Builtin.«zip.__next__» ⟨[.ref z], []⟩) (fun r s' => ∃ v, r = .done (.ret v) ∧ Q v s') E s := by
  obtain ⟨a, b, hO⟩ := S.O
  show wpAny _ _ (field (.ref z) 2 >>= _) _ _ _; refine wpAny_bind (wpAny_field S.Z rfl (x := .bool false) rfl ?_)
  show wpAny _ _ (field (.ref z) 3 >>= _) _ _ _; refine wpAny_bind (wpAny_field S.Z rfl (x := .ref TI) rfl (wpAny_bind (wpAny_seqItems S.I rfl ?_)))
  show wpAny _ _ (Builtin.SmallTypes.ownedTupleIsFree (.ref z) >>= _) _ _ _; refine wpAny_bind ?_; unfold Builtin.SmallTypes.ownedTupleIsFree
  refine wpAny_bind (wpAny_field S.Z rfl (x := .none) rfl (wpAny_pure ?_)); simp only [if_true]
  refine wpAny_bind (wpAny_rule (wpAny_bind (wpAny_field S.Z rfl (x := .ref TO) rfl (wpAny_bind (wpAny_setField_rec S.Z (by simp) fun k1 u1 e1 => wpAny_bind ?_)))))
  have Z1 : IsZip k1 z TI TO .ellipsis := u1
  simp only [List.zipIdx_cons, List.zipIdx_nil, List.forIn_cons, List.forIn_nil]; refine wpAny_bind (wpAny_bind (wpAny_onRaise ?_))
  show wpAny _ _ (Builtin.SmallTypes.nextOf (.ref i) >>= _) _ _ _; refine wpAny_bind (nextOf_tuple_item (S.P.extBut e1.extBut D.i1z) (hp.extBut e1.extBut D.l1z) hx fun k2 P2 e2 => wpAny_pure ?_)
  have O2 : IsPair k2 TO a b := e2.extBut _ _ D.TOi1 (e1.extBut _ _ D.TOz hO)
  refine wpAny_bind (wpAny_seqItems O2 rfl (wpAny_bind (wpAny_updateSeq_pair O2 fun k3 u3 e3 => wpAny_bind (wpAny_letGo (wpAny_pure (wpAny_bind (wpAny_bind (wpAny_onRaise ?_))))))))
  have O3 : IsPair k3 TO x b := u3
  have up13 : ∀ c o, c ≠ TO → c ≠ i → k1.get? c = some o → k3.get? c = some o := fun c o c1 c2 e => e3.extBut _ _ c1 (e2.extBut _ _ c2 e)
  have up3 : ∀ c o, c ≠ z → c ≠ TO → c ≠ i → s.heap.get? c = some o → k3.get? c = some o := fun c o c0 c1 c2 e => up13 c o c1 c2 (e1.extBut _ _ c0 e)
  show wpAny _ _ (Builtin.SmallTypes.nextOf (.ref j) >>= _) _ _ _
  refine wpAny_bind (wpAny_nextOf_list_item (S.L.at fun o e => up3 j o D.i2z D.TOi2.symm D.i12.symm e) (hl.at fun o e => up3 l o D.l2z D.l2TO D.l2i1 e) hy fun k4 L4 e4 => wpAny_pure ?_)
  have O4 : IsPair k4 TO x b := e4.extBut _ _ D.TOi2 O3
  refine wpAny_bind (wpAny_seqItems O4 rfl (wpAny_bind (wpAny_updateSeq_pair O4 fun k5 u5 e5 => wpAny_bind (wpAny_letGo (wpAny_pure (wpAny_pure ?_))))))
  have O5 : IsPair k5 TO x y := u5
  refine wpAny_bind (wpAny_seqItems O5 rfl (wpAny_bind (wpAny_newTuple ?_)))
  have sz : k5.objs.size = s.heap.objs.size := by rw [e5.1, e4.1, e3.1, e2.1, e1.1]
  have up5 : ∀ c o, c ≠ TO → c ≠ i → c ≠ j → k1.get? c = some o → k5.get? c = some o := fun c o c1 c2 c3 e => e5.extBut _ _ c1 (e4.extBut _ _ c3 (up13 c o c1 c2 e))
  have Z5 : IsZip k5 z TI TO .ellipsis := up5 _ _ D.TOz.symm D.i1z.symm D.i2z.symm Z1
  have P5 : k5.IsTupleIter i p (n + 1) := P2.at fun o e => e5.extBut _ _ D.TOi1.symm (e4.extBut _ _ D.i12 (e3.extBut _ _ D.TOi1.symm e))
  have L5 : k5.IsListIter j l (n + 1) := L4.extBut e5.extBut D.TOi2.symm
  have lz : z < k5.objs.size := Heap.lt_size Z5
  show wpAny _ _ (Builtin.SmallTypes.ownedTupleHandOut (.ref z) (.ref k5.objs.size) >>= _) _ _ _; refine wpAny_bind ?_; unfold Builtin.SmallTypes.ownedTupleHandOut
  have Z6 : IsZip (k5.push { cls := .type "tuple", data := .seq #[x, y] }) z TI TO .ellipsis := Heap.get?_push_of_some _ Z5
  refine wpAny_bind (wpAny_setField_rec Z6 (by simp) fun k7 u7 e7 => ?_)
  have Z7 : IsZip k7 z TI TO (rawInt k5.objs.size) := u7
  refine wpAny_setField_rec Z7 (by simp) fun k8 u8 e8 => ?_
  have Z8 : IsZip k8 z TI TO (rawInt k5.objs.size) := u8
  have up8 : ∀ c o, c ≠ z → k5.get? c = some o → k8.get? c = some o := fun c o c0 e => e8.extBut _ _ c0 (e7.extBut _ _ c0 (Heap.get?_push_of_some _ e))
  have T8 : IsPair k8 k5.objs.size x y := e8.extBut _ _ (Nat.ne_of_gt lz) (e7.extBut _ _ (Nat.ne_of_gt lz) (Heap.get?_push_size _ rfl))
  have s8 : k8.objs.size = k5.objs.size + 1 := by rw [e8.1, e7.1, Heap.size_push]
  rw [sz] at Z8 T8 s8
  have I8 : IsPair k8 TI (.ref i) (.ref j) := up8 _ _ D.TIz (up5 _ _ D.TITO D.TIi1 D.TIi2 (e1.extBut _ _ D.TIz S.I))
  refine wpAny_pure ⟨_, rfl, ?_⟩
  rw [show k5.objs.size = s.heap.objs.size from sz]
  exact q k8 ⟨Z8, I8, ⟨x, y, up8 _ _ D.TOz O5⟩, P5.at fun o e => up8 _ o D.i1z e, L5.at fun o e => up8 _ o D.i2z e⟩ T8 s8 fun c o c0 e => up8 c o c0.1 (up5 c o c0.2.1 c0.2.2.1 c0.2.2.2 (e1.extBut _ _ c0.1 e))
theorem stop {z TI TO i j p l : Addr} {n : Nat} {xs ys : Array Value} {Q : PySem.Fin → Shared → Prop} (hh : A.handled = none) (D : ZipApart z TI TO i j p l) (S : Zst s.heap z TI TO i j p l n .none)
    (hp : s.heap.IsTuple p xs) (hl : s.heap.IsList l ys) (he : xs[n]? = none ∨ ys[n]? = none)
    (q : ∀ h' e, (∀ c o, c ≠ z ∧ c ≠ TO ∧ c ≠ i ∧ c ≠ j → s.heap.get? c = some o → h'.get? c = some o) → (∃ o, h'.get? e = some o ∧ o.cls = .type "StopIteration") → E (.ref e) { s with heap := h' }) :
    wpAny (model prog w) A (Builtin.«zip.__next__» ⟨[.ref z], []⟩) Q E s := by
  obtain ⟨a, b, hO⟩ := S.O
  show wpAny _ _ (field (.ref z) 2 >>= _) _ _ _; refine wpAny_bind (wpAny_field S.Z rfl (x := .bool false) rfl ?_)
  show wpAny _ _ (field (.ref z) 3 >>= _) _ _ _; refine wpAny_bind (wpAny_field S.Z rfl (x := .ref TI) rfl (wpAny_bind (wpAny_seqItems S.I rfl ?_)))
  show wpAny _ _ (Builtin.SmallTypes.ownedTupleIsFree (.ref z) >>= _) _ _ _; refine wpAny_bind ?_; unfold Builtin.SmallTypes.ownedTupleIsFree
  refine wpAny_bind (wpAny_field S.Z rfl (x := .none) rfl (wpAny_pure ?_)); simp only [if_true]
  refine wpAny_bind (wpAny_rule (wpAny_bind (wpAny_field S.Z rfl (x := .ref TO) rfl (wpAny_bind (wpAny_setField_rec S.Z (by simp) fun k1 u1 e1 => wpAny_bind ?_)))))
  have Z1 : IsZip k1 z TI TO .ellipsis := u1
  simp only [List.zipIdx_cons, List.zipIdx_nil, List.forIn_cons, List.forIn_nil]; refine wpAny_bind (wpAny_bind (wpAny_onRaise ?_))
  show wpAny _ _ (Builtin.SmallTypes.nextOf (.ref i) >>= _) _ _ _
  have apart : ∀ {k : Heap} {e : Addr} {oe : Obj}, IsZip k z TI TO .ellipsis → k.get? e = some oe → oe.cls = .type "StopIteration" → e ≠ z := fun {k e oe} hz h1 h2 h3 => by
    rw [h3, show k.get? z = _ from hz] at h1
    cases h1
    exact absurd (show Value.type "zip" = .type "StopIteration" from h2) (by decide)
  cases hx : xs[n]? with
  | none =>
    refine wpAny_bind (nextOf_tuple_end hh (S.P.extBut e1.extBut D.i1z) (hp.extBut e1.extBut D.l1z) hx fun k2 e e2 ⟨oe, h1, h2⟩ => ?_)
    have Z2 : IsZip k2 z TI TO .ellipsis := e2 _ _ D.i1z.symm Z1
    exact wpAny_setField_rec Z2 (by simp) fun k3 _ e3 => q k3 e (fun c o c0 x => e3.extBut _ _ c0.1 (e2 _ _ c0.2.2.1 (e1.extBut _ _ c0.1 x))) ⟨oe, e3.extBut _ _ (apart Z2 h1 h2) h1, h2⟩
  | some x =>
    have hy : ys[n]? = none := he.resolve_left (by rw [hx]; exact nofun)
    refine wpAny_bind (nextOf_tuple_item (S.P.extBut e1.extBut D.i1z) (hp.extBut e1.extBut D.l1z) hx fun k2 P2 e2 => wpAny_pure ?_)
    have O2 : IsPair k2 TO a b := e2.extBut _ _ D.TOi1 (e1.extBut _ _ D.TOz hO)
    refine wpAny_bind (wpAny_seqItems O2 rfl (wpAny_bind (wpAny_updateSeq_pair O2 fun k3 u3 e3 => wpAny_bind (wpAny_letGo (wpAny_pure (wpAny_bind (wpAny_bind (wpAny_onRaise ?_))))))))
    have up3 : ∀ c o, c ≠ z → c ≠ TO → c ≠ i → s.heap.get? c = some o → k3.get? c = some o := fun c o c0 c1 c2 e => e3.extBut _ _ c1 (e2.extBut _ _ c2 (e1.extBut _ _ c0 e))
    show wpAny _ _ (Builtin.SmallTypes.nextOf (.ref j) >>= _) _ _ _
    refine wpAny_bind (wpAny_nextOf_list_end hh (S.L.at fun o e => up3 j o D.i2z D.TOi2.symm D.i12.symm e) (hl.at fun o e => up3 l o D.l2z D.l2TO D.l2i1 e) hy fun k4 e e4 ⟨oe, h1, h2⟩ => ?_)
    have Z4 : IsZip k4 z TI TO .ellipsis := e4 _ _ D.i2z.symm (e3.extBut _ _ D.TOz.symm (e2.extBut _ _ D.i1z.symm Z1))
    exact wpAny_setField_rec Z4 (by simp) fun k5 _ e5 => q k5 e (fun c o c0 x => e5.extBut _ _ c0.1 (e4 _ _ c0.2.2.2 (up3 c o c0.1 c0.2.1 c0.2.2.1 x))) ⟨oe, e5.extBut _ _ (apart Z4 h1 h2) h1, h2⟩
theorem nxt {z TI TO i j p l : Addr} {n : Nat} {xs ys : Array Value} {x y : Value} {Q : Option Value → Shared → Prop} (D : ZipApart z TI TO i j p l) (S : Zst s.heap z TI TO i j p l n .none)
    (hp : s.heap.IsTuple p xs) (hl : s.heap.IsList l ys) (hx : xs[n]? = some x) (hy : ys[n]? = some y)
    (q : ∀ h', Zst h' z TI TO i j p l (n + 1) (rawInt s.heap.objs.size) → IsPair h' s.heap.objs.size x y → h'.objs.size = s.heap.objs.size + 1 →
      (∀ c o, c ≠ z ∧ c ≠ TO ∧ c ≠ i ∧ c ≠ j → s.heap.get? c = some o → h'.get? c = some o) → Q (some (.ref s.heap.objs.size)) { s with heap := h' }) : wpAny (model prog w) A (pyNext (.ref z)) Q E s := by
  unfold pyNext
  refine wpAny_bind (wpAny_attempt (wpAny_callSpecial?_slot (name := Str.ofString "__next__") ⟨_, S.Z, rfl⟩ F.slot_zip_next (wpAny_call_entry F.slot_zip_next ⟨_, S.Z, rfl⟩ F.entry_zip_next ?_ (F.args_zip_next_1 _))))
  exact step D S hp hl hx hy fun h' a b c d => wpAny_pure (q h' a b c d)
theorem nxtE {z TI TO i j p l : Addr} {n : Nat} {xs ys : Array Value} {Q : Option Value → Shared → Prop} (hh : A.handled = none) (D : ZipApart z TI TO i j p l) (S : Zst s.heap z TI TO i j p l n .none)
    (hp : s.heap.IsTuple p xs) (hl : s.heap.IsList l ys) (he : xs[n]? = none ∨ ys[n]? = none)
    (q : ∀ h', (∀ c o, c ≠ z ∧ c ≠ TO ∧ c ≠ i ∧ c ≠ j → s.heap.get? c = some o → h'.get? c = some o) → Q none { s with heap := h' }) : wpAny (model prog w) A (pyNext (.ref z)) Q E s := by
  unfold pyNext
  refine wpAny_bind (wpAny_attempt (wpAny_callSpecial?_slot (name := Str.ofString "__next__") ⟨_, S.Z, rfl⟩ F.slot_zip_next (wpAny_call_entry F.slot_zip_next ⟨_, S.Z, rfl⟩ F.entry_zip_next ?_ (F.args_zip_next_1 _))))
  exact stop hh D S hp hl he fun h' e k ⟨o, h1, h2⟩ => wpAny_bind (wpAny_isInstance (T := "StopIteration") (b := true) ⟨o, h1, h2⟩ isSubtype_stop (wpAny_pure (q _ k)))
end
/-- the heap with the five new objects -/
def mk1 (h : Heap) (p : Addr) : Heap := h.push { cls := .type "tuple_iterator", data := .fields #[.ref p, .int 0 0] }
def mk2 (h : Heap) (p l : Addr) : Heap := (mk1 h p).push { cls := .type "list_iterator", data := .fields #[.ref l, .int 0 0] }
def mk3 (h : Heap) (p l : Addr) : Heap := (mk2 h p l).push { cls := .type "tuple", data := .seq #[.ref h.objs.size, .ref (mk1 h p).objs.size] }
def mk4 (h : Heap) (p l : Addr) : Heap := (mk3 h p l).push { cls := .type "tuple", data := .seq #[.none, .none] }
def mk5 (h : Heap) (p l : Addr) : Heap := (mk4 h p l).push { cls := .type "zip", data := .fields #[.none, .bool false, .bool false, .ref (mk2 h p l).objs.size, .ref (mk3 h p l).objs.size] }
theorem made (p l : Addr) (xs ys : Array Value) : Meets (Builtin.«zip.__new__» ⟨[.type "zip", .ref p, .ref l], []⟩) (fun _ R s => s.heap.IsTuple p xs ∧ s.heap.IsList l ys ∧ R (.ok (.ret (.ref (mk4 s.heap p l).objs.size))) { s with heap := mk5 s.heap p l }) :=
  .of_wp fun prog w A R s hyp => by
    obtain ⟨hp, g, d, tk, os⟩ := s
    obtain ⟨a1, a2, a3⟩ := hyp
    have hsub := sub_zip
    have b1 : Heap.IsTuple (Shared.heap ⟨hp, g, d, tk, os⟩) p xs := a1
    have b2 : Heap.IsList (Shared.heap ⟨hp.push { cls := .type "tuple_iterator", data := .fields #[.ref p, .int 0 0] }, g, d, tk, os⟩) l ys := Heap.IsList.push a2 _
    wp_walk using wpAny_pyIter_tuple b1, wpAny_pyIter_list b2
    exact ⟨_, rfl, a3⟩
theorem mk_all (h : Heap) (p l : Addr) : Zst (mk5 h p l) (h.objs.size + 4) (h.objs.size + 2) (h.objs.size + 3) h.objs.size (h.objs.size + 1) p l 0 .none ∧ (mk4 h p l).objs.size = h.objs.size + 4 ∧ ∀ c o, h.get? c = some o → (mk5 h p l).get? c = some o := by
  have s1 : (mk1 h p).objs.size = h.objs.size + 1 := Heap.size_push ..
  have s2 : (mk2 h p l).objs.size = h.objs.size + 2 := by unfold mk2; rw [Heap.size_push, s1]
  have s3 : (mk3 h p l).objs.size = h.objs.size + 3 := by unfold mk3; rw [Heap.size_push, s2]
  have s4 : (mk4 h p l).objs.size = h.objs.size + 4 := by unfold mk4; rw [Heap.size_push, s3]
  have u45 : ∀ c o, (mk4 h p l).get? c = some o → (mk5 h p l).get? c = some o := fun c o e => Heap.get?_push_of_some _ e
  have u35 : ∀ c o, (mk3 h p l).get? c = some o → (mk5 h p l).get? c = some o := fun c o e => u45 c o (Heap.get?_push_of_some _ e)
  have u25 : ∀ c o, (mk2 h p l).get? c = some o → (mk5 h p l).get? c = some o := fun c o e => u35 c o (Heap.get?_push_of_some _ e)
  have u15 : ∀ c o, (mk1 h p).get? c = some o → (mk5 h p l).get? c = some o := fun c o e => u25 c o (Heap.get?_push_of_some _ e)
  refine ⟨⟨?_, ?_, ⟨Value.none, Value.none, ?_⟩, ?_, ?_⟩, s4, fun c o e => u15 c o (Heap.get?_push_of_some _ e)⟩
  · show (mk5 h p l).get? (h.objs.size + 4) = _
    rw [← s4, ← s2, ← s3]
    exact Heap.get?_push_size _ rfl
  · show (mk5 h p l).get? (h.objs.size + 2) = _
    rw [← s2, ← s1]
    exact u35 _ _ (Heap.get?_push_size _ rfl)
  · show (mk5 h p l).get? (h.objs.size + 3) = _
    rw [← s3]
    exact u45 _ _ (Heap.get?_push_size _ rfl)
  · exact ⟨_, u15 _ _ (Heap.get?_push_size _ rfl), rfl, rfl⟩
  · exact ⟨_, by rw [← s1]; exact u25 _ _ (Heap.get?_push_size _ rfl), rfl, rfl⟩
section
variable {prog : Program} {w : World} {A : Around} {E : Value → Shared → Prop} {s : Shared}
theorem calls {p l : Addr} {xs ys : Array Value} {Q : Value → Shared → Prop} (hp : s.heap.IsTuple p xs) (hl : s.heap.IsList l ys) (q : Q (.ref (s.heap.objs.size + 4)) { s with heap := mk5 s.heap p l }) :
    wpAny (model prog w) A (call (.type "zip") [.ref p, .ref l]) Q E s := by
  refine callType_new F.called_zip (by decide) (F.typeCall_zip_2 _ _) (F.newCall_zip_2 _ _) (fun obj => F.args_object_init_3 obj _ _) F.entry_zip_new (made p l xs ys) ⟨hp, hl, ?_⟩
  have hk := mk_all s.heap p l
  show _ ∧ _
  rw [hk.2.1]
  exact ⟨⟨_, hk.1.Z, rfl⟩, q⟩
end
/-- the tuple at a and the list at b, the items in new pairs -/
def ItM (K : PySem.W.Frag) (a b : Addr) : It :=
  ⟨fun i H => ∃ (xs ys : List V) (x y : V), SqT K H a xs ∧ SqL K H b ys ∧ xs[i]? = some x ∧ ys[i]? = some y,
    fun i H v H' => ∃ T x y, v = .ref T ∧ H T = none ∧ H' = upd H T (.tup [x, y]) ∧ (∀ xs, SqT K H a xs → xs[i]? = some x) ∧ ∀ ys, SqL K H b ys → ys[i]? = some y,
    fun i H => ∃ xs ys : List V, SqT K H a xs ∧ SqL K H b ys ∧ (xs.length ≤ i ∨ ys.length ≤ i)⟩
theorem turnM {P : Program} {w : World} {K : PySem.W.Frag} {elts : List Expr} {kk : Nat} {tpos : Pos} {a b z TI TO i1 i2 : Addr} (D : ZipApart z TI TO i1 i2 a b) :
    Turn P w K (.Tuple elts kk tpos) (ItM K a b) [z, TI, TO, i1, i2] z (fun i h => Zst h z TI TO i1 i2 a b i .none) where
  mem := List.mem_cons_self ..
  obj := fun i h S c hc => by
    obtain ⟨x, y, hO⟩ := S.O
    obtain ⟨o1, e1, _, d1⟩ := S.P
    obtain ⟨o2, e2, _, d2⟩ := S.L
    simp only [List.mem_cons, List.not_mem_nil, or_false] at hc
    rcases hc with rfl | rfl | rfl | rfl | rfl
    · exact ⟨_, S.Z, fun v q => nomatch q⟩
    · exact ⟨_, S.I, fun v q => nomatch q⟩
    · exact ⟨_, hO, fun v q => nomatch q⟩
    · exact ⟨o1, e1, fun v q => by rw [d1] at q; cases q⟩
    · exact ⟨o2, e2, fun v q => by rw [d2] at q; cases q⟩
  keep := fun i h h' S k => by
    obtain ⟨x, y, hO⟩ := S.O
    exact ⟨k z (by simp) _ S.Z, k TI (by simp) _ S.I, ⟨x, y, k TO (by simp) _ hO⟩, S.P.at fun o q => k i1 (by simp) o q, S.L.at fun o q => k i2 (by simp) o q⟩
  item := by
    intro X e1 e2 e3 hc i pins s σ H E I hf S hg
    subst e1 e2 e3
    obtain ⟨xs, ys, x, y, hqx, hqy, hx, hy⟩ := hg
    obtain ⟨its, rv, p, _⟩ := I.tuple hqx
    obtain ⟨its2, rv2, p2, _⟩ := I.list hqy
    obtain ⟨u, hu, ru⟩ := rv.get hx
    obtain ⟨u2, hu2, ru2⟩ := rv2.get hy
    have lz : z < s.heap.objs.size := Heap.lt_size S.Z
    have lt : ∀ c, c ∈ [z, TI, TO, i1, i2] → c < s.heap.objs.size := fun c hc => by
      obtain ⟨x, y, hO⟩ := S.O
      simp only [List.mem_cons, List.not_mem_nil, or_false] at hc
      rcases hc with rfl | rfl | rfl | rfl | rfl
      · exact lz
      · exact Heap.lt_size S.I
      · exact Heap.lt_size hO
      · obtain ⟨_, e, _⟩ := S.P; exact Heap.lt_size e
      · obtain ⟨_, e, _⟩ := S.L; exact Heap.lt_size e
    refine nxt D S p p2.isList (x := u) (y := u2) (by simpa using hu) (by simpa using hu2) fun h1 S1 hT _ hk => ⟨_, rfl, wpAny_letOwnedTupleGo_zip (s := { s with heap := h1 }) S1.Z fun h2 Z2 sb => ?_⟩
    have T2 : h2.get? s.heap.objs.size = some { cls := .type "tuple", data := .seq #[u, u2] } := (sb.2 _ (Nat.ne_of_gt lz)).trans hT
    have ok : ObjOk X.prog X.w (upd H s.heap.objs.size (.tup [x, y])) h2 s.heap.objs.size (.tup [x, y]) := ⟨(show 2 ≤ sizeLine by decide), [u, u2], .cons ru (.cons ru2 .nil), ⟨_, T2, rfl, _, rfl⟩⟩
    have I1 : Inv X pins σ (upd H s.heap.objs.size (.tup [x, y])) { s with heap := h2 } := I.turnedNew (t' := s.toks) (ch := [z, TI, TO, i1, i2]) (fun c o hb q => (sb.2 c (fun e => hb (by simp [e]))).trans (hk c o ⟨fun e => hb (by simp [e]), fun e => hb (by simp [e]), fun e => hb (by simp [e]), fun e => hb (by simp [e])⟩ q)) hf (Nat.le_refl _) ok
    obtain ⟨a0, b0, O1⟩ := S1.O
    refine ⟨.ref s.heap.objs.size, _, I1, rfl, ⟨_, x, y, rfl, I.hok.fresh (Nat.le_refl _), rfl, fun l hl => by rw [I.tuple_inj hl hqx]; exact hx, fun l hl => by rw [I.list_inj hl hqy]; exact hy⟩, ⟨Z2, (sb.2 _ D.TIz).trans S1.I, ⟨a0, b0, (sb.2 _ D.TOz).trans O1⟩, S1.P.at fun o q => (sb.2 _ D.i1z).trans q, S1.L.at fun o q => (sb.2 _ D.i2z).trans q⟩, fun c hc => ?_⟩
    rw [upd_ne (Nat.ne_of_lt (lt c hc))]
    exact (hf c hc).1
  done := by
    intro X e1 e2 e3 hc i pins s σ H E I hf S hg
    subst e1 e2 e3
    obtain ⟨xs, ys, hqx, hqy, hend⟩ := hg
    obtain ⟨its, rv, p, _⟩ := I.tuple hqx
    obtain ⟨its2, rv2, p2, _⟩ := I.list hqy
    have l1 := rv.length
    have l2 := rv2.length
    have he : its.toArray[i]? = none ∨ its2.toArray[i]? = none := hend.elim (fun q => .inl (by simp; omega)) (fun q => .inr (by simp; omega))
    exact nxtE (I.ok.hd hc) D S p p2.isList he fun h' hk => ⟨rfl, I.turnedL (t' := s.toks) (ch := [z, TI, TO, i1, i2]) (fun c o hb q => hk c o ⟨fun e => hb (by simp [e]), fun e => hb (by simp [e]), fun e => hb (by simp [e]), fun e => hb (by simp [e])⟩ q) hf⟩
  self := fun A i s Q E S h => wpAny_pyIter_zip S.Z h
def iZipM (K : PySem.W.Frag) (ta : TA) : TI := fun σ H R => ta σ H fun vs H1 => ∃ a b xs ys, vs = [.ref a, .ref b] ∧ SqT K H1 a xs ∧ SqL K H1 b ys ∧ R (ItM K a b) H1
theorem pi_zipM {X : Cx} {e e2 : Expr} {ta : TA} {p pos tpos : Pos} {elts : List Expr} {kk : Nat} (hg : Gl X "zip") (hm : X.mg "zip" = none) (ha : PA X [e, e2] ta)
    (hs : starEach [e, e2] X.env = (false, eval e X.env) :: starEach [e2] X.env := by rfl) (hpl : (backTo pos (starEach [e2] X.env)).any (·.1) = false := by rfl) :
    PI X (.Tuple elts kk tpos) (.Call (.Name "zip" p) [e, e2] [] pos) (iZipM X.K ta) := by
  refine ⟨fun pins s σ H R I h => Call_ (ld_blt I hg hm PyProof.Rows.boot_zip (PyProof.Rows.callWith_type1 (thn (ha.run pos pins s σ H _ I h) fun us s1 ⟨vs, H1, I1, r1, a, b, xs, ys, ex, hqx, hqy, q⟩ => ?_) hs hpl))⟩
  subst ex
  obtain ⟨ua, ub, rfl, ra, rb⟩ : ∃ ua ub, us = [ua, ub] ∧ RelV (.ref a) ua ∧ RelV (.ref b) ub := by
    cases r1 with
    | cons r rr =>
      cases rr with
      | cons r' rr => cases rr; exact ⟨_, _, rfl, r, r'⟩
  obtain rfl : ua = .ref a := ra
  obtain rfl : ub = .ref b := rb
  obtain ⟨its, rv, p1, _⟩ := I1.tuple hqx
  obtain ⟨its2, rv2, p2, _⟩ := I1.list hqy
  obtain ⟨S, _, hk⟩ := mk_all s1.heap a b
  refine calls p1 p2.isList (wpAny_pyIter_zip S.Z ?_)
  have I2 : Inv X pins σ H1 { s1 with heap := mk5 s1.heap a b } := I1.kept (t' := s1.toks) hk
  obtain ⟨o1, ho1, _⟩ := id p1
  refine ⟨s1.heap.objs.size + 4, [s1.heap.objs.size + 4, s1.heap.objs.size + 2, s1.heap.objs.size + 3, s1.heap.objs.size, s1.heap.objs.size + 1], _, _, H1, rfl, I2, turnM (PySem.W.ktu_apart s1.heap.objs.size a b (Heap.lt_size ho1) p2.lt), S, fun c hc => ?_, q⟩
  have hle : s1.heap.objs.size ≤ c := by
    simp only [List.mem_cons, List.not_mem_nil, or_false] at hc
    rcases hc with e | e | e | e | e <;> rw [e] <;> first | exact Nat.le_add_right _ _ | exact Nat.le_refl _
  exact I1.fpOk hle (I1.hok.fresh hle)
theorem walkM {K : PySem.W.Frag} {a b : Addr} {xs ys : List V} {n : Nat} (hn : n = min xs.length ys.length) : Walk (ItM K a b) n (fun H => SqT K H a xs ∧ SqL K H b ys) (YPair (fun i => xs[i]?) (fun i => ys[i]?)) := by
  subst hn
  refine ⟨fun i _ hi q => ?_, fun _ q => ⟨xs, ys, q.1, q.2, by omega⟩, fun i H v H' _ q ⟨T, x, z, h1, h2, h3, h4, h5⟩ => ⟨T, x, z, h1, h2, h3, h4 xs q.1, h5 ys q.2⟩⟩
  exact ⟨xs, ys, xs[i]'(by omega), ys[i]'(by omega), q.1, q.2, List.getElem?_eq_getElem _, List.getElem?_eq_getElem _⟩
end ZMix

namespace Wp
open PySem PySem.Spec PyProof.Rows L2 TyNe He

/-! ### tuples and tables of the module -/
/-- a tuple of the module -/
structure TupK (K : PySem.W.Frag) (a : Addr) (xs : List V) : Prop where
  ex : ∃ (o : Obj) (its : Array Value) (n : Nat), K.lookup a = some o ∧ o.cls = .type "tuple" ∧ o.data = .seq its n ∧ its.size ≤ sizeLine ∧ Vals xs its.toList
theorem TupK.sq {K : PySem.W.Frag} {a : Addr} {xs : List V} {H : Hp} (h : TupK K a xs) : SqT K H a xs := .inr h.ex
theorem TupK.mk' {K : PySem.W.Frag} {a : Addr} {xs : List V} {od : Option Addr} {its : Array Value} {n : Nat} {sl : Array (Option Value)} (h : K.lookup a = some ⟨.type "tuple", od, .seq its n, sl⟩) (hz : its.size ≤ 1000) (hv : Vals xs its.toList) : TupK K a xs :=
  ⟨_, its, n, h, rfl, rfl, Nat.le_trans hz (by decide), hv⟩
def tabG (kv : List (Str × V)) : Str → Option V := fun z => (kv.find? fun p => decide (p.1 = z)).map (·.2)
def rTab (A : Addr) (g : Str → Option V) : R2 := fun x y H Q => ∃ z v, x = .ref A ∧ y = .str z ∧ g z = some v ∧ Q v H
theorem ix_tab {X : Cx} {A : Addr} {g : Str → Option V} (M : MDict X.K X.w A g) : IxR X (rTab A g) := by
  intro e1 e2 pins s σ H x y v u Q I rx ry ⟨z, r, ex, ey, hg, q⟩ hs
  obtain ⟨es, n, D, hn⟩ := M.ex
  obtain ⟨t, h1, h2⟩ := hn z
  rw [hg] at h2
  cases t with
  | none => exact h2.elim
  | some t => exact ix_kdict e1 e2 pins s σ H x y v u Q I rx ry ⟨A, z, r, ex, ey, ⟨es, n, t, D.at_, D.lit, h1, h2⟩, q⟩ hs
/-- the entries of a table -/
def EntLit (P : Params) : List DictEntry → List (Str × V) → Prop
  | [], [] => True
  | e :: r, p :: s => (∃ t, e.key = .str p.1 t ∧ e.hash = PyData.keyHash P p.1 ∧ RelV p.2 e.val) ∧ EntLit P r s
  | _, _ => False
theorem EntLit.keys {P : Params} : ∀ {l : List DictEntry} {kv : List (Str × V)}, EntLit P l kv → PySem.W.KeysLit P l
  | [], [], _ => trivial
  | e :: r, p :: s, h => ⟨by obtain ⟨⟨t, h1, h2, _⟩, _⟩ := h; exact ⟨_, t, h1, h2⟩, EntLit.keys h.2⟩
  | [], _ :: _, h => h.elim
  | _ :: _, [], h => h.elim
theorem EntLit.find {P : Params} (z : Str) : ∀ {l : List DictEntry} {kv : List (Str × V)}, EntLit P l kv → RelO ((kv.find? fun p => decide (p.1 = z)).map (·.2)) ((l.find? (·.key.isStr z)).map (·.val)) ∧ l.any (·.refKey) = false
  | [], [], _ => ⟨trivial, rfl⟩
  | e :: r, p :: s, h => by
    obtain ⟨⟨t, h1, h2, h3⟩, h4⟩ := h
    obtain ⟨i1, i2⟩ := EntLit.find z h4
    have hr : e.refKey = false := by unfold DictEntry.refKey; rw [h1]
    refine ⟨?_, by rw [List.any_cons, hr, i2]; rfl⟩
    rw [List.find?_cons, List.find?_cons]
    have hs : e.key.isStr z = decide (p.1 = z) := by
      rw [h1]
      show (p.1 == z) = _
      by_cases q : p.1 = z
      · rw [q, decide_eq_true rfl]; exact beq_self_eq_true z
      · rw [decide_eq_false q]; exact beq_eq_false_iff_ne.mpr q
    rw [hs]
    cases decide (p.1 = z)
    · exact i1
    · exact h3
  | [], _ :: _, h => h.elim
  | _ :: _, [], h => h.elim
theorem mdictL {K : PySem.W.Frag} {w : World} {d : Addr} {es : Array DictEntry} {n : Nat} {kv : List (Str × V)} (hl : K.lookup d = some ⟨.type "dict", none, .dict es n, #[]⟩) (he : EntLit w.params es.toList kv) (low : (d == sysModules) = false) : MDict K w d (tabG kv) := by
  refine ⟨es, n, ⟨hl, he.keys, low⟩, fun z => ?_⟩
  obtain ⟨h1, h2⟩ := he.find z
  refine ⟨_, ?_, h1⟩
  unfold PySem.W.nsIn
  rw [hl]
  dsimp only
  cases es.toList.find? (·.key.isStr z) with
  | some e => rfl
  | none => rw [h2]; rfl
/-! ### texts -/
abbrev tJS (ts : List TE) : TE := fun σ H Q => tJs ts Str.empty σ H fun out H1 => Q (.str out) H1
abbrev qJoin (K : PySem.W.Frag) : V → List V → Hp → VK → Prop := fun x xs H Q => ∃ a p, ∃ ys : List Str, x = .str a ∧ xs = [.ref p] ∧ (SqL K H p (ys.map V.str) ∨ SqT K H p (ys.map V.str)) ∧ (ys.map (·.length)).sum + ys.length * a.length ≤ 16777216 ∧ Q (.str (Txt.join a ys)) H
abbrev qCount : V → List V → Hp → VK → Prop := fun x xs H Q => ∃ a b, x = .str a ∧ xs = [.str b] ∧ Q (.int (Txt.count a b)) H
abbrev qSplit : V → List V → Hp → VK → Prop := fun x xs H Q => ∃ a b, x = .str a ∧ xs = [.str b] ∧ (b.length == 0) = false ∧ a.length + 2 ≤ sizeLine ∧ rNewStrs (Txt.split a b) H Q
abbrev qStarts : V → List V → Hp → VK → Prop := fun x xs H Q => ∃ a b, x = .str a ∧ xs = [.str b] ∧ Q (.bl (Txt.startswith a b)) H
section
variable {K : PySem.W.Frag} {σ : L2.St} {H : Hp} {Q : VK} {te : TE} {ts : List TE}
theorem w_js (q : tJs ts Str.empty σ H fun out H1 => Q (.str out) H1) : tJS ts σ H Q := q
theorem w_jcons {acc : Str} {R : Str → Hp → Prop} (q : te σ H fun x H1 => ∃ y : Str, x = .str y ∧ (acc ++ y).length ≤ sizeLine ∧ tJs ts (acc ++ y) σ H1 R) : tJs (te :: ts) acc σ H R := q
theorem w_jnil {acc : Str} {R : Str → Hp → Prop} (q : R acc H) : tJs [] acc σ H R := q
theorem w_jy {acc y : Str} {R : Str → Hp → Prop} (h : (acc ++ y).length ≤ 100000) (q : tJs ts (acc ++ y) σ H R) : ∃ z : Str, V.str y = .str z ∧ (acc ++ z).length ≤ sizeLine ∧ tJs ts (acc ++ z) σ H R := ⟨y, rfl, sz h, q⟩
theorem w_fmt (q : te σ H fun x H1 => (∃ y : Str, x = .str y ∧ y.length ≤ sizeLine ∧ Q (.str y) H1) ∨ ∃ i : Int, x = .int i ∧ i.natAbs.log2 < 1920 ∧ Q (.str (toString i)) H1) : tFmt te σ H Q := q
theorem w_fmtS {y : Str} {A : Prop} {R : Str → Prop} (h : y.length ≤ 100000) (q : R y) : (∃ z : Str, V.str y = .str z ∧ z.length ≤ sizeLine ∧ R z) ∨ A := .inl ⟨y, rfl, sz h, q⟩
theorem log_small {i : Int} (h0 : 0 ≤ i) (h1 : i ≤ 100000000000000000000) : i.natAbs.log2 < 1920 := by
  have h2 : i.natAbs ≤ 100000000000000000000 := by omega
  have h3 : i.natAbs.log2 < 67 := by
    by_cases h : i.natAbs = 0
    · rw [h]; decide
    · exact (Nat.log2_lt h).mpr (Nat.lt_of_le_of_lt h2 (by decide))
  omega
theorem w_fmtI {i : Int} {A : Prop} {R : Int → Prop} (h0 : 0 ≤ i) (h1 : i ≤ 100000000000000000000) (q : R i) : A ∨ ∃ j : Int, V.int i = .int j ∧ j.natAbs.log2 < 1920 ∧ R j := .inr ⟨i, rfl, log_small h0 h1, q⟩
theorem int_len {i : Int} (h0 : 0 ≤ i) (h1 : i ≤ 100000000000000000000) : (Str.ofString (toString i)).length ≤ 70 := by
  have h2 : i.natAbs.log2 < 67 := by
    by_cases h : i.natAbs = 0
    · rw [h]; decide
    · exact (Nat.log2_lt h).mpr (Nat.lt_of_le_of_lt (show i.natAbs ≤ 100000000000000000000 by omega) (by decide))
  have e := int_text_length_le (k := 67) (by decide) h2
  rw [PySem.ofString_length]
  omega
theorem w_joinL {a : Str} {p : Addr} {ys : List Str} (h : SqL K H p (ys.map V.str)) (z : (ys.map (·.length)).sum + ys.length * a.length ≤ 100000) (q : Q (.str (Txt.join a ys)) H) : qJoin K (.str a) [.ref p] H Q := ⟨a, p, ys, rfl, rfl, .inl h, Nat.le_trans z (by decide), q⟩
theorem w_joinT {a : Str} {p : Addr} {ys : List Str} (h : SqT K H p (ys.map V.str)) (z : (ys.map (·.length)).sum + ys.length * a.length ≤ 100000) (q : Q (.str (Txt.join a ys)) H) : qJoin K (.str a) [.ref p] H Q := ⟨a, p, ys, rfl, rfl, .inr h, Nat.le_trans z (by decide), q⟩
theorem w_count {a b : Str} (q : Q (.int (Txt.count a b)) H) : qCount (.str a) [.str b] H Q := ⟨a, b, rfl, rfl, q⟩
theorem strKind_pos (a : Str) : 1 ≤ Builtin.Str.strKind a := by
  unfold Builtin.Str.strKind
  split
  · exact Nat.le_refl _
  · split <;> decide
theorem w_split {a b : Str} (h : (b.length == 0) = false) (z : a.length ≤ 100000) (q : ∀ p, H p = none → Q (.ref p) (upd H p (.lst ((Txt.split a b).map V.str)))) : qSplit (.str a) [.str b] H Q :=
  ⟨a, b, rfl, rfl, h, Nat.le_trans (Nat.add_le_add_right z 2) (by decide), q⟩
theorem w_tab {A : Addr} {g : Str → Option V} {z : Str} {v : V} (h : g z = some v) (q : Q v H) : rTab A g (.ref A) (.str z) H Q := ⟨z, v, rfl, rfl, h, q⟩
theorem w_catA {a b : Addr} {xs ys : List V} (h : SqT K H a xs) (h' : SqT K H b ys) (z : xs.length + ys.length ≤ 1000) (q : ∀ p H', Same H H' → SqT K H' p (xs ++ ys) → Q (.ref p) H') : rCatA K (.ref a) (.ref b) H Q := by
  refine ⟨a, b, xs, ys, rfl, rfl, h, h', Nat.le_trans z (by decide), fun e => ?_, fun _ e => ?_, fun _ _ p hp => ?_⟩
  · subst e
    exact q b H (Same.refl H) h'
  · subst e
    rw [List.append_nil] at q
    exact q a H (Same.refl H) h
  · exact q p _ (Same.upd (Same.refl H) hp) (SqT.of upd_same)
end
/-! ### new objects as heaps of their own; tests that are known -/
theorem Same.get {H H' : Hp} {a : Addr} {o : HO} (h : Same H H') (e : H a = some o) : H' a = some o := h _ _ e
section
variable {K : PySem.W.Frag} {σ : L2.St} {H : Hp} {Q : VK} {v : V} {tr : TA}
/-- a new object -/
def New (H : Hp) (o : HO) (R : Addr → Hp → Prop) : Prop := ∀ p, H p = none → R p (upd H p o)
theorem w_new {o : HO} {R : Addr → Hp → Prop} (q : ∀ p H2, H p = none → Same H H2 → H2 p = some o → R p H2) : New H o R := fun p hp => q p _ hp (Same.upd (Same.refl H) hp) upd_same
theorem newT {t : Addr} {o : HO} (ht : H t = none) : ∃ G, G = upd H t o ∧ Same H G ∧ G t = some o := ⟨_, rfl, Same.upd (Same.refl H) ht, upd_same⟩
theorem Same.sqT {H H' : Hp} {a : Addr} {xs : List V} (e : Same H H') (h : SqT K H a xs) : SqT K H' a xs := h.elim (fun r => .inl (r.elim (fun r => .inl (e _ _ r)) fun ⟨o, r⟩ => .inr ⟨o, e _ _ r⟩)) .inr
theorem w_zipM {ta : TA} {R : It → Hp → Prop} (q : ta σ H fun vs H1 => ∃ a b xs ys, vs = [.ref a, .ref b] ∧ SqT K H1 a xs ∧ SqL K H1 b ys ∧ R (ZMix.ItM K a b) H1) : ZMix.iZipM K ta σ H R := q
theorem w_tupV (q : tr σ H fun xs H1 => xs.length ≤ sizeLine ∧ New H1 (.tup xs) fun p H2 => Q (.ref p) H2) : tTup tr σ H Q := q
theorem w_lstV (q : tr σ H fun xs H1 => xs.length ≤ sizeLine ∧ New H1 (.lst xs) fun p H2 => Q (.ref p) H2) : tLst tr σ H Q := q
theorem w_appV {p : Addr} {xs : List V} (h : H p = some (.lst xs)) (z : xs.length ≤ 100000) (q : ∀ H2, Kp p H H2 → H2 p = some (.lst (xs ++ [v])) → Q .non H2) : rAppend (.ref p) [v] H Q :=
  ⟨p, xs, v, rfl, rfl, h, Nat.lt_of_le_of_lt z (by decide), q _ Kp.refl.updp upd_same⟩
theorem w_catV {l b : Addr} {xs zs : List V} (h : H l = some (.lst xs)) (h' : H b = some (.lst zs)) (z : xs.length + zs.length ≤ 1000000) (q : ∀ p H2, H p = none → Same H H2 → H2 p = some (.lst (xs ++ zs)) → Q (.ref p) H2) : rCat (.ref l) (.ref b) H Q :=
  ⟨l, b, xs, zs, rfl, rfl, h, h', Nat.le_trans z (by decide), fun p hp => q p _ hp (Same.upd (Same.refl H) hp) upd_same⟩
theorem w_listOfV {p : Addr} {ys : List V} (h : SqL K H p ys ∨ SqT K H p ys) (q : ∀ l H2, H l = none → Same H H2 → H2 l = some (.lst ys) → Q (.ref l) H2) : qListOf K [.ref p] H Q :=
  ⟨p, ys, rfl, h, fun l hl => q l _ hl (Same.upd (Same.refl H) hl) upd_same⟩
theorem w_slTV {a : Addr} {xs : List V} {lo hi : Option Int} (h : SqT K H a xs) (n : ¬ (HT.sIx xs.length 0 lo = 0 ∧ HT.sIx xs.length xs.length hi = xs.length)) (q : ∀ p H2, H p = none → Same H H2 → H2 p = some (.tup (cutV xs lo hi)) → Q (.ref p) H2) : rSlT K (.ref a) lo hi H Q :=
  ⟨a, xs, rfl, h, n, fun p hp => q p _ hp (Same.upd (Same.refl H) hp) upd_same⟩
theorem w_slLV {a : Addr} {xs : List V} {lo hi : Option Int} (h : SqL K H a xs) (q : ∀ p H2, H p = none → Same H H2 → H2 p = some (.lst (cutV xs lo hi)) → Q (.ref p) H2) : rSlL K (.ref a) lo hi H Q :=
  ⟨a, xs, rfl, h, fun p hp => q p _ hp (Same.upd (Same.refl H) hp) upd_same⟩
theorem w_splitV {a b : Str} (h : (b.length == 0) = false) (z : a.length ≤ 100000) (q : ∀ p H2, H p = none → Same H H2 → H2 p = some (.lst ((Txt.split a b).map V.str)) → Q (.ref p) H2) : qSplit (.str a) [.str b] H Q :=
  ⟨a, b, rfl, rfl, h, Nat.le_trans (Nat.add_le_add_right z 2) (by decide), fun p hp => q p _ hp (Same.upd (Same.refl H) hp) upd_same⟩
theorem w_inTb {p : Addr} {xs : List V} {b : Bool} (h : SqT K H p xs) (f : flatV v = true) (fs : xs.all flatV = true) (e : inV v xs = b) (q : Q (.bl b) H) : rIn K false v (.ref p) H Q := w_inT h f fs (by rw [e]; exact q)
theorem w_inLb {p : Addr} {xs : List V} {b : Bool} (h : SqL K H p xs) (f : flatV v = true) (fs : xs.all flatV = true) (e : inV v xs = b) (q : Q (.bl b) H) : rIn K false v (.ref p) H Q := w_inL h f fs (by rw [e]; exact q)
theorem w_dec1 {c A B : Prop} [Decidable c] (h : c) (q : A) : if decide c = true then A else B := by rw [if_pos (decide_eq_true h)]; exact q
theorem w_dec0 {c A B : Prop} [Decidable c] (h : ¬ c) (q : B) : if decide c = true then A else B := by rw [if_neg (by rw [decide_eq_true_iff]; exact h)]; exact q
end
/-! ### join -/
theorem join_nil (a : Str) : Txt.join a [] = Str.empty := by rfl
theorem join_eq (a : Str) (ys : List Str) : Txt.join a ys = Str.join a ys := StrLaws.glued_eq_join a ys
theorem join_len (a : Str) (ys : List Str) : (Txt.join a ys).length ≤ (ys.map (·.length)).sum + ys.length * a.length := by
  rw [join_eq]
  exact StrLaws.join_length_le a ys
theorem sum_le {α : Type} (f : α → Nat) (m : Nat) : ∀ {l : List α}, (∀ x ∈ l, f x ≤ m) → (l.map f).sum ≤ l.length * m
  | [], _ => Nat.zero_le _
  | x :: l, h => by
    rw [List.map_cons, List.sum_cons, List.length_cons, Nat.succ_mul]
    have := sum_le f m (l := l) fun y hy => h y (List.mem_cons_of_mem _ hy)
    have := h x (List.mem_cons_self ..)
    omega
/-! ### lines of a text -/
theorem split_len {a b : Str} (hb : b.length = 1) (hk : ¬ (Builtin.Str.strKind a < Builtin.Str.strKind b)) : ((Txt.split a b).length : Int) = Txt.count a b + 1 := by
  unfold Txt.split Txt.count
  by_cases h : a.length < b.length
  · have h0 : a.length = 0 := by omega
    rw [if_pos (by rw [decide_eq_true h]; rfl)]
    have e : a = ⟨#[]⟩ := by
      obtain ⟨c⟩ := a
      have : c.size = 0 := h0
      rw [Array.size_eq_zero_iff] at this
      rw [this]
    subst e
    have : Builtin.Str.occurrences ⟨#[]⟩ b 0 (⟨#[]⟩ : Str).length ((⟨#[]⟩ : Str).length + 1) = [] := by
      unfold Builtin.Str.occurrences
      show (Id.run do _) = _
      simp [Str.length, hb]
      have h1 : b.cps.size = 1 := hb
      have h2 : b.cps ≠ #[] := fun e => by rw [e] at h1; exact nomatch h1
      simp [h2]
    rw [this]
    rfl
  · rw [if_neg (by rw [decide_eq_false h, decide_eq_false hk]; decide)]
    by_cases h2 : (Builtin.Str.occurrences a b 0 a.length (a.length + 1)).isEmpty = true
    · rw [if_pos h2, List.isEmpty_iff.mp h2]
      rfl
    · rw [if_neg h2]
      unfold Builtin.Str.partsBetween
      simp only [List.length_map, List.length_zip, List.length_cons, List.length_append, List.length_map, List.length_nil]
      omega
theorem split_lines (a : Str) : ((Txt.split a (Str.ofString "\n")).length : Int) = Txt.count a (Str.ofString "\n") + 1 := split_len rfl fun h => by
  have h1 := strKind_pos a
  have h2 : Builtin.Str.strKind (Str.ofString "\n") = 1 := by decide +kernel
  omega
theorem count_le (a : Str) : 0 ≤ Txt.count a (Str.ofString "\n") ∧ Txt.count a (Str.ofString "\n") ≤ a.length + 1 := by
  have h1 := split_lines a
  have h2 := PyProof.Rows.split_le a (Str.ofString "\n")
  refine ⟨by unfold Txt.count; exact Int.natCast_nonneg _, by omega⟩
end Wp

namespace Wp
open PySem PySem.Spec PyProof.Rows L2 TyNe HT
section
variable {prog : Program} {w : World} {A : Around} {E : Value → Shared → Prop} {s : Shared}
/-- t[lo:hi] that is all of t is t -/
theorem slice_whole {t k : Addr} {its : Array Value} {vl vu : Value} {lo hi : Option Int} {Q : Value → Shared → Prop} (ht : IsTup s.heap t its) (hs : s.heap.IsSliceOf k vl vu .none) (pl : IsPart vl lo) (pu : IsPart vu hi)
    (hw : HT.sIx its.size 0 lo = 0 ∧ HT.sIx its.size its.size hi = its.size) (q : Q (.ref t) s) : wpAny (model prog w) A (getItem (.ref t) (.ref k)) Q E s := by
  obtain ⟨os, hos, hcs, hds⟩ := id hs
  obtain ⟨ot, hot, hct, n, hdt⟩ := id ht
  have tk : s.TypeIs (.ref k) "slice" := ⟨os, hos, hcs⟩
  unfold getItem
  try with_reducible refine wpAny_holding ?_
  first | refine wpAny_bind (wpAny_pure ?_) | skip
  refine wpAny_bind (wpAny_sequenceKey ht.typeIs (by decide) (wpAny_bind (wpAny_callSpecial?_slot (name := Str.ofString "__getitem__") ht.typeIs slot_tuple_getitem (wpAny_call_entry slot_tuple_getitem ht.typeIs PyProof.Rows.entry_tuple_getitem ?_ (PyProof.Rows.args_tuple_getitem _ _)))))
  show wpAny _ _ (Builtin.Tuple.tupleItemsOf (.ref t) >>= _) _ _ s
  refine wpAny_bind (tupleItemsOf_ ht (wpAny_bind (wpAny_typeOf tk ?_)))
  rw [if_pos (by decide)]
  refine wpAny_bind (sliceApplied_gen hs pl pu ?_)
  have yes : (((HT.sIx its.size 0 lo : Nat) : Int) == 0 && (1 : Int) == 1 && (HT.sIx its.size its.size hi - HT.sIx its.size 0 lo) == its.size) = true := by
    rw [hw.1, hw.2, Nat.sub_zero]
    simp
  show wpAny _ _ (if (((HT.sIx its.size 0 lo : Nat) : Int) == 0 && (1 : Int) == 1 && (HT.sIx its.size its.size hi - HT.sIx its.size 0 lo) == its.size) = true then _ else _) _ _ s
  rw [if_pos yes]
  refine wpAny_bind (m := Builtin.Tuple.tupleIsExact _) ?_
  unfold Builtin.Tuple.tupleIsExact
  refine wpAny_bind (wpAny_typeOf ht.typeIs (wpAny_pure ?_))
  rw [if_pos (by decide)]
  first
    | exact wpAny_bind (wpAny_rule (wpAny_bind (wpAny_pure (wpAny_pure ⟨_, rfl, wpAny_pure q⟩))))
    | exact wpAny_bind (wpAny_rule (wpAny_pure ⟨_, rfl, wpAny_pure q⟩))
    | exact wpAny_bind (wpAny_rule (wpAny_bind (wpAny_pure (wpAny_bind (wpAny_pure ⟨_, rfl, wpAny_pure q⟩)))))
    | exact wpAny_bind (wpAny_rule (wpAny_bind (wpAny_pure ⟨_, rfl, wpAny_pure q⟩)))
    | trace_state
end
/-! ### a slice of a list or of a tuple, all of it or not -/
def rSlA (K : PySem.W.Frag) : V → Option Int → Option Int → Hp → VK → Prop := fun x lo hi H Q => ∃ a xs, x = .ref a ∧ ((SqL K H a xs ∧ ∀ p, H p = none → Q (.ref p) (upd H p (.lst (cutV xs lo hi)))) ∨
  (SqT K H a xs ∧ ((HT.sIx xs.length 0 lo = 0 ∧ HT.sIx xs.length xs.length hi = xs.length) → Q (.ref a) H) ∧ (¬ (HT.sIx xs.length 0 lo = 0 ∧ HT.sIx xs.length xs.length hi = xs.length) → ∀ p, H p = none → Q (.ref p) (upd H p (.tup (cutV xs lo hi))))))
theorem sl_any {X : Cx} : SlR X (rSlA X.K) := by
  intro pins s σ H x v vl vu lo hi sl Q I rx hs pl pu ⟨a, xs, ex, h⟩
  rcases h with ⟨hl, q⟩ | ⟨ht, q1, q2⟩
  · exact sl_list pins s σ H x v vl vu lo hi sl Q I rx hs pl pu ⟨a, xs, ex, hl, q⟩
  · by_cases w : HT.sIx xs.length 0 lo = 0 ∧ HT.sIx xs.length xs.length hi = xs.length
    · subst ex
      obtain rfl : v = Value.ref a := rx
      obtain ⟨its, r, p, hz⟩ := I.tuple ht
      have hlen : its.toArray.size = xs.length := by rw [List.size_toArray]; exact r.length.symm
      exact ⟨"tuple", _, PyProof.Rows.slot_tuple_getitem.lookup, p.typeIs, slice_whole p hs pl pu (by rw [hlen]; exact w) ⟨.ref a, H, I, rfl, q1 w⟩⟩
    · exact sl_tup pins s σ H x v vl vu lo hi sl Q I rx hs pl pu ⟨a, xs, ex, ht, w, q2 w⟩
end Wp

namespace Wp
open PySem PySem.Spec PyProof.Rows L2 TyNe HT
/-- room for a test with items that are data -/
theorem hu65 {j : Nat} {A : Around} (hr : Room j A) : A.units + 65 < cLine := by
  have := hr.un
  omega
/-- x in t, x not in t, where t is a tuple of data -/
def rInTD (K : PySem.W.Frag) (neg : Bool) : R2 := fun x y H Q => ∃ d ds, Dp K H x d ∧ Dp K H y (.tuple ds) ∧ SeqAt.shaped d = true ∧ SeqAt.shaped (.tuple ds) = true ∧ Q (.bl (if neg = true then !(ds.any fun z => PyData.eqv z d) else ds.any fun z => PyData.eqv z d)) H
section
variable {X : Cx}
theorem op_inTD (hu : X.A.units + 65 < cLine) : OpR X (compareOp .In) (rInTD X.K false) := by
  intro pins s σ H x y v u Q I rx ry ⟨d, ds, hd, he, sd, se, q⟩
  obtain ⟨_, r1⟩ := Dp.reads I d x v hd rx
  obtain ⟨_, r2⟩ := Dp.reads I (.tuple ds) y u he ry
  exact SeqAt.in_tuple_reads r2 r1 (SeqAt.canLay_of_shaped se) (SeqAt.canLay_of_shaped sd) (room_in_shaped sd hu) ⟨.bl _, H, I, rfl, q⟩
theorem op_notInTD (hu : X.A.units + 65 < cLine) : OpR X (compareOp .NotIn) (rInTD X.K true) := by
  intro pins s σ H x y v u Q I rx ry ⟨d, ds, hd, he, sd, se, q⟩
  obtain ⟨_, r1⟩ := Dp.reads I d x v hd rx
  obtain ⟨_, r2⟩ := Dp.reads I (.tuple ds) y u he ry
  exact SeqAt.notIn_tuple_reads r2 r1 (SeqAt.canLay_of_shaped se) (SeqAt.canLay_of_shaped sd) (room_in_shaped sd hu) ⟨.bl _, H, I, rfl, q⟩
end
end Wp

namespace Wp
open PySem PySem.Spec PyProof.Rows L2 TyNe HT
/-- x <= y, x >= y of data that are alike -/
def rLeD (K : PySem.W.Frag) : R2 := fun x y H Q => ∃ d e, Dp K H x d ∧ Dp K H y e ∧ PySem.W.alike d e = true ∧ d ≠ .none ∧ d.depth ≤ 64 ∧ Q (.bl (!PySem.W.dataLt e d)) H
def rGeD (K : PySem.W.Frag) : R2 := fun x y H Q => ∃ d e, Dp K H x d ∧ Dp K H y e ∧ PySem.W.alike d e = true ∧ d ≠ .none ∧ d.depth ≤ 64 ∧ Q (.bl (!PySem.W.dataLt d e)) H
/-- x in l, x not in l, where l is a list of data -/
def rInLD (K : PySem.W.Frag) (neg : Bool) : R2 := fun x y H Q => ∃ d ds, Dp K H x d ∧ Dp K H y (.list ds) ∧ SeqAt.shaped d = true ∧ SeqAt.shaped (.list ds) = true ∧ Q (.bl (if neg = true then !(ds.any fun z => PyData.eqv z d) else ds.any fun z => PyData.eqv z d)) H
section
variable {X : Cx}
theorem op_leD (hu : X.A.units + 65 < cLine) : OpR X (compareOp .LtE) (rLeD X.K) := by
  intro pins s σ H x y v u Q I rx ry ⟨d, e, hd, he, al, nn, dp, q⟩
  obtain ⟨_, r1⟩ := Dp.reads I d x v hd rx
  obtain ⟨_, r2⟩ := Dp.reads I e y u he ry
  exact PySem.W.le_data r1 r2 al nn (by have := Nat.min_le_left d.depth e.depth; omega) ⟨.bl _, H, I, rfl, q⟩
theorem op_geD (hu : X.A.units + 65 < cLine) : OpR X (compareOp .GtE) (rGeD X.K) := by
  intro pins s σ H x y v u Q I rx ry ⟨d, e, hd, he, al, nn, dp, q⟩
  obtain ⟨_, r1⟩ := Dp.reads I d x v hd rx
  obtain ⟨_, r2⟩ := Dp.reads I e y u he ry
  exact PySem.W.ge_data r1 r2 al nn (by have := Nat.min_le_left d.depth e.depth; omega) ⟨.bl _, H, I, rfl, q⟩
theorem op_inLD (hu : X.A.units + 65 < cLine) : OpR X (compareOp .In) (rInLD X.K false) := by
  intro pins s σ H x y v u Q I rx ry ⟨d, ds, hd, he, sd, se, q⟩
  obtain ⟨_, r1⟩ := Dp.reads I d x v hd rx
  obtain ⟨_, r2⟩ := Dp.reads I (.list ds) y u he ry
  exact SeqAt.in_list_reads r2 r1 (SeqAt.canLay_of_shaped se) (SeqAt.canLay_of_shaped sd) (room_in_shaped sd hu) ⟨.bl _, H, I, rfl, q⟩
theorem op_notInLD (hu : X.A.units + 65 < cLine) : OpR X (compareOp .NotIn) (rInLD X.K true) := by
  intro pins s σ H x y v u Q I rx ry ⟨d, ds, hd, he, sd, se, q⟩
  obtain ⟨_, r1⟩ := Dp.reads I d x v hd rx
  obtain ⟨_, r2⟩ := Dp.reads I (.list ds) y u he ry
  exact SeqAt.notIn_list_reads r2 r1 (SeqAt.canLay_of_shaped se) (SeqAt.canLay_of_shaped sd) (room_in_shaped sd hu) ⟨.bl _, H, I, rfl, q⟩
end
/-- l.insert(i, y) -/
abbrev qInsert : V → List V → Hp → VK → Prop := fun x vs H Q => ∃ (l : Addr) (xs : List V) (i : Int) (y : V), x = .ref l ∧ vs = [.int i, y] ∧ H l = some (.lst xs) ∧ xs.length < sizeLine ∧ 0 ≤ i ∧ i < 2 ^ 63 ∧ Q .non (upd H l (.lst (xs.take i.toNat ++ [y] ++ xs.drop i.toNat)))
/-! ### an own class made without arguments -/
theorem pe_mk0 {X : Cx} {k j : Nat} {C : Addr} {x : Str} {sp : Sp} {dvs : List V} {p pos : Pos} (c : C8.Mak X.prog X.w X.K X.mg X.base k x C sp dvs) (hr : Room j X.A) (hk : k + 1 ≤ j) (hg : Gl X x)
    (hdb : (x == ("__debug__" : Str)) = false := by decide) : PE X (.Call (.Name x p) [] [] pos) (tMake C sp dvs C8.E0 tNil) := by
  obtain ⟨f, fd, ps, ds, M, F, hm, b, d⟩ := c.ex
  exact pe_make0 M F (hr.mono hk) hg hm b d C8.pass0 hdb
/-! ### (number, text) < (number, text) -/
theorem alike_key (s t : Int) (a b : Str) : PySem.W.alike (.tuple [.int s, .str a]) (.tuple [.int t, .str b]) = true := by rfl
theorem lt_key {s t : Int} (a b : Str) (h : s < t) : PySem.W.dataLt (.tuple [.int s, .str a]) (.tuple [.int t, .str b]) = true := by
  rw [PySem.W.dataLt_tuple, PySem.W.dataLt_all_no (by rfl) (by show (s == t) = false; rw [beq_eq_false_iff_ne]; omega), PySem.W.dataLt_int]
  exact decide_eq_true h
end Wp

namespace T
open PySem PySem.Spec PyProof.Rows L2 TyNe Wp
local macro_rules | `(tactic| walk_at "ne") => `(tactic| first
  | assumption
  | (refine Ne.symm ?_; assumption)
  | exact ne_of_none (by assumption) (by assumption)
  | exact (ne_of_none (by assumption) (by assumption)).symm
  | exact Stm.ne (by assumption) (by assumption)
  | exact (Stm.ne (by assumption) (by assumption)).symm)
local macro_rules | `(tactic| walk_at "hp") => `(tactic| first
  | assumption
  | exact upd_same
  | (rw [upd_ne (by walk_at "ne")]; walk_at "hp")
  | (refine Same.get (by assumption) ?_; walk_at "hp")
  | (refine Kp.get (by assumption) ?_ ?_ <;> first | (walk_at "hp"; done) | (walk_at "ne"; done)))
local macro_rules | `(tactic| walk_at "sq") => `(tactic| first
  | assumption
  | exact TupK.sq (by assumption)
  | exact SqL.of (by walk_at "hp")
  | exact SqT.of (by walk_at "hp"))
local macro_rules | `(tactic| walk_at "ar") => `(tactic| first
  | assumption | rfl | omega | decide)
/-- one step of a reading -/
local macro_rules | `(tactic| walk_at "w1") => `(tactic| first
  | with_reducible refine w_seq ?_
  | with_reducible refine w_asg ?_
  | ((with_reducible show tVar _ _ _ _); refine w_var rfl ?_)
  | with_reducible refine w_c ?_
  | with_reducible refine w_name ?_
  | with_reducible refine w_op ?_
  | with_reducible refine w_un ?_
  | with_reducible refine w_cons ?_
  | with_reducible refine w_nil ?_
  | with_reducible refine w_call ?_
  | with_reducible refine w_cb ?_
  | with_reducible refine w_ret ?_
  | with_reducible refine w_retN ?_
  | with_reducible refine w_ifS ?_
  | with_reducible refine w_test ?_
  | with_reducible refine w_B ?_
  | with_reducible refine w_exb ?_
  | with_reducible refine w_exi ?_
  | with_reducible refine w_next ?_
  | with_reducible refine w_drop ?_
  | with_reducible refine w_and ?_
  | with_reducible refine w_or ?_
  | with_reducible refine w_not ?_
  | with_reducible refine w_andV ?_
  | with_reducible refine w_orV ?_
  | with_reducible refine w_notV ?_
  | with_reducible refine w_if ?_
  | with_reducible refine w_chain ?_
  | with_reducible refine w_sub ?_
  | with_reducible refine w_tup ?_
  | with_reducible refine w_lst ?_
  | with_reducible refine w_sl ?_
  | with_reducible refine w_noPart ?_
  | with_reducible refine w_part ?_
  | with_reducible refine w_I0 ?_
  | ((with_reducible refine w_I ?c ?_); (case c => first | exact .inr (by decide) | exact .inl (by decide) | exact (show (0 : Int) < _ by omega) | exact cmul_l (by omega) (by omega) | exact cmul_r (by omega) (by omega) | exact And.intro (by omega) (by omega) | exact And.intro (by decide) (And.intro (by decide) (by decide))))
  | with_reducible refine w_U ?_
  | with_reducible refine w_eqI ?_
  | with_reducible refine w_neI ?_
  | with_reducible refine w_eqS ?_
  | with_reducible refine w_neS ?_
  | with_reducible refine w_eqB ?_
  | with_reducible refine w_inSign ?_
  | with_reducible refine w_ninSign ?_
  | with_reducible refine w_isBl ?_
  | with_reducible refine w_int1 ?_
  | with_reducible refine w_int1b ?_
  | with_reducible refine w_max2 ?_
  | with_reducible refine w_bm ?_
  | with_reducible refine w_lc ?_
  | with_reducible refine w_iList ?_
  | with_reducible refine w_iTup ?_
  | with_reducible refine w_iStr ?_
  | with_reducible refine w_exs ?_
  | with_reducible refine w_isN ?_
  | with_reducible refine w_notN ?_
  | ((with_reducible show tyV _ "str" (.str _) _ ∧ _); refine And.intro rfl ?_)
  | ((with_reducible show tyV _ "list" (.ref _) _ ∧ _); refine w_tyL (by walk_at "hp") ?_)
  | with_reducible refine w_min2 ?_
  | ((with_reducible show rIxL _ (.ref _) (.int _) _ _); refine w_ixL (by walk_at "sq") (by first | exact rfl | exact atI_nat (j := 0) rfl | exact atI_nat (j := 1) rfl | exact atI_nat (j := 2) rfl) ?_)
  | ((with_reducible show rIxT _ (.ref _) (.int _) _ _); refine w_ixT (by walk_at "sq") (by first | exact rfl | exact atI_nat (j := 0) rfl | exact atI_nat (j := 1) rfl | exact atI_nat (j := 2) rfl) ?_)
  | ((with_reducible show rSetL (.ref _) (.int _) _ _ _); refine w_setL (by walk_at "hp") (by exact rfl) ?_)
  | ((with_reducible show qLenSeq _ [.ref _] _ _); first | refine w_lenL (by walk_at "sq") ?_ | refine w_lenT (by walk_at "sq") ?_)
  | with_reducible refine w_nf ?_
  | with_reducible refine w_nt ?_
  | with_reducible refine iteT ?_
  | with_reducible refine iteF ?_
  | ((with_reducible refine w_len0 ?h ?_); (case h => exact sz (by simp))))
local macro_rules | `(tactic| walk_at "w") => `(tactic| repeat (walk_at "w1"))
local macro_rules | `(tactic| walk_at "if") => `(tactic| first
  | (with_reducible refine w_ite ?_ ?_) | (with_reducible refine w_iteN ?_ ?_) | (with_reducible refine w_iteb ?_ ?_))
/-- the same, new objects as heaps of their own -/
local macro_rules | `(tactic| walk_at "v1") => `(tactic| first
  | with_reducible refine w_tupV ?_
  | with_reducible refine w_lstV ?_
  | with_reducible refine w_jcons ?_
  | with_reducible refine w_jnil ?_
  | with_reducible refine w_fmt ?_
  | with_reducible refine w_js ?_
  | with_reducible refine w_zipM ?_
  | ((with_reducible refine w_dec1 (by decide) ?_))
  | ((with_reducible refine w_dec0 (by decide) ?_))
  | ((with_reducible show qJoin _ (.str _) [.ref _] _ _); first | refine w_joinL (by walk_at "sq") ?_ ?_ | refine w_joinT (by walk_at "sq") ?_ ?_)
  | with_reducible refine w_count ?_
  | ((with_reducible show rIn _ _ (.str _) (.ref _) _ _); first | refine w_inTb (b := true) (by walk_at "sq") rfl rfl (by decide +kernel) ?_ | refine w_inTb (b := false) (by walk_at "sq") rfl rfl (by decide +kernel) ?_ | refine w_inLb (b := true) (by walk_at "sq") rfl rfl (by decide +kernel) ?_ | refine w_inLb (b := false) (by walk_at "sq") rfl rfl (by decide +kernel) ?_)
  | walk_at "w1")
local macro_rules | `(tactic| walk_at "v") => `(tactic| repeat (walk_at "v1"))
local macro_rules | `(tactic| walk_at "dn") => `(tactic| first
  | assumption
  | (refine Dn.same ?_ (by assumption); walk_at "dn")
  | (refine Dn.kp ?_ (by assumption); walk_at "dn")
  | (refine Dn.any ?_; walk_at "dn"))
local macro_rules | `(tactic| walk_at "ln") => `(tactic| first
  | decide
  | omega
  | (simp only [List.length_append, List.length_map, List.length_cons, List.length_nil]; omega))
/-- the same, new objects without names, sums of texts, numbers as texts, append -/
local macro_rules | `(tactic| walk_at "z1") => `(tactic| first
  | ((with_reducible refine w_new ?_); intro _ _ _ _ _)
  | ((with_reducible show rAppend (.ref _) [_] _ _); refine w_appV (by walk_at "hp") (by walk_at "ln") ?_; intro _ _ _)
  | ((with_reducible show qAddS (.str _) (.str _) _ _); refine w_addS (sz (by simp only [Str.length_append]; omega)) ?_)
  | ((with_reducible show qStrInt [.int _] _ _); refine w_strInt (by omega) (by omega) ?_)
  | walk_at "v1")
local macro_rules | `(tactic| walk_at "z") => `(tactic| repeat (walk_at "z1"))
/-- statements alone, up to the first expression -/
local macro_rules | `(tactic| walk_at "s") => `(tactic| repeat (first
  | with_reducible refine w_seq ?_
  | with_reducible refine w_asg ?_
  | with_reducible refine w_name ?_
  | with_reducible refine w_next ?_
  | with_reducible refine w_c ?_
  | with_reducible refine w_ret ?_
  | with_reducible refine w_drop ?_
  | with_reducible refine w_ifS ?_
  | with_reducible refine w_test ?_))
/-- the same, and not into a test -/
local macro_rules | `(tactic| walk_at "b") => `(tactic| repeat (first
  | with_reducible refine w_seq ?_
  | with_reducible refine w_asg ?_
  | with_reducible refine w_name ?_
  | with_reducible refine w_next ?_
  | with_reducible refine w_c ?_
  | with_reducible refine w_ret ?_
  | with_reducible refine w_drop ?_))

/-- what is known of the class Reading at C -/
structure IsC_Reading (K : PySem.W.Frag) (C : Addr) : Prop where
  cl : Cls K C
  n_refs : NoAttr K C "_refs"
  n_key : NoAttr K C "_key"
  n_numbers : NoAttr K C "_numbers"
  n_greatest : NoAttr K C "_greatest"
  n_many_with : NoAttr K C "_many_with"
  n_many : NoAttr K C "_many"
/-- what is known of the class Letter at C -/
structure IsC_Letter (K : PySem.W.Frag) (C : Addr) : Prop where
  cl : Cls K C
  n_author : NoAttr K C "author"
  n_number : NoAttr K C "number"
  n_stamp : NoAttr K C "stamp"
  n_seen : NoAttr K C "seen"
  n_body : NoAttr K C "body"
  n_counts : NoAttr K C "_counts"
/-! ### the defs of the stream of draws -/
def spCell (K : PySem.W.Frag) : Sp := fun vs H Q _ => ∃ (a : Addr) (ns : List Int) (k : Int), vs = [.ref a, .int k] ∧ SqL K H a (ns.map V.int) ∧ 0 ≤ k ∧ ∀ z, Q (.int z) H
def spStream (K : PySem.W.Frag) : Sp := fun vs H Q _ => ∃ (c k : Int), vs = [.int c, .int k] ∧ ∀ p H', H p = none → Same H H' → Stm H' p → Q (.ref p) H'
def spNext (K : PySem.W.Frag) : Sp := fun vs H Q _ => ∃ (p : Addr) (n : Int), vs = [.ref p, .int n] ∧ Stm H p ∧ 0 < n ∧ n < 1073741824 ∧ ∀ v H', Kp p H H' → Stm H' p → 0 ≤ v → v < n → Q (.int v) H'
def spFlag (K : PySem.W.Frag) : Sp := fun vs H Q _ => ∃ (a b : Bool), vs = [.bl a, .bl b] ∧ Q (.bl (decide (a = b))) H
section
variable {K : PySem.W.Frag} {vs : List V} {H : Hp} {Q : VK} {E : XK}
/-- _law_stream: slots 0:cell 1:k 2:digits -/
def t__law_stream (K : PySem.W.Frag) : TS := (tSeq (tAsg (tC (.int 0)) (gName 2))
  (tSeq (tIfS (tTest (tOp qGe (tVar 0) (tOp qPow (tC (.int 10)) (tC (.int 18))))) (tAsg (tVar 0) (gName 2)) tNext)
  (tRet (tLst (tCons (tVar 2) (tCons (tOp qMod (tCB qInt1 (tCons (tOp qAdd (tOp qAdd (tOp qMul (tVar 0) (tC (.int 48271))) (tOp qMul (tVar 1) (tC (.int 69621)))) (tC (.int 77))) tNil)) (tC (.int 2147483647))) tNil))))))
theorem l__law_stream (h : spStream K vs H Q E) : vs.length = 2 := by obtain ⟨c, k, rfl, _⟩ := h; rfl
theorem r__law_stream (h : spStream K vs H Q E) : t__law_stream K { nx := fun _ H' => Q .non H', rt := Q } (start ["cell", "k", "digits"] vs) H := by
  obtain ⟨c, k, rfl, q⟩ := h
  unfold t__law_stream
  walk_at "w"
  refine w_ite (fun hc => ?_) (fun hc => ?_)
  · walk_at "w"
    intro p hp
    refine q p _ hp (Same.upd (Same.refl H) hp) ⟨_, _, upd_same, ?_, Int.emod_nonneg _ (by decide)⟩
    have e : (10 : Int) ^ (18 : Int).toNat = 1000000000000000000 := by decide
    omega
  · walk_at "w"
    intro p hp
    exact q p _ hp (Same.upd (Same.refl H) hp) ⟨_, _, upd_same, by decide, Int.emod_nonneg _ (by decide)⟩
/-- _law_next: slots 0:stream 1:size 2:drawn -/
def t__law_next (K : PySem.W.Frag) : TS := (tSeq (tIfS (tTest (tOp qGt (tOp (rIxL K) (tVar 0) (tC (.int 0))) (tC (.int 0)))) (tSeq (tAsg (tOp qMod (tCB qInt1 (tCons (tOp (rIxL K) (tVar 0) (tC (.int 0))) tNil)) (tVar 1)) (gName 2))
  (tSeq (tAsg (tOp qFdiv (tOp (rIxL K) (tVar 0) (tC (.int 0))) (tVar 1)) (gSub (tVar 0) (tC (.int 0)) rSetL))
  (tRet (tVar 2)))) tNext)
  (tSeq (tAsg (tOp qMod (tCB qInt1 (tCons (tOp qAdd (tOp qMul (tOp (rIxL K) (tVar 0) (tC (.int 1))) (tC (.int 48271))) (tC (.int 12820163))) tNil)) (tC (.int 2147483647))) (gSub (tVar 0) (tC (.int 1)) rSetL))
  (tRet (tOp qMod (tCB qInt1 (tCons (tOp qFdiv (tOp qMod (tCB qInt1 (tCons (tOp qAdd (tOp qMul (tOp (rIxL K) (tVar 0) (tC (.int 1))) (tC (.int 16807))) (tC (.int 5))) tNil)) (tC (.int 2147483399))) (tC (.int 3))) tNil)) (tVar 1)))))
theorem l__law_next (h : spNext K vs H Q E) : vs.length = 2 := by obtain ⟨c, k, rfl, _⟩ := h; rfl
theorem r__law_next (h : spNext K vs H Q E) : t__law_next K { nx := fun _ H' => Q .non H', rt := Q } (start ["stream", "size", "drawn"] vs) H := by
  obtain ⟨p, n, rfl, ⟨a, b, hp, h0, h1⟩, hn, hm, q⟩ := h
  unfold t__law_next
  walk_at "w"
  refine w_ite (fun hc => ?_) (fun hc => ?_)
  · walk_at "w"
    exact q _ _ (Kp.updp Kp.refl) ⟨_, _, upd_same, Int.ediv_nonneg h0 (by omega), h1⟩ (Int.emod_nonneg _ (Int.ne_of_gt hn)) (Int.emod_lt_of_pos _ hn)
  · walk_at "w"
    exact q _ _ (Kp.updp Kp.refl) ⟨_, _, upd_same, h0, Int.emod_nonneg _ (by decide)⟩ (Int.emod_nonneg _ (Int.ne_of_gt hn)) (Int.emod_lt_of_pos _ hn)
end

/-! ### draws inside expressions -/
section
variable {K : PySem.W.Frag} {σ : L2.St} {H : Hp} {p : Addr} {P : PyData → Prop} {R : List PyData → Prop} {ta : TA}
theorem evs_next {i : Nat} {n : Int} (hi : σ[i]? = some (some (.ref p))) (h0 : 0 < n) (h1 : n < 1073741824) : EvS p (tCall (spNext K) [] C8.E0 (tCons (tVar i) (tCons (tC (.int n)) tNil))) σ H (fun d => ∃ v : Int, d = .int v ∧ 0 ≤ v ∧ v < n) := fun H1 k s Q q =>
  ⟨.ref p, hi, p, n, rfl, s, h0, h1, fun v H2 k2 s2 a b => q (.int v) (.int v) H2 k2 s2 ⟨v, rfl, a, b⟩ (.int v)⟩
/-- (a, b, ..)[draw] -/
theorem evs_pickT {i : Nat} {n : Int} (ha : EvSs p ta σ H R) (hi : σ[i]? = some (some (.ref p))) (h0 : 0 < n) (h1 : n ≤ 1000) (hR : ∀ ds, R ds → (ds.length : Int) = n ∧ ∀ d ∈ ds, P d) :
    EvS p (tOp (rIxT K) (tTup ta) (tCall (spNext K) [] C8.E0 (tCons (tVar i) (tCons (tC (.int n)) tNil)))) σ H P := fun H1 k s Q q =>
  evs_tup (P := fun d => ∃ ds, d = .tuple ds ∧ R ds) ha (fun ds r => ⟨by have := (hR ds r).1; omega, ds, rfl, r⟩) H1 k s _ fun v d H2 k2 s2 hd dn => by
    obtain ⟨ds, rfl, r⟩ := hd
    cases dn with
    | @tup a xs _ hap h hs =>
      refine evs_next hi h0 (by omega) H2 (k.trans k2) s2 _ fun v d H3 k3 s3 hv dv => ?_
      obtain ⟨j, rfl, j0, j1⟩ := hv
      cases dv
      have hl := hs.len
      have hn := (hR ds r).1
      have hj : j.toNat < xs.length := by omega
      obtain ⟨d, hd, dn⟩ := hs.get (List.getElem?_eq_getElem hj)
      refine w_ixT (SqT.of (k3 _ _ hap h)) (atI_of j0 (List.getElem?_eq_getElem hj)) (q _ d H3 (k2.trans k3) s3 ((hR ds r).2 d (List.mem_of_getElem? hd)) (dn.kp k3))
/-- [a, b, ..][draw] -/
theorem evs_pickL {i : Nat} {n : Int} (ha : EvSs p ta σ H R) (hi : σ[i]? = some (some (.ref p))) (h0 : 0 < n) (h1 : n ≤ 1000) (hR : ∀ ds, R ds → (ds.length : Int) = n ∧ ∀ d ∈ ds, P d) :
    EvS p (tOp (rIxL K) (tLst ta) (tCall (spNext K) [] C8.E0 (tCons (tVar i) (tCons (tC (.int n)) tNil)))) σ H P := fun H1 k s Q q =>
  evs_lst (P := fun d => ∃ ds, d = .list ds ∧ R ds) ha (fun ds r => ⟨by have := (hR ds r).1; omega, ds, rfl, r⟩) H1 k s _ fun v d H2 k2 s2 hd dn => by
    obtain ⟨ds, rfl, r⟩ := hd
    cases dn with
    | @lst a xs _ hap h hs =>
      refine evs_next hi h0 (by omega) H2 (k.trans k2) s2 _ fun v d H3 k3 s3 hv dv => ?_
      obtain ⟨j, rfl, j0, j1⟩ := hv
      cases dv
      have hl := hs.len
      have hn := (hR ds r).1
      have hj : j.toNat < xs.length := by omega
      obtain ⟨d, hd, dn⟩ := hs.get (List.getElem?_eq_getElem hj)
      refine w_ixL (SqL.of (k3 _ _ hap h)) (atI_of j0 (List.getElem?_eq_getElem hj)) (q _ d H3 (k2.trans k3) s3 ((hR ds r).2 d (List.mem_of_getElem? hd)) (dn.kp k3))
/-- all of the parts, and how many -/
def Are (P : PyData → Prop) (n : Nat) (ds : List PyData) : Prop := ds.length = n ∧ ∀ d ∈ ds, P d
theorem are_nil : EvSs p tNil σ H (Are P 0) := evss_nil ⟨rfl, fun _ h => nomatch h⟩
theorem are_cons {te : TE} {n : Nat} (h : EvS p te σ H P) (hs : EvSs p ta σ H (Are P n)) : EvSs p (tCons te ta) σ H (Are P (n + 1)) :=
  evss_cons h hs fun d r hd hr => ⟨congrArg (· + 1) hr.1, fun x hx => (List.mem_cons.mp hx).elim (fun e => e ▸ hd) (hr.2 x)⟩
theorem are_pick {n : Nat} {m : Int} (e : (n : Int) = m) : ∀ ds, Are P n ds → (ds.length : Int) = m ∧ ∀ d ∈ ds, P d := fun ds h => ⟨by rw [h.1]; exact e, h.2⟩
/-- a number drawn -/
abbrev isInt (lo hi : Int) : PyData → Prop := fun d => ∃ v : Int, d = .int v ∧ lo ≤ v ∧ v ≤ hi
theorem evs_intIn {i lo hi : Int} (h1 : lo ≤ i) (h2 : i ≤ hi) : EvS p (tC (.int i)) σ H (isInt lo hi) := evs_int ⟨i, rfl, h1, h2⟩
theorem evs_nextIn {i : Nat} {n lo hi : Int} (hi' : σ[i]? = some (some (.ref p))) (h0 : 0 < n) (h1 : n < 1073741824) (hl : lo ≤ 0) (hh : n - 1 ≤ hi) : EvS p (tCall (spNext K) [] C8.E0 (tCons (tVar i) (tCons (tC (.int n)) tNil))) σ H (isInt lo hi) :=
  (evs_next hi' h0 h1).weak fun d ⟨v, e, a, b⟩ => ⟨v, e, by omega, by omega⟩
/-- 'abc'[draw] -/
theorem w_pickS {i : Nat} {n : Int} {z : Str} {Q : VK} (hs : Stm H p) (hi : σ[i]? = some (some (.ref p))) (h0 : 0 < n) (hz : (z.length : Int) = n) (h1 : n ≤ 1000) (q : ∀ c H2, c ∈ z.cps.toList → Kp p H H2 → Stm H2 p → Q (.str ⟨#[c]⟩) H2) :
    (tOp rIxS (tC (.str z)) (tCall (spNext K) [] C8.E0 (tCons (tVar i) (tCons (tC (.int n)) tNil)))) σ H Q := by
  refine (evs_next (K := K) (H := H) hi h0 (by omega)).use hs fun v d H2 k2 s2 hv dv => ?_
  obtain ⟨j, rfl, j0, j1⟩ := hv
  cases dv
  have hl : z.length = z.cps.toList.length := by simp [Str.length]
  have hj : j.toNat < z.cps.toList.length := by omega
  exact w_ixS (Nat.le_trans (show z.length ≤ 1000 by omega) (by decide)) (atI_of j0 (List.getElem?_eq_getElem hj)) (q _ H2 (List.getElem_mem hj) k2 s2)
theorem evss_eq {te : TE} {d : PyData} {r : List PyData} (h : EvS p te σ H (· = d)) (hs : EvSs p ta σ H (· = r)) : EvSs p (tCons te ta) σ H (· = d :: r) := evss_cons h hs fun _ _ a b => by rw [a, b]
theorem evss_eq0 : EvSs p tNil σ H (· = []) := evss_nil rfl
theorem evs_tupE {ds : List PyData} (h : EvSs p ta σ H (· = ds)) (hp : P (.tuple ds)) (hl : ds.length ≤ 100000 := by simp) : EvS p (tTup ta) σ H P := evs_tup h fun _ e => e ▸ ⟨hl, hp⟩
theorem evs_lstE {ds : List PyData} (h : EvSs p ta σ H (· = ds)) (hp : P (.list ds)) (hl : ds.length ≤ 100000 := by simp) : EvS p (tLst ta) σ H P := evs_lst h fun _ e => e ▸ ⟨hl, hp⟩
end

/-! ### further steps -/
local macro_rules | `(tactic| walk_at "case") => `(tactic| dsimp only [Bd.kind, Bd.text, Bd.rest, Bd.toD])
local macro_rules | `(tactic| walk_at "z1") => `(tactic| ((with_reducible show qAddS (.str _) (.str _) _ _); refine w_addS (sz (by first | omega | (simp only [Str.length_append]; omega))) ?_))
local macro_rules | `(tactic| walk_at "z1") => `(tactic| ((with_reducible show qJoin _ (.str _) [.ref _] _ _); first | refine w_joinT (by walk_at "sq") (by assumption) ?_ | refine w_joinL (by walk_at "sq") (by assumption) ?_))
/-- what stands off an address still stands -/
local macro_rules | `(tactic| walk_at "kp") => `(tactic| first
  | assumption
  | exact Kp.refl
  | (refine Kp.trans ?_ (by assumption); walk_at "kp")
  | (refine Kp.trans ?_ (Same.kp (by assumption)); walk_at "kp"))
local macro_rules | `(tactic| walk_at "fin") => `(tactic| first
  | (walk_at "hp"; done)
  | (refine Eq.trans (by walk_at "hp") ?_; first | rfl | (simp only [List.map_cons, List.map_nil, List.append_nil, List.append_assoc, List.cons_append, List.nil_append]; rfl)))
local macro_rules | `(tactic| walk_at "ln") => `(tactic| exact Nat.le_of_ble_eq_true rfl)

/-! ### == of data -/
mutual
def noDict : PyData → Bool
  | .dict _ => false
  | .list ds => noDicts ds
  | .tuple ds => noDicts ds
  | _ => true
def noDicts : List PyData → Bool
  | [] => true
  | d :: ds => noDict d && noDicts ds
end
section
variable {K : PySem.W.Frag} {ok : Addr → Prop} {H : Hp} {Q : VK}
mutual
theorem dn_dp {v : V} {d : PyData} (n : noDict d = true) : Dn ok H v d → Dp K H v d
  | .non => .non
  | .bl b => .bl b
  | .int i => .int i
  | .str x => .str x
  | .lst _ h hs => .lst (SqL.of h) (dnall_dp n hs)
  | .tup _ h hs => .tup (SqT.of h) (dnall_dp n hs)
  | .dic _ h => absurd n (by simp [noDict])
theorem dnall_dp {vs : List V} {ds : List PyData} (n : noDicts ds = true) : DnAll ok H vs ds → DpAll K H vs ds
  | .nil => .nil
  | .cons h hs => .cons (dn_dp (Bool.and_eq_true_iff.mp n).1 h) (dnall_dp (Bool.and_eq_true_iff.mp n).2 hs)
end
mutual
theorem noDict_of_lay : ∀ {d : PyData}, d.canLay0 = true → noDict d = true
  | .none, _ => rfl
  | .bool _, _ => rfl
  | .int _, _ => rfl
  | .str _, _ => rfl
  | .list ds, h => noDicts_of_lay (ds := ds) (by rw [PyData.canLay0] at h; exact h)
  | .tuple ds, h => noDicts_of_lay (ds := ds) (by rw [PyData.canLay0] at h; exact h)
  | .dict _, h => by rw [PyData.canLay0] at h; exact nomatch h
theorem noDicts_of_lay : ∀ {ds : List PyData}, PyData.canLayAll0 ds = true → noDicts ds = true
  | [], _ => rfl
  | d :: ds, h => by
    rw [PyData.canLayAll0, Bool.and_eq_true] at h
    show (noDict d && noDicts ds) = true
    rw [noDict_of_lay h.1, noDicts_of_lay h.2]
    rfl
end
theorem w_eqD {x y : V} {d e : PyData} {ok2 : Addr → Prop} (h : Dn ok H x d) (h2 : Dn ok2 H y e) (s : SeqAt.shaped d = true) (s2 : SeqAt.shaped e = true) (q : Q (.bl (PyData.eqv d e)) H) : rEqD K x y H Q :=
  ⟨d, e, dn_dp (noDict_of_lay (SeqAt.canLay_of_shaped s)) h, dn_dp (noDict_of_lay (SeqAt.canLay_of_shaped s2)) h2, s, s2, q⟩
theorem w_neD {x y : V} {d e : PyData} {ok2 : Addr → Prop} (h : Dn ok H x d) (h2 : Dn ok2 H y e) (s : SeqAt.shaped d = true) (s2 : SeqAt.shaped e = true) (q : Q (.bl (!PyData.eqv d e)) H) : rNeD K x y H Q :=
  ⟨d, e, dn_dp (noDict_of_lay (SeqAt.canLay_of_shaped s)) h, dn_dp (noDict_of_lay (SeqAt.canLay_of_shaped s2)) h2, s, s2, q⟩
theorem w_eqDs {x y : V} {d : PyData} {ok2 : Addr → Prop} (h : Dn ok H x d) (h2 : Dn ok2 H y d) (s : SeqAt.shaped d = true) (q : Q (.bl true) H) : rEqD K x y H Q :=
  w_eqD h h2 s s (by rw [SeqAt.eqv_refl d (SeqAt.canLay_of_shaped s)]; exact q)
theorem w_neDs {x y : V} {d : PyData} {ok2 : Addr → Prop} (h : Dn ok H x d) (h2 : Dn ok2 H y d) (s : SeqAt.shaped d = true) (q : Q (.bl false) H) : rNeD K x y H Q :=
  w_neD h h2 s s (by rw [SeqAt.eqv_refl d (SeqAt.canLay_of_shaped s)]; exact q)
/-- signs that are ASCII -/
def ascii (z : Str) : Bool := z.cps.toList.all fun c => decide (c < 1114112)
theorem strOk_of {z : Str} (h : ascii z = true) : PyData.strOk z = true := by
  unfold PyData.strOk
  rw [← Array.all_toList]
  exact h
theorem shaped_str {z : Str} (h : ascii z = true) : SeqAt.shaped (.str z) = true := by
  unfold SeqAt.shaped
  rw [PyData.canLay0, strOk_of h]
  rfl
end
/-! ### data that may be compared -/
/-- its texts are texts, no dicts, no deeper than k -/
def Lay (k : Nat) (d : PyData) : Prop := d.canLay0 = true ∧ d.depth ≤ k
theorem Lay.shaped {k : Nat} {d : PyData} (h : Lay k d) (hk : k ≤ 64 := by decide) : SeqAt.shaped d = true := by
  unfold SeqAt.shaped
  rw [h.1, decide_eq_true (Nat.le_trans h.2 hk)]
  rfl
theorem Lay.up {j k : Nat} {d : PyData} (h : Lay j d) (hk : j ≤ k := by decide) : Lay k d := ⟨h.1, Nat.le_trans h.2 hk⟩
theorem lay_int {k : Nat} {i : Int} : Lay k (.int i) := ⟨by rw [PyData.canLay0], by rw [PyData.depth]; exact Nat.zero_le _⟩
theorem lay_str {k : Nat} {z : Str} (h : ascii z = true) : Lay k (.str z) := ⟨by rw [PyData.canLay0, strOk_of h], by rw [PyData.depth]; exact Nat.zero_le _⟩
theorem lay_all : ∀ {k : Nat} {ds : List PyData}, (∀ d ∈ ds, Lay k d) → PyData.canLayAll0 ds = true ∧ PyData.depthAll ds ≤ k
  | k, [], _ => ⟨by rw [PyData.canLayAll0], by rw [PyData.depthAll]; exact Nat.zero_le _⟩
  | k, d :: ds, h => by
    have h1 := h d (List.mem_cons_self ..)
    have h2 := lay_all fun e he => h e (List.mem_cons_of_mem _ he)
    refine ⟨by rw [PyData.canLayAll0, h1.1, h2.1]; rfl, ?_⟩
    rw [PyData.depthAll]
    exact Nat.max_le.mpr ⟨h1.2, h2.2⟩
theorem lay_tup {k : Nat} {ds : List PyData} (h : ∀ d ∈ ds, Lay k d) : Lay (k + 1) (.tuple ds) :=
  ⟨by rw [PyData.canLay0]; exact (lay_all h).1, by rw [PyData.depth]; exact Nat.succ_le_succ (lay_all h).2⟩
theorem lay1 {k : Nat} {a : PyData} (h : Lay k a) : Lay (k + 1) (.tuple [a]) := lay_tup fun d hd => by
  rw [List.mem_singleton.mp hd]
  exact h
theorem lay2 {k : Nat} {a b : PyData} (h : Lay k a) (h2 : Lay k b) : Lay (k + 1) (.tuple [a, b]) := lay_tup fun d hd => by
  rcases List.mem_cons.mp hd with rfl | hd
  · exact h
  · rw [List.mem_singleton.mp hd]
    exact h2
theorem lay3 {k : Nat} {a b c : PyData} (h : Lay k a) (h2 : Lay k b) (h3 : Lay k c) : Lay (k + 1) (.tuple [a, b, c]) := lay_tup fun d hd => by
  rcases List.mem_cons.mp hd with rfl | hd
  · exact h
  rcases List.mem_cons.mp hd with rfl | hd
  · exact h2
  · rw [List.mem_singleton.mp hd]
    exact h3
theorem lay5 {k : Nat} {a b c e f : PyData} (h : Lay k a) (h2 : Lay k b) (h3 : Lay k c) (h4 : Lay k e) (h5 : Lay k f) : Lay (k + 1) (.tuple [a, b, c, e, f]) := lay_tup fun d hd => by
  rcases List.mem_cons.mp hd with rfl | hd
  · exact h
  rcases List.mem_cons.mp hd with rfl | hd
  · exact h2
  rcases List.mem_cons.mp hd with rfl | hd
  · exact h3
  rcases List.mem_cons.mp hd with rfl | hd
  · exact h4
  · rw [List.mem_singleton.mp hd]
    exact h5

/-! ### data of texts, numbers and tuples alone -/
mutual
def plainB : PyData → Bool
  | .int _ => true
  | .str _ => true
  | .tuple ds => plainAll ds
  | _ => false
def plainAll : List PyData → Bool
  | [] => true
  | d :: ds => plainB d && plainAll ds
end
theorem plainAll_of : ∀ {ds : List PyData}, (∀ d ∈ ds, plainB d = true) → plainAll ds = true
  | [], _ => rfl
  | d :: ds, h => by
    rw [plainAll, h d (List.mem_cons_self ..), plainAll_of fun x hx => h x (List.mem_cons_of_mem _ hx)]
    rfl
theorem plain_tup {ds : List PyData} (h : ∀ d ∈ ds, plainB d = true) : plainB (.tuple ds) = true := by
  rw [plainB]
  exact plainAll_of h
mutual
theorem eqv_plain : ∀ {x y : PyData}, plainB x = true → plainB y = true → PyData.eqv x y = true → x = y
  | .int i, .int j, _, _, e => by
    rw [PyData.eqv, beq_iff_eq] at e
    rw [e]
  | .str i, .str j, _, _, e => by
    rw [PyData.eqv, beq_iff_eq] at e
    rw [e]
  | .tuple xs, .tuple ys, hx, hy, e => by
    rw [PyData.eqv] at e
    rw [eqvAll_plain (by rw [plainB] at hx; exact hx) (by rw [plainB] at hy; exact hy) e]
  | .int _, .str _, _, _, e => by rw [PyData.eqv] at e; exact nomatch e
  | .int _, .tuple _, _, _, e => by rw [PyData.eqv] at e; exact nomatch e
  | .str _, .int _, _, _, e => by rw [PyData.eqv] at e; exact nomatch e
  | .str _, .tuple _, _, _, e => by rw [PyData.eqv] at e; exact nomatch e
  | .tuple _, .int _, _, _, e => by rw [PyData.eqv] at e; exact nomatch e
  | .tuple _, .str _, _, _, e => by rw [PyData.eqv] at e; exact nomatch e
theorem eqvAll_plain : ∀ {xs ys : List PyData}, plainAll xs = true → plainAll ys = true → PyData.eqvAll xs ys = true → xs = ys
  | [], [], _, _, _ => rfl
  | x :: xs, y :: ys, hx, hy, e => by
    rw [plainAll, Bool.and_eq_true] at hx hy
    rw [PyData.eqvAll, Bool.and_eq_true] at e
    rw [eqv_plain hx.1 hy.1 e.1, eqvAll_plain hx.2 hy.2 e.2]
  | [], _ :: _, _, _, e => by rw [PyData.eqvAll] at e; exact nomatch e
  | _ :: _, [], _, _, e => by rw [PyData.eqvAll] at e; exact nomatch e
end
/-- tuples stay -/
def Tk (H H' : Hp) : Prop := ∀ b xs, H b = some (.tup xs) → H' b = some (.tup xs)
theorem Tk.refl {H : Hp} : Tk H H := fun _ _ e => e
theorem Tk.trans {H H1 H2 : Hp} (a : Tk H H1) (b : Tk H1 H2) : Tk H H2 := fun c xs e => b c xs (a c xs e)
theorem Tk.same {H H' : Hp} (s : Same H H') : Tk H H' := fun b xs e => s b _ e
theorem Tk.kp {p : Addr} {o : HO} {H H' : Hp} (k : Kp p H H') (hp : H p = some o) (n : ∀ xs, o ≠ .tup xs) : Tk H H' := fun b xs e => k b _ (fun z => by
  rw [z, hp] at e
  exact n xs (Option.some.inj e)) e
theorem Tk.kpL {p : Addr} {ys : List V} {H H' : Hp} (k : Kp p H H') (hp : H p = some (.lst ys)) : Tk H H' := Tk.kp k hp fun xs e => by cases e
mutual
theorem dn_tk {ok : Addr → Prop} {H H' : Hp} (t : Tk H H') {v : V} : ∀ {d : PyData}, plainB d = true → Dn ok H v d → Dn ok H' v d
  | .int _, _, .int i => .int i
  | .str _, _, .str x => .str x
  | .tuple ds, hp, .tup ha h hs => .tup ha (t _ _ h) (dnall_tk t (by rw [plainB] at hp; exact hp) hs)
theorem dnall_tk {ok : Addr → Prop} {H H' : Hp} (t : Tk H H') {vs : List V} : ∀ {ds : List PyData}, plainAll ds = true → DnAll ok H vs ds → DnAll ok H' vs ds
  | [], _, .nil => .nil
  | d :: ds, hp, .cons h hs => .cons (dn_tk t (by rw [plainAll, Bool.and_eq_true] at hp; exact hp.1) h) (dnall_tk t (by rw [plainAll, Bool.and_eq_true] at hp; exact hp.2) hs)
end
/-! ### letters -/
def lfs (a : Str) (n s : Int) (sv bv : V) (d : Addr) : List (Str × V) := [("author", .str a), ("number", .int n), ("stamp", .int s), ("seen", sv), ("body", bv), ("_counts", .ref d)]
abbrev csV (ps : List (Str × Int)) : List (L2.Key × V) := ps.map fun p => (Sum.inr p.1, V.int p.2)
def pairD (p : Str × Int) : PyData := .tuple [.str p.1, .int p.2]
def seenD (ps : List (Str × Int)) : PyData := .tuple (ps.map pairD)
def cnt (ps : List (Str × Int)) (m : Str) : Int := match ps.find? (fun p => decide (p.1 = m)) with | some p => p.2 | none => 0
section
variable {K : PySem.W.Frag} {C : Addr} {H H' : Hp} {x : Addr} {a : Str} {n s : Int} {ps : List (Str × Int)} {sv bv : V} {d : Addr}
theorem lfs_author : (lfs a n s sv bv d).lookup ("author" : Str) = some (.str a) := by rfl
theorem lfs_number : (lfs a n s sv bv d).lookup ("number" : Str) = some (.int n) := by rfl
theorem lfs_stamp : (lfs a n s sv bv d).lookup ("stamp" : Str) = some (.int s) := by rfl
theorem lfs_seen : (lfs a n s sv bv d).lookup ("seen" : Str) = some sv := by rfl
theorem lfs_body : (lfs a n s sv bv d).lookup ("body" : Str) = some bv := by rfl
theorem lfs_counts : (lfs a n s sv bv d).lookup ("_counts" : Str) = some (.ref d) := by rfl
theorem lfs_count : (lfs a n s sv bv d).lookup ("count" : Str) = none := by rfl
theorem lfs_hasSeen : (lfs a n s sv bv d).lookup ("has_seen" : Str) = none := by rfl
theorem lfs_value : (lfs a n s sv bv d).lookup ("value" : Str) = none := by rfl
theorem lfs_put : putF "_counts" (.ref d) (putF "body" bv (putF "seen" sv (putF "stamp" (.int s) (putF "number" (.int n) (putF "author" (.str a) []))))) = lfs a n s sv bv d := by rfl
theorem csV_app (a b : List (Str × Int)) : csV (a ++ b) = csV a ++ csV b := List.map_append
theorem valV_cs (m : Str) : ∀ ps : List (Str × Int), valV (csV ps) (Sum.inr m) = (ps.find? fun p => decide (p.1 = m)).map fun p => V.int p.2
  | [] => rfl
  | p :: ps => by
    by_cases e : p.1 = m
    · rw [List.find?_cons, decide_eq_true e]
      exact valV_pos (congrArg Sum.inr e)
    · rw [List.find?_cons, decide_eq_false e]
      exact (valV_neg (fun z => e (Sum.inr.inj z))).trans (valV_cs m ps)
theorem getD_cnt (m : Str) : (valV (csV ps) (Sum.inr m)).getD (.int 0) = .int (cnt ps m) := by
  rw [valV_cs]
  unfold cnt
  cases ps.find? (fun p => decide (p.1 = m)) <;> rfl
theorem pairs_at {ok : Addr → Prop} : ∀ {ps : List (Str × Int)} {vs : List V}, DnAll ok H vs (ps.map pairD) → ∀ (i : Nat) (v : V), vs[i]? = some v → ∃ (p : Str × Int) (t : Addr), ps[i]? = some p ∧ v = .ref t ∧ H t = some (.tup [.str p.1, .int p.2])
  | [], _, h, i, v, e => by
    cases h
    exact nomatch e
  | p :: ps, _, h, i, v, e => by
    cases h with
    | cons h hs =>
      cases i with
      | zero =>
        cases Option.some.inj e
        cases h with
        | tup _ ht hx =>
          cases hx with
          | cons h1 hx =>
            cases h1
            cases hx with
            | cons h2 hx =>
              cases h2
              cases hx
              exact ⟨p, _, rfl, rfl, ht⟩
      | succ i =>
        obtain ⟨p, t, e1, e2, e3⟩ := pairs_at hs i v e
        exact ⟨p, t, e1, e2, e3⟩
end
/-! ### letters as records -/
structure Lt where
  a : Str
  n : Int
  s : Int
  ps : List (Str × Int)
  b : PyData
def valD (L : Lt) : PyData := .tuple [.str L.a, .int L.n, .int L.s, seenD L.ps, L.b]
def keyD (L : Lt) : PyData := .tuple [.int L.s, .str L.a]
structure Wf (L : Lt) : Prop where
  n1 : 1 ≤ L.n
  nd : (L.ps.map (·.1)).Nodup
  len : L.ps.length ≤ 100
  aa : ascii L.a = true
  pa : ∀ p ∈ L.ps, ascii p.1 = true
  lb : Lay 3 L.b
  pb : plainB L.b = true
theorem plain_seen (ps : List (Str × Int)) : plainB (seenD ps) = true := plain_tup fun d hd => by
  obtain ⟨p, _, rfl⟩ := List.mem_map.mp hd
  rfl
theorem Wf.plain {L : Lt} (w : Wf L) : plainB (valD L) = true := plain_tup fun d hd => by
  simp only [List.mem_cons, List.not_mem_nil, or_false] at hd
  rcases hd with rfl | rfl | rfl | rfl | rfl
  · rfl
  · rfl
  · rfl
  · exact plain_seen _
  · exact w.pb
theorem lay_seen {ps : List (Str × Int)} (h : ∀ p ∈ ps, ascii p.1 = true) : Lay 2 (seenD ps) := lay_tup fun d hd => by
  obtain ⟨p, hp, rfl⟩ := List.mem_map.mp hd
  exact lay2 (lay_str (h p hp)) lay_int
theorem Wf.lay {L : Lt} (w : Wf L) : Lay 4 (valD L) := lay5 (lay_str w.aa) lay_int lay_int (lay_seen w.pa).up w.lb
/-- what stands in a heap and may be read: tuples and objects stay, dicts at good places too -/
def Fm (ok : Addr → Prop) (H H' : Hp) : Prop := Tk H H' ∧ (∀ b C dx fs, H b = some (.ins C dx fs) → H' b = some (.ins C dx fs)) ∧ ∀ b kvs, H b = some (.dK kvs) → ok b → H' b = some (.dK kvs)
theorem Fm.refl {ok : Addr → Prop} {H : Hp} : Fm ok H H := ⟨Tk.refl, fun _ _ _ _ e => e, fun _ _ e _ => e⟩
theorem Fm.trans {ok : Addr → Prop} {H H1 H2 : Hp} (a : Fm ok H H1) (b : Fm ok H1 H2) : Fm ok H H2 := ⟨a.1.trans b.1, fun c C dx fs e => b.2.1 c C dx fs (a.2.1 c C dx fs e), fun c kvs e o => b.2.2 c kvs (a.2.2 c kvs e o) o⟩
theorem Fm.same {ok : Addr → Prop} {H H' : Hp} (s : Same H H') : Fm ok H H' := ⟨Tk.same s, fun b _ _ _ e => s b _ e, fun b _ e _ => s b _ e⟩
theorem Fm.kpL {ok : Addr → Prop} {p : Addr} {ys : List V} {H H' : Hp} (k : Kp p H H') (hp : H p = some (.lst ys)) : Fm ok H H' :=
  ⟨Tk.kpL k hp, fun b _ _ _ e => k b _ (fun z => by rw [z, hp] at e; cases e) e, fun b _ e _ => k b _ (fun z => by rw [z, hp] at e; cases e) e⟩
theorem Fm.stm {ok : Addr → Prop} {p : Addr} {H H' : Hp} (k : Kp p H H') (s : Stm H p) : Fm ok H H' := by
  obtain ⟨a, b, h, _⟩ := s
  exact Fm.kpL k h
theorem Fm.kpD {p : Addr} {o : HO} {H H' : Hp} (k : Kp p H H') (hp : H p = some o) (n1 : ∀ xs, o ≠ .tup xs) (n2 : ∀ C dx fs, o ≠ .ins C dx fs) : Fm (Off p) H H' :=
  ⟨Tk.kp k hp n1, fun b C dx fs e => k b _ (fun z => by rw [z, hp] at e; exact n2 _ _ _ (Option.some.inj e)) e, fun b _ e n => k b _ n e⟩
def LtAt (ok : Addr → Prop) (C : Addr) (H : Hp) (x : Addr) (L : Lt) : Prop := ∃ dx d sv bv, H x = some (.ins C dx (lfs L.a L.n L.s sv bv d)) ∧ ok d ∧ H d = some (.dK (csV L.ps)) ∧ Dn Any H sv (seenD L.ps) ∧ Dn Any H bv L.b
theorem LtAt.fm {ok : Addr → Prop} {C x : Addr} {H H' : Hp} {L : Lt} (h : LtAt ok C H x L) (w : Wf L) (f : Fm ok H H') : LtAt ok C H' x L := by
  obtain ⟨dx, d, sv, bv, h1, h2, h3, h4, h5⟩ := h
  exact ⟨dx, d, sv, bv, f.2.1 _ _ _ _ h1, h2, f.2.2 _ _ h3 h2, dn_tk f.1 (plain_seen _) h4, dn_tk f.1 w.pb h5⟩
theorem LtAt.same {ok : Addr → Prop} {C x : Addr} {H H' : Hp} {L : Lt} (h : LtAt ok C H x L) (s : Same H H') : LtAt ok C H' x L := by
  obtain ⟨dx, d, sv, bv, h1, h2, h3, h4, h5⟩ := h
  exact ⟨dx, d, sv, bv, s _ _ h1, h2, s _ _ h3, h4.same s, h5.same s⟩
theorem LtAt.any {ok : Addr → Prop} {C x : Addr} {H : Hp} {L : Lt} (h : LtAt ok C H x L) : LtAt Any C H x L := by
  obtain ⟨dx, d, sv, bv, h1, h2, h3⟩ := h
  exact ⟨dx, d, sv, bv, h1, trivial, h3⟩
/-- lists of letters -/
abbrev lsV (ls : List (Addr × Lt)) : List V := ls.map fun y => V.ref y.1
def LsOk (ok : Addr → Prop) (C : Addr) (H : Hp) (ls : List (Addr × Lt)) : Prop := ∀ y ∈ ls, LtAt ok C H y.1 y.2 ∧ Wf y.2
theorem LsOk.fm {ok : Addr → Prop} {C : Addr} {H H' : Hp} {ls : List (Addr × Lt)} (h : LsOk ok C H ls) (f : Fm ok H H') : LsOk ok C H' ls := fun y hy => ⟨(h y hy).1.fm (h y hy).2 f, (h y hy).2⟩
theorem LsOk.same {ok : Addr → Prop} {C : Addr} {H H' : Hp} {ls : List (Addr × Lt)} (h : LsOk ok C H ls) (s : Same H H') : LsOk ok C H' ls := h.fm (Fm.same s)
theorem LsOk.any {ok : Addr → Prop} {C : Addr} {H : Hp} {ls : List (Addr × Lt)} (h : LsOk ok C H ls) : LsOk Any C H ls := fun y hy => ⟨(h y hy).1.any, (h y hy).2⟩
theorem LsOk.app {ok : Addr → Prop} {C : Addr} {H : Hp} {ls ms : List (Addr × Lt)} (h : LsOk ok C H ls) (k : LsOk ok C H ms) : LsOk ok C H (ls ++ ms) := fun y hy => (List.mem_append.mp hy).elim (h y) (k y)
theorem LsOk.sub {ok : Addr → Prop} {C : Addr} {H : Hp} {ls ms : List (Addr × Lt)} (h : LsOk ok C H ls) (k : ∀ y ∈ ms, y ∈ ls) : LsOk ok C H ms := fun y hy => h y (k y hy)
theorem LsOk.get {ok : Addr → Prop} {C : Addr} {H : Hp} {ls : List (Addr × Lt)} (h : LsOk ok C H ls) {i : Nat} {y : Addr × Lt} (e : ls[i]? = some y) : LtAt ok C H y.1 y.2 ∧ Wf y.2 := h y (List.mem_of_getElem? e)
def spInit (K : PySem.W.Frag) (C : Addr) : Sp := fun vs H Q _ => ∃ (x dx : Addr) (a : Str) (n s : Int) (ps : List (Str × Int)) (sv bv : V), vs = [.ref x, .str a, .int n, .int s, sv, bv] ∧ H x = some (.ins C dx []) ∧ Dn (Off x) H sv (seenD ps) ∧ (ps.map (·.1)).Nodup ∧ ps.length ≤ 1000 ∧
  ∀ H' d, H d = none → Kp x H H' → H' x = some (.ins C dx (lfs a n s sv bv d)) → H' d = some (.dK (csV ps)) → Q .non H'
def spRefP (K : PySem.W.Frag) (C : Addr) : Sp := fun vs H Q _ => ∃ (x : Addr) (L : Lt), vs = [.ref x] ∧ LtAt Any C H x L ∧ ∀ t H', H t = none → Same H H' → H' t = some (.tup [.str L.a, .int L.n]) → Q (.ref t) H'
def spKeyP (K : PySem.W.Frag) (C : Addr) : Sp := fun vs H Q _ => ∃ (x : Addr) (L : Lt), vs = [.ref x] ∧ LtAt Any C H x L ∧ ∀ t H', H t = none → Same H H' → H' t = some (.tup [.int L.s, .str L.a]) → Q (.ref t) H'
def spValue (K : PySem.W.Frag) (C : Addr) : Sp := fun vs H Q _ => ∃ (x : Addr) (L : Lt), vs = [.ref x] ∧ LtAt Any C H x L ∧ ∀ v H', Same H H' → Dn Any H' v (valD L) → Q v H'
def spCount (K : PySem.W.Frag) (C : Addr) : Sp := fun vs H Q _ => ∃ (x : Addr) (m : Str) (L : Lt), vs = [.ref x, .str m] ∧ LtAt Any C H x L ∧ Q (.int (cnt L.ps m)) H
section
variable {K : PySem.W.Frag} {C : Addr} {vs : List V} {H : Hp} {Q : VK} {E : XK}
theorem w_fldV {i : Nat} {σ : L2.St} {f : Str} {x dx : Addr} {fs : List (Str × V)} {v : V} (hi : σ[i]? = some (some (.ref x))) (h : H x = some (.ins C dx fs)) (c : Cls K C) (nn : NoAttr K C f) (l : fs.lookup f = some v) (q : Q v H) : tFld K (tVar i) f σ H Q :=
  ⟨_, hi, x, C, dx, fs, v, rfl, h, c, nn, l, q⟩
theorem w_methV {i : Nat} {σ : L2.St} {m : Str} {x dx : Addr} {fs : List (Str × V)} {sp : Sp} {dvs : List V} {E : XK} {t : TA} (hi : σ[i]? = some (some (.ref x))) (h : H x = some (.ins C dx fs)) (l : fs.lookup m = none) (q : t σ H fun vs H2 => sp (.ref x :: (vs ++ dvs)) H2 Q E) : tMeth C m sp dvs E (tVar i) t σ H Q :=
  ⟨_, hi, x, dx, fs, rfl, h, l, q⟩
theorem w_propV {i : Nat} {σ : L2.St} {x dx : Addr} {fs : List (Str × V)} {sp : Sp} {dvs : List V} {E : XK} (hi : σ[i]? = some (some (.ref x))) (h : H x = some (.ins C dx fs)) (q : sp (.ref x :: dvs) H Q E) : tProp C sp dvs E (tVar i) σ H Q :=
  ⟨_, hi, x, dx, fs, rfl, h, q⟩
/-- Letter_ref: slots 0:self -/
def t_Letter_ref (K : PySem.W.Frag) (C_Letter : Addr) : TS := (tRet (tTup (tCons (tFld K (tVar 0) "author") (tCons (tFld K (tVar 0) "number") tNil))))
theorem l_Letter_ref (h : spRefP K C vs H Q E) : vs.length = 1 := by obtain ⟨x, L, rfl, _⟩ := h; rfl
theorem r_Letter_ref (LC : IsC_Letter K C) (h : spRefP K C vs H Q E) : t_Letter_ref K C { nx := fun _ H' => Q .non H', rt := Q } (start ["self"] vs) H := by
  obtain ⟨x, L, rfl, ⟨dx, d, sv, bv, hx, _, hd, _⟩, q⟩ := h
  unfold t_Letter_ref
  walk_at "v"
  refine w_fldV rfl hx LC.cl LC.n_author lfs_author ?_
  walk_at "v"
  refine w_fldV rfl hx LC.cl LC.n_number lfs_number ?_
  walk_at "v"
  exact w_new q
/-- Letter_key: slots 0:self -/
def t_Letter_key (K : PySem.W.Frag) (C_Letter : Addr) : TS := (tRet (tTup (tCons (tFld K (tVar 0) "stamp") (tCons (tFld K (tVar 0) "author") tNil))))
theorem l_Letter_key (h : spKeyP K C vs H Q E) : vs.length = 1 := by obtain ⟨x, L, rfl, _⟩ := h; rfl
theorem r_Letter_key (LC : IsC_Letter K C) (h : spKeyP K C vs H Q E) : t_Letter_key K C { nx := fun _ H' => Q .non H', rt := Q } (start ["self"] vs) H := by
  obtain ⟨x, L, rfl, ⟨dx, d, sv, bv, hx, _, hd, _⟩, q⟩ := h
  unfold t_Letter_key
  walk_at "v"
  refine w_fldV rfl hx LC.cl LC.n_stamp lfs_stamp ?_
  walk_at "v"
  refine w_fldV rfl hx LC.cl LC.n_author lfs_author ?_
  walk_at "v"
  exact w_new q
/-- Letter_value: slots 0:self -/
def t_Letter_value (K : PySem.W.Frag) (C_Letter : Addr) : TS := (tRet (tTup (tCons (tFld K (tVar 0) "author") (tCons (tFld K (tVar 0) "number") (tCons (tFld K (tVar 0) "stamp") (tCons (tFld K (tVar 0) "seen") (tCons (tFld K (tVar 0) "body") tNil)))))))
theorem l_Letter_value (h : spValue K C vs H Q E) : vs.length = 1 := by obtain ⟨x, L, rfl, _⟩ := h; rfl
theorem r_Letter_value (LC : IsC_Letter K C) (h : spValue K C vs H Q E) : t_Letter_value K C { nx := fun _ H' => Q .non H', rt := Q } (start ["self"] vs) H := by
  obtain ⟨x, L, rfl, ⟨dx, d, sv, bv, hx, _, hd, hsv, hbv⟩, q⟩ := h
  unfold t_Letter_value
  walk_at "v"
  refine w_fldV rfl hx LC.cl LC.n_author lfs_author ?_
  walk_at "v"
  refine w_fldV rfl hx LC.cl LC.n_number lfs_number ?_
  walk_at "v"
  refine w_fldV rfl hx LC.cl LC.n_stamp lfs_stamp ?_
  walk_at "v"
  refine w_fldV rfl hx LC.cl LC.n_seen lfs_seen ?_
  walk_at "v"
  refine w_fldV rfl hx LC.cl LC.n_body lfs_body ?_
  walk_at "v"
  exact w_new fun p H2 _ s ht => q _ H2 s (.tup trivial ht (.cons (.str _) (.cons (.int _) (.cons (.int _) (.cons (hsv.same s) (.cons (hbv.same s) .nil))))))
/-- Letter_count: slots 0:self 1:name -/
def t_Letter_count (K : PySem.W.Frag) (C_Letter : Addr) : TS := (tRet (tDGet2 (tFld K (tVar 0) "_counts") (tVar 1) (tC (.int 0))))
theorem l_Letter_count (h : spCount K C vs H Q E) : vs.length = 2 := by obtain ⟨x, m, L, rfl, _⟩ := h; rfl
theorem r_Letter_count (LC : IsC_Letter K C) (h : spCount K C vs H Q E) : t_Letter_count K C { nx := fun _ H' => Q .non H', rt := Q } (start ["self", "name"] vs) H := by
  obtain ⟨x, m, L, rfl, ⟨dx, d, sv, bv, hx, _, hd, _⟩, q⟩ := h
  unfold t_Letter_count
  walk_at "w"
  refine w_dget2 ?_
  refine w_fldV rfl hx LC.cl LC.n_counts lfs_counts ?_
  refine ⟨d, rfl, .inl ⟨_, .inl hd⟩, ?_⟩
  walk_at "w"
  refine ⟨_, DGet.k (k := Sum.inr m) hd, ?_⟩
  rw [getD_cnt]
  exact q
/-- Letter___init__: slots 0:self 1:author 2:number 3:stamp 4:seen 5:body 6:name 7:count -/
def t_Letter___init__ (K : PySem.W.Frag) (C_Letter : Addr) : TS := (tSeq (sFld K (tVar 0) (tVar 1) "author")
  (tSeq (sFld K (tVar 0) (tVar 2) "number")
  (tSeq (sFld K (tVar 0) (tVar 3) "stamp")
  (tSeq (sFld K (tVar 0) (tVar 4) "seen")
  (tSeq (sFld K (tVar 0) (tVar 5) "body")
  (sFld K (tVar 0) (tDc (iTup K (tVar 4)) (gTup K 2 (gCons (gName 6) (gCons (gName 7) gNil))) tYes (tVar 6) (tVar 7) [6, 7]) "_counts"))))))
theorem l_Letter___init__ (h : spInit K C vs H Q E) : vs.length = 6 := by obtain ⟨x, dx, a, n, s, ps, sv, bv, rfl, _⟩ := h; rfl
theorem r_Letter___init__ (LC : IsC_Letter K C) (h : spInit K C vs H Q E) : t_Letter___init__ K C { nx := fun _ H' => Q .non H', rt := Q } (start ["self", "author", "number", "stamp", "seen", "body", "name", "count"] vs) H := by
  obtain ⟨x, dx, a, n, s, ps, sv, bv, rfl, hx, hsv, hnd, hlen, q⟩ := h
  unfold t_Letter___init__
  walk_at "w"
  refine w_sfld (w_var rfl (w_var rfl ⟨x, C, dx, _, rfl, hx, LC.cl, LC.n_author, (show 0 < 1000 by decide), ?_⟩))
  walk_at "w"
  refine w_sfld (w_var rfl (w_var rfl ⟨x, C, dx, _, rfl, upd_same, LC.cl, LC.n_number, (show 1 < 1000 by decide), ?_⟩))
  walk_at "w"
  refine w_sfld (w_var rfl (w_var rfl ⟨x, C, dx, _, rfl, upd_same, LC.cl, LC.n_stamp, (show 2 < 1000 by decide), ?_⟩))
  walk_at "w"
  refine w_sfld (w_var rfl (w_var rfl ⟨x, C, dx, _, rfl, upd_same, LC.cl, LC.n_seen, (show 3 < 1000 by decide), ?_⟩))
  walk_at "w"
  refine w_sfld (w_var rfl (w_var rfl ⟨x, C, dx, _, rfl, upd_same, LC.cl, LC.n_body, (show 4 < 1000 by decide), ?_⟩))
  walk_at "w"
  have kx : ∀ {G : Hp} {o : HO}, Kp x H G → Kp x H (upd G x o) := fun k => k.updp
  have k5 := kx (o := .ins C dx (putF "body" bv (putF "seen" sv (putF "stamp" (.int s) (putF "number" (.int n) (putF "author" (.str a) [])))))) (kx (o := .ins C dx (putF "seen" sv (putF "stamp" (.int s) (putF "number" (.int n) (putF "author" (.str a) []))))) (kx (o := .ins C dx (putF "stamp" (.int s) (putF "number" (.int n) (putF "author" (.str a) [])))) (kx (o := .ins C dx (putF "number" (.int n) (putF "author" (.str a) []))) (kx (o := .ins C dx (putF "author" (.str a) [])) Kp.refl))))
  have h5 : (upd (upd (upd (upd (upd H x (.ins C dx (putF "author" (.str a) []))) x (.ins C dx (putF "number" (.int n) (putF "author" (.str a) [])))) x (.ins C dx (putF "stamp" (.int s) (putF "number" (.int n) (putF "author" (.str a) []))))) x (.ins C dx (putF "seen" sv (putF "stamp" (.int s) (putF "number" (.int n) (putF "author" (.str a) [])))))) x (.ins C dx (putF "body" bv (putF "seen" sv (putF "stamp" (.int s) (putF "number" (.int n) (putF "author" (.str a) []))))))) x = some (.ins C dx (putF "body" bv (putF "seen" sv (putF "stamp" (.int s) (putF "number" (.int n) (putF "author" (.str a) [])))))) := upd_same
  revert k5 h5
  generalize (upd (upd (upd (upd (upd H x (.ins C dx (putF "author" (.str a) []))) x (.ins C dx (putF "number" (.int n) (putF "author" (.str a) [])))) x (.ins C dx (putF "stamp" (.int s) (putF "number" (.int n) (putF "author" (.str a) []))))) x (.ins C dx (putF "seen" sv (putF "stamp" (.int s) (putF "number" (.int n) (putF "author" (.str a) [])))))) x (.ins C dx (putF "body" bv (putF "seen" sv (putF "stamp" (.int s) (putF "number" (.int n) (putF "author" (.str a) []))))))) = H5
  intro k5 h5
  have hsv5 : Dn (Off x) H5 sv (seenD ps) := hsv.kp k5
  cases hsv5 with
  | @tup ta xs _ hok ht hxs =>
    have hxl : xs.length = ps.length := by rw [hxs.len, List.length_map]
    show sFld K (tVar 0) (tDc (iTup K (tVar 4)) (gTup K 2 (gCons (gName 6) (gCons (gName 7) gNil))) tYes (tVar 6) (tVar 7) [6, 7]) "_counts" _ _ _
    refine w_sfld ?_
    show iTup K (tVar 4) _ _ _
    refine w_iTup (w_var rfl ⟨ta, rfl, ⟨_, SqT.of ht⟩, fun D hD => ?_⟩)
    refine dc_tup (fun i H' => (∀ b o, b ≠ D → H5 b = some o → H' b = some o) ∧ H' D = some (.dK (csV (ps.take i)))) ⟨fun b o nb e => by rw [upd_ne nb]; exact e, upd_same⟩ (fun i H' _ pv => SqT.of (pv.1 _ _ (ne_of_none ht hD) ht)) (fun i v H' hv pv => ?_) (fun H' pv => ?_)
    · obtain ⟨p, t, e1, rfl, e3⟩ := pairs_at hxs i v hv
      refine ⟨t, _, rfl, SqT.of (pv.1 _ _ (ne_of_none e3 hD) e3), rfl, gc (w_name (gc (w_name (gn ⟨rfl, ?_⟩))))⟩
      refine w_yes ?_
      refine iteT_ ?_
      refine w_var rfl (w_var rfl ⟨_, Sum.inr p.1, rfl, pv.2, ?_, fun b o nb e => by rw [upd_ne nb]; exact pv.1 b o nb e, ?_⟩)
      · rw [List.length_map, List.length_take]
        exact Nat.lt_of_le_of_lt (show min i ps.length ≤ 1000 by omega) (by decide)
      · have hi : i < ps.length := (List.getElem?_eq_some_iff.mp e1).1
        have hp : ps[i] = p := (List.getElem?_eq_some_iff.mp e1).2
        have hnone : valV (csV (ps.take i)) (Sum.inr p.1) = none := by
          rw [valV_cs]
          have : (ps.take i).find? (fun q => decide (q.1 = p.1)) = none := by
            rw [List.find?_eq_none]
            intro q hq e
            have e := of_decide_eq_true e
            obtain ⟨j, hj⟩ := List.mem_iff_getElem?.mp hq
            rw [List.getElem?_take] at hj
            split at hj
            · rename_i hji
              have h1 : (ps.map (·.1))[j]? = some p.1 := by rw [List.getElem?_map, hj]; exact congrArg some e
              have h2 : (ps.map (·.1))[i]? = some p.1 := by rw [List.getElem?_map, e1]; rfl
              have := (List.getElem?_inj (by rw [List.length_map]; omega) hnd).mp (h1.trans h2.symm)
              omega
            · exact nomatch hj
          rw [this]
          rfl
        rw [upd_same, putK_new _ hnone, List.take_add_one, e1, csV_app]
        rfl
    · obtain ⟨p1, p2⟩ := pv
      have nx : D ≠ x := fun e => by
        subst e
        rw [h5] at hD
        cases hD
      have hx' := p1 x _ nx.symm h5
      rw [hxl, List.take_length] at p2
      refine w_var rfl ⟨x, C, dx, _, rfl, hx', LC.cl, LC.n_counts, (show 5 < 1000 by decide), ?_⟩
      rw [lfs_put]
      refine q _ D (k5.free nx hD) (fun b o nb e => ?_) upd_same (by rw [upd_ne nx]; exact p2)
      rw [upd_ne nb]
      have e5 := k5 b o nb e
      exact p1 b o (ne_of_none e5 hD) e5
end

/-! ### shared steps -/
section
variable {K : PySem.W.Frag} {C CL : Addr} {vs : List V} {H : Hp} {Q : VK} {E : XK} {σ : L2.St} {D : Ends} {td ty : TE} {tt : TT}
theorem same_none {H H' : Hp} {a : Addr} (s : Same H H') (h : H' a = none) : H a = none := by
  cases e : H a with
  | none => rfl
  | some o => rw [s _ _ e] at h; cases h
theorem Same.kp0 {H0 H H' : Hp} {p : Addr} (s : Same H0 H) (k : Kp p H H') (n : H0 p = none) : Same H0 H' := fun b o e => k b o (ne_of_none e n) (s _ _ e)
theorem Fm.kpK {ok : Addr → Prop} {p : Addr} {o : HO} {H H' : Hp} (k : Kp p H H') (hp : H p = some o) (n1 : ∀ xs, o ≠ .tup xs) (n2 : ∀ C dx fs, o ≠ .ins C dx fs) (n3 : ∀ kvs, o ≠ .dK kvs) : Fm ok H H' :=
  ⟨Tk.kp k hp n1, fun b C dx fs e => k b _ (fun z => by rw [z, hp] at e; exact n2 _ _ _ (Option.some.inj e)) e, fun b _ e _ => k b _ (fun z => by rw [z, hp] at e; exact n3 _ (Option.some.inj e)) e⟩
theorem ne_kind {b p : Addr} {o u : HO} (e : H b = some o) (hp : H p = some u) (n : o = u → False) : b ≠ p := fun z => by
  rw [z, hp] at e
  exact n (Option.some.inj e).symm
theorem cutV_to {xs : List V} {j : Nat} (h : j ≤ xs.length) : cutV xs none (some (j : Int)) = xs.take j := by
  unfold cutV
  rw [HT.sIx_none, HT.sIx_nat, Nat.min_eq_left h]
  rfl
theorem cutV_from {xs : List V} {i : Nat} (h : i ≤ xs.length) : cutV xs (some (i : Int)) none = xs.drop i := by
  unfold cutV
  rw [HT.sIx_none, HT.sIx_nat, Nat.min_eq_left h, ← List.length_drop, List.take_length]
theorem lay_list {k : Nat} {ds : List PyData} (h : ∀ d ∈ ds, Lay k d) : Lay (k + 1) (.list ds) :=
  ⟨by rw [PyData.canLay0]; exact (lay_all h).1, by rw [PyData.depth]; exact Nat.succ_le_succ (lay_all h).2⟩
theorem lay_vals {ls : List (Addr × Lt)} (h : ∀ y ∈ ls, Wf y.2) : SeqAt.shaped (.list (ls.map fun y => valD y.2)) = true := (lay_list (k := 4) fun d hd => by
  obtain ⟨y, hy, rfl⟩ := List.mem_map.mp hd
  exact (h y hy).lay).shaped
theorem stm_ne {H : Hp} {a p : Addr} {ls : List (Addr × Lt)} (s : Stm H p) (e : H a = some (.lst (lsV ls))) : a ≠ p := fun z => by
  obtain ⟨x, y, h, _⟩ := s
  rw [z, h] at e
  cases ls with
  | nil => cases e
  | cons o ls =>
    injection e with e
    injection e with e
    have : V.int x = V.ref o.1 := (List.cons.inj e).1
    exact nomatch this
theorem ixN_at {n j : Nat} (hj : j < n) : ixN n (j : Int) = some j := by
  unfold ixN
  rw [if_pos (by omega), if_pos (by omega)]
  simp
theorem lsV_app (a b : List (Addr × Lt)) : lsV (a ++ b) = lsV a ++ lsV b := List.map_append
theorem lsV_take (a : List (Addr × Lt)) (n : Nat) : (lsV a).take n = lsV (a.take n) := List.map_take.symm
theorem lsV_drop (a : List (Addr × Lt)) (n : Nat) : (lsV a).drop n = lsV (a.drop n) := List.map_drop.symm
theorem lsV_len (a : List (Addr × Lt)) : (lsV a).length = a.length := List.length_map _
theorem dn_made2 {ok : Addr → Prop} {C x dx : Addr} {H : Hp} {o : HO} {v : V} {d : PyData} (h : Dn ok H v d) (hx : H x = none) (hdx : H dx = none) (fs : List (Str × V)) : Dn (Off x) (upd (upd H dx o) x (.ins C dx fs)) v d :=
  (h.any.off hx).kp ((Kp.upd Kp.refl hdx).updp)
theorem stm_kp {q p : Addr} {H H' : Hp} (s : Stm H p) (k : Kp q H H') (n : p ≠ q) : Stm H' p := by
  obtain ⟨x, y, e, r⟩ := s
  exact ⟨x, y, k _ _ n e, r⟩
/-! ### a dict of counts -/
structure DI (cs : List (L2.Key × V)) (ks : List Str) (f : Str → Int) : Prop where
  keys : cs.map (·.1) = ks.map Sum.inr
  nd : ks.Nodup
  val : ∀ a, valV cs (Sum.inr a) = if a ∈ ks then some (.int (f a)) else none
def cv (ks : List Str) (f : Str → Int) (a : Str) : Int := if a ∈ ks then f a else 0
theorem DI.nil {f : Str → Int} : DI [] [] f := ⟨rfl, List.nodup_nil, fun _ => rfl⟩
theorem DI.len {cs : List (L2.Key × V)} {ks : List Str} {f : Str → Int} (h : DI cs ks f) : cs.length = ks.length := by
  have := congrArg List.length h.keys
  rw [List.length_map, List.length_map] at this
  exact this
theorem DI.getD {cs : List (L2.Key × V)} {ks : List Str} {f : Str → Int} (h : DI cs ks f) (a : Str) : (valV cs (Sum.inr a)).getD (.int 0) = .int (cv ks f a) := by
  rw [h.val]
  unfold cv
  split <;> rfl
theorem DI.has {cs : List (L2.Key × V)} {ks : List Str} {f : Str → Int} (h : DI cs ks f) {a : Str} (m : a ∈ ks) : valV cs (Sum.inr a) = some (.int (f a)) := by
  rw [h.val, if_pos m]
theorem DI.at_ {cs : List (L2.Key × V)} {ks : List Str} {f : Str → Int} (h : DI cs ks f) {i : Nat} {k : L2.Key} {v : V} (e : cs[i]? = some (k, v)) : ∃ a, ks[i]? = some a ∧ k = Sum.inr a := by
  have h1 : (cs.map (·.1))[i]? = some k := by rw [List.getElem?_map, e]; rfl
  rw [h.keys, List.getElem?_map] at h1
  obtain ⟨a, ha, rfl⟩ := Option.map_eq_some_iff.mp h1
  exact ⟨a, ha, rfl⟩
theorem DI.putNew {cs : List (L2.Key × V)} {ks : List Str} {f : Str → Int} (h : DI cs ks f) {a : Str} (n : a ∉ ks) (v : Int) : DI (putK cs (Sum.inr a) (.int v)) (ks ++ [a]) (fun b => if b = a then v else f b) := by
  have hn : valV cs (Sum.inr a) = none := by rw [h.val, if_neg n]
  refine ⟨?_, ?_, fun b => ?_⟩
  · rw [putK_new _ hn, List.map_append, List.map_append, h.keys]
    rfl
  · rw [List.nodup_append]
    refine ⟨h.nd, by simp, fun x hx y hy z => ?_⟩
    rw [List.mem_singleton.mp hy] at z
    exact n (z ▸ hx)
  · rw [valV_put]
    by_cases e : b = a
    · subst e
      rw [if_pos rfl, if_pos (List.mem_append_right _ (List.mem_singleton.mpr rfl)), if_pos rfl]
    · rw [if_neg (fun z => e (Sum.inr.inj z)), h.val, if_neg e]
      by_cases m : b ∈ ks
      · rw [if_pos m, if_pos (List.mem_append_left _ m)]
      · rw [if_neg m, if_neg (fun z => (List.mem_append.mp z).elim m fun z => e (List.mem_singleton.mp z))]
theorem DI.putOld {cs : List (L2.Key × V)} {ks : List Str} {f : Str → Int} (h : DI cs ks f) {a : Str} (n : a ∈ ks) (v : Int) : DI (putK cs (Sum.inr a) (.int v)) ks (fun b => if b = a then v else f b) := by
  have hn : (cs.any fun kv => decide (kv.1 = Sum.inr a)) = true := by rw [valV_any, h.has n]; rfl
  refine ⟨?_, h.nd, fun b => ?_⟩
  · unfold putK
    rw [if_pos hn, List.map_map, ← h.keys]
    refine List.map_congr_left fun kv _ => ?_
    show (if kv.1 = Sum.inr a then (kv.1, V.int v) else kv).1 = kv.1
    split <;> rfl
  · rw [valV_put]
    by_cases e : b = a
    · subst e
      rw [if_pos rfl, if_pos n, if_pos rfl]
    · rw [if_neg (fun z => e (Sum.inr.inj z)), h.val, if_neg e]
theorem DI.put {cs : List (L2.Key × V)} {ks : List Str} {f : Str → Int} (h : DI cs ks f) (a : Str) (v : Int) : ∃ ks', DI (putK cs (Sum.inr a) (.int v)) ks' (fun b => if b = a then v else f b) ∧ a ∈ ks' ∧ (∀ b, b ∈ ks' ↔ b ∈ ks ∨ b = a) ∧ ks'.length ≤ ks.length + 1 := by
  by_cases m : a ∈ ks
  · exact ⟨ks, h.putOld m v, m, fun b => ⟨.inl, fun z => z.elim id fun e => e ▸ m⟩, Nat.le_succ _⟩
  · refine ⟨ks ++ [a], h.putNew m v, List.mem_append_right _ (List.mem_singleton.mpr rfl), fun b => ?_, ?_⟩
    · rw [List.mem_append, List.mem_singleton]
    · rw [List.length_append, List.length_singleton]
      exact Nat.le_refl _
theorem w_din (q : ty σ H fun y H1 => td σ H1 fun x H2 => ∃ a o, x = .ref a ∧ DGet H2 a y o ∧ Q (.bl o.isSome) H2) : tDIn ty td σ H Q := q
theorem w_dnewT (q : ∀ p H2, H p = none → Same H H2 → H2 p = some (.dT []) → Q (.ref p) H2) : tDNewT σ H Q := fun p hp => q p _ hp (Same.upd (Same.refl H) hp) upd_same
theorem w_dnewK (q : ∀ p H2, H p = none → Same H H2 → H2 p = some (.dK []) → Q (.ref p) H2) : tDNewK σ H Q := fun p hp => q p _ hp (Same.upd (Same.refl H) hp) upd_same
theorem dputK {a : Addr} {kvs : List (L2.Key × V)} {k : L2.Key} {v : V} {R : Hp → Prop} (e : H a = some (.dK kvs)) (hl : kvs.length ≤ 100000) (q : ∀ H4, Kp a H H4 → H4 a = some (.dK (putK kvs k v)) → R H4) :
    ∃ a' H4, V.ref a = .ref a' ∧ DPut H a' (kV k) v H4 ∧ R H4 := ⟨a, _, rfl, DPut.k e (Nat.lt_of_le_of_lt hl (by decide)), q _ Kp.refl.updp upd_same⟩
theorem dputT {a b : Addr} {kvs : List (List L2.Key × V)} {k : List L2.Key} {v : V} {R : Hp → Prop} (e : H a = some (.dT kvs)) (eb : H b = some (.tup (k.map kV))) (hl : kvs.length ≤ 100000) (q : ∀ H4, Kp a H H4 → H4 a = some (.dT (putK kvs k v)) → R H4) :
    ∃ a' H4, V.ref a = .ref a' ∧ DPut H a' (.ref b) v H4 ∧ R H4 := ⟨a, _, rfl, .inr ⟨kvs, k, b, e, rfl, eb, Nat.lt_of_le_of_lt hl (by decide), rfl⟩, q _ Kp.refl.updp upd_same⟩
theorem sfldV {x dx : Addr} {fs : List (Str × V)} {f : Str} {y : V} {R : Hp → Prop} (h : H x = some (.ins C dx fs)) (c : Cls K C) (n : NoAttr K C f) (l : fs.length < 1000) (q : ∀ H4, Kp x H H4 → H4 x = some (.ins C dx (putF f y fs)) → R H4) :
    ∃ a C' dx' fs', V.ref x = .ref a ∧ H a = some (.ins C' dx' fs') ∧ Cls K C' ∧ NoAttr K C' f ∧ fs'.length < 1000 ∧ R (upd H a (.ins C' dx' (putF f y fs'))) := ⟨x, C, dx, fs, rfl, h, c, n, l, q _ Kp.refl.updp upd_same⟩
theorem w_sfldAug {ta tv : TE} {rd : V → V → Hp → VK → Prop} {f : Str} (q : ta σ H fun x H1 => ∃ a C dx fs v, x = .ref a ∧ H1 a = some (.ins C dx fs) ∧ Cls K C ∧ NoAttr K C f ∧ fs.lookup f = some v ∧
  tv σ H1 fun y H2 => rd v y H2 fun z H3 => ∃ dx' fs', H3 a = some (.ins C dx' fs') ∧ fs'.length < 1000 ∧ D.nx σ (upd H3 a (.ins C dx' (putF f z fs')))) : sFldAug K ta tv rd f D σ H := q
theorem ite_t {b : Bool} {A B : Prop} (h : b = true) (q : A) : if b = true then A else B := by rw [if_pos h]; exact q
theorem ite_f {b : Bool} {A B : Prop} (h : ¬ b = true) (q : B) : if b = true then A else B := by rw [if_neg h]; exact q
theorem same_made2 {x dx : Addr} {o o' : HO} {G : Hp} (hx : H x = none) (hdx : H dx = none) (k : Kp x (upd (upd H dx o) x o') G) : Same H G :=
  (((Kp.upd Kp.refl hdx).updp (H := H)).trans k).same hx
/-- [letter.value() for letter in ..] -/
theorem lcVals {ws : List Nat} {Qd : Addr → Hp → Prop} {a : Addr} {ls : List (Addr × Lt)} {i : Nat} (ha : H a = some (.lst (lsV ls))) (hok : LsOk Any C H ls) (hl : ls.length ≤ 1000) (hw : ∀ x, wipe ((wipe σ ws).set i (some x)) ws = wipe σ ws) (hi : ∀ x, ((wipe σ ws).set i (some x))[i]? = some (some x))
    (q : ∀ D ts H1, H D = none → Same H H1 → H1 D = some (.lst ts) → DnAll Any H1 ts (ls.map fun y => valD y.2) → Qd D H1) :
    ∀ D, H D = none → ∃ W : Nat → Nat → Hp → Prop, (∃ m, W 0 m (upd H D (.lst []))) ∧ ∀ i' m H, W i' m H →
  ((Itl K a).stop i' H ∧ Qd D H) ∨ ((Itl K a).go i' H ∧ ∃ Nx : Hp → Prop, (∀ H', Nx H' → ∃ m', m' < m ∧ W (i' + 1) m' H') ∧ ∀ x H', (Itl K a).yld i' H x H' → gName i x (wipe σ ws) H' fun σ2 H2 => wipe σ2 ws = wipe σ ws ∧ tYes σ2 H2 fun b H3 =>
    if b = true then tMeth C (Str.ofString "value") (spValue K C) [] C8.E0 (tVar i) tNil σ2 H3 fun y H4 => ∃ acc, H4 D = some (.lst acc) ∧ acc.length < sizeLine ∧ Nx (upd H4 D (.lst (acc ++ [y]))) else Nx H3) := by
  intro D hD
  refine lc_it (walk_list (xs := lsV ls)) (fun k G => Same H G ∧ ∃ ts, G D = some (.lst ts) ∧ ts.length ≤ k ∧ DnAll Any G ts ((ls.take k).map fun y => valD y.2)) ⟨Same.upd (Same.refl H) hD, [], upd_same, Nat.le_refl _, .nil⟩ (fun k G _ s => SqL.of (s.1 _ _ ha)) ?_ ?_
  · rintro k x G G' hk ⟨s, ts, eD, hts, dts⟩ ⟨rfl, hx⟩
    rw [List.getElem?_map] at hx
    obtain ⟨y, hy, rfl⟩ := Option.map_eq_some_iff.mp hx
    have hy' := hok.get hy
    obtain ⟨dx, d, sv, bv, hyx, _⟩ := id hy'.1
    rw [lsV_len] at hk
    refine w_name ⟨hw _, w_yes (iteT_ (w_methV (hi _) (s _ _ hyx) lfs_value (w_nil ⟨y.1, y.2, rfl, hy'.1.same s, fun v G2 s2 dv => ⟨ts, s2 _ _ eD, ?_, ?_, _, upd_same, ?_, ?_⟩⟩)))⟩
    · exact Nat.lt_of_le_of_lt (show ts.length ≤ 1000 by omega) (by decide)
    · exact fun b o e2 => by
        rw [upd_ne (ne_of_none e2 hD)]
        exact s2 _ _ (s _ _ e2)
    · rw [List.length_append, List.length_singleton]
      omega
    · have tk : Tk G2 (upd G2 D (.lst (ts ++ [v]))) := Tk.kpL Kp.refl.updp (s2 _ _ eD)
      rw [List.take_add_one, hy, Option.toList_some, List.map_append]
      refine DnAll.app (dnall_tk tk (plainAll_of fun d hd => ?_) (dts.same s2)) (.cons (dn_tk tk hy'.2.plain dv) .nil)
      obtain ⟨o, ho, rfl⟩ := List.mem_map.mp hd
      exact (hok o (List.mem_of_mem_take ho)).2.plain
  · rintro G ⟨s, ts, eD, hts, dts⟩
    rw [lsV_len, List.take_length] at dts
    exact q D ts G hD s eD dts
theorem lcLs {ws : List Nat} {Qd : Addr → Hp → Prop} {a : Addr} {ls : List (Addr × Lt)} {i : Nat} (p : Addr × Lt → Bool) (hS : ∀ H1, Same H H1 → SqL K H1 a (lsV ls)) (hl : ls.length ≤ 1000) (hw : ∀ x, wipe ((wipe σ ws).set i (some x)) ws = wipe σ ws) (hi : ∀ x, ((wipe σ ws).set i (some x))[i]? = some (some x))
    (ht : ∀ y ∈ ls, ∀ H1, Same H H1 → ∀ R : Bool → Hp → Prop, (∀ H2, Same H1 H2 → R (p y) H2) → tt ((wipe σ ws).set i (some (.ref y.1))) H1 R)
    (q : ∀ D H1, H D = none → Same H H1 → H1 D = some (.lst (lsV (ls.filter p))) → Qd D H1) :
    ∀ D, H D = none → ∃ W : Nat → Nat → Hp → Prop, (∃ m, W 0 m (upd H D (.lst []))) ∧ ∀ i' m H, W i' m H →
  ((Itl K a).stop i' H ∧ Qd D H) ∨ ((Itl K a).go i' H ∧ ∃ Nx : Hp → Prop, (∀ H', Nx H' → ∃ m', m' < m ∧ W (i' + 1) m' H') ∧ ∀ x H', (Itl K a).yld i' H x H' → gName i x (wipe σ ws) H' fun σ2 H2 => wipe σ2 ws = wipe σ ws ∧ tt σ2 H2 fun b H3 =>
    if b = true then tVar i σ2 H3 fun y H4 => ∃ acc, H4 D = some (.lst acc) ∧ acc.length < sizeLine ∧ Nx (upd H4 D (.lst (acc ++ [y]))) else Nx H3) := by
  intro D hD
  refine lc_it (walk_list (xs := lsV ls)) (fun k G => Same H G ∧ G D = some (.lst (lsV ((ls.take k).filter p)))) ⟨Same.upd (Same.refl H) hD, upd_same⟩ (fun k G _ s => hS _ s.1) ?_ ?_
  · rintro k x G G' hk ⟨s, e⟩ ⟨rfl, hx⟩
    rw [List.getElem?_map] at hx
    obtain ⟨y, hy, rfl⟩ := Option.map_eq_some_iff.mp hx
    refine w_name ⟨hw _, ht y (List.mem_of_getElem? hy) _ s _ fun H2 s2 => ?_⟩
    have et : ls.take (k + 1) = ls.take k ++ [y] := by rw [List.take_add_one, hy]; rfl
    cases hp : p y with
    | true =>
      refine ite_t rfl (w_var (hi _) ⟨_, s2 _ _ e, ?_, ?_, ?_⟩)
      · rw [List.length_map]
        have h1 := List.length_filter_le p (ls.take k)
        have h2 : (ls.take k).length ≤ ls.length := by rw [List.length_take]; omega
        exact Nat.lt_of_le_of_lt (show _ ≤ 1000 by omega) (by decide)
      · exact fun b o e2 => by
          rw [upd_ne (ne_of_none e2 hD)]
          exact s2 _ _ (s _ _ e2)
      · rw [upd_same, et, List.filter_append, List.filter_cons_of_pos hp, List.filter_nil]
        unfold lsV
        rw [List.map_append]
        rfl
    | false =>
      refine ite_f (by decide) ⟨s.trans s2, ?_⟩
      rw [et, List.filter_append, List.filter_cons_of_neg (by simp [hp]), List.filter_nil, List.append_nil]
      exact s2 _ _ e
  · rintro G ⟨s, e⟩
    rw [show (lsV ls).length = ls.length from List.length_map _, List.take_length] at e
    exact q D G hD s e
end

/-! ### what is asked of a history -/
def lastN (ls : List Lt) (a : Str) : Int := ls.foldl (fun m o => if o.a = a then o.n else m) 0
def twiceB (ls : List Lt) (L : Lt) : Bool := ls.any fun o => decide (o.a = L.a ∧ o.n = L.n)
def gapB (ls : List Lt) (L : Lt) : Bool := decide (L.n ≠ lastN ls L.a + 1)
def ordB (ls : List Lt) (L : Lt) : Bool := match ls.getLast? with | none => false | some o => !PySem.W.dataLt (keyD o) (keyD L)
def behB (ls : List Lt) (L : Lt) : Bool := ls.any fun o => decide (L.n ≤ cnt o.ps L.a)
def fault (ls : List Lt) (L : Lt) : Option Str :=
  if twiceB ls L = true then some "twice" else if gapB ls L = true then some "gap" else if ordB ls L = true then some "order" else if behB ls L = true then some "behind" else none
def wordV : Option Str → V
  | none => .non
  | some w => .str w
theorem lastN_app (ls : List Lt) (L : Lt) (a : Str) : lastN (ls ++ [L]) a = if L.a = a then L.n else lastN ls a := by
  unfold lastN
  rw [List.foldl_append]
  rfl
/-! ### class Reading -/
structure Rad where
  r : Addr
  dx : Addr
  d1 : Addr
  d2 : Addr
  d3 : Addr
  d4 : Addr
def fsR (d1 : Addr) (kv : V) (d2 d3 d4 : Addr) (m : Int) : List (Str × V) := [("_refs", .ref d1), ("_key", kv), ("_numbers", .ref d2), ("_greatest", .ref d3), ("_many_with", .ref d4), ("_many", .int m)]
def GrOk (qs : List (Str × Int)) (E : List (L2.Key × V)) : Prop := ∀ m, (valV E (Sum.inr m) = none ∧ ∀ p ∈ qs, p.1 ≠ m) ∨ ∃ c : Int, valV E (Sum.inr m) = some (.int c) ∧ ∀ n, n ≤ c ↔ ∃ p ∈ qs, p.1 = m ∧ n ≤ p.2
def IntD (E : List (L2.Key × V)) : Prop := ∀ m, ∃ c : Int, (valV E (Sum.inr m)).getD (.int 0) = .int c
def psOf (ls : List Lt) : List (Str × Int) := ls.flatMap (·.ps)
def KeyV (H : Hp) (ls : List Lt) (kv : V) : Prop := (ls.getLast? = none ∧ kv = .non) ∨ ∃ o t, ls.getLast? = some o ∧ kv = .ref t ∧ H t = some (.tup [.int o.s, .str o.a])
def RefOk (ls : List Lt) (E : List (List L2.Key × V)) : Prop := ∀ a n, (valV E [Sum.inr a, Sum.inl n]).isSome = ls.any fun o => decide (o.a = a ∧ o.n = n)
def NumOk (ls : List Lt) (E : List (L2.Key × V)) : Prop := ∀ a, (valV E (Sum.inr a)).getD (.int 0) = .int (lastN ls a)
structure RdX (C : Addr) (H : Hp) (R : Rad) (ls : List Lt) (kv : V) (m : Int) (E1 : List (List L2.Key × V)) (E2 E3 E4 : List (L2.Key × V)) : Prop where
  hr : H R.r = some (.ins C R.dx (fsR R.d1 kv R.d2 R.d3 R.d4 m))
  h1 : H R.d1 = some (.dT E1)
  h2 : H R.d2 = some (.dK E2)
  h3 : H R.d3 = some (.dK E3)
  h4 : H R.d4 = some (.dK E4)
  n23 : R.d2 ≠ R.d3
  n24 : R.d2 ≠ R.d4
  n34 : R.d3 ≠ R.d4
  key : KeyV H ls kv
  ok1 : RefOk ls E1
  l1 : E1.length ≤ ls.length
  ok2 : NumOk ls E2
  l2 : E2.length ≤ ls.length
  ok3 : GrOk (psOf ls) E3
  l3 : E3.length ≤ (psOf ls).length
  ok4 : IntD E4
  l4 : E4.length ≤ (psOf ls).length
def RdAt (C : Addr) (H : Hp) (R : Rad) (ls : List Lt) : Prop := ∃ kv m E1 E2 E3 E4, RdX C H R ls kv m E1 E2 E3 E4
/-- all stays but what belongs to a Reading -/
def KpR (R : Rad) (H H' : Hp) : Prop := ∀ b o, b ≠ R.r → b ≠ R.d1 → b ≠ R.d2 → b ≠ R.d3 → b ≠ R.d4 → H b = some o → H' b = some o
theorem KeyV.tk {H H' : Hp} {ls : List Lt} {kv : V} (h : KeyV H ls kv) (t : Tk H H') : KeyV H' ls kv := by
  rcases h with h | ⟨o, a, h1, h2, h3⟩
  · exact .inl h
  · exact .inr ⟨o, a, h1, h2, t _ _ h3⟩
theorem RdAt.kpL {C p : Addr} {H H' : Hp} {R : Rad} {ls : List Lt} {ys : List V} (h : RdAt C H R ls) (k : Kp p H H') (hp : H p = some (.lst ys)) : RdAt C H' R ls := by
  obtain ⟨kv, m, E1, E2, E3, E4, h⟩ := h
  have ne : ∀ {b : Addr} {o : HO}, H b = some o → (∀ xs, o ≠ .lst xs) → H' b = some o := fun {b o} e n => k b o (fun z => by rw [z, hp] at e; exact n ys (Option.some.inj e).symm) e
  exact ⟨kv, m, E1, E2, E3, E4, { h with hr := ne h.hr (fun _ e => by cases e), h1 := ne h.h1 (fun _ e => by cases e), h2 := ne h.h2 (fun _ e => by cases e), h3 := ne h.h3 (fun _ e => by cases e), h4 := ne h.h4 (fun _ e => by cases e), key := h.key.tk (Tk.kpL k hp) }⟩
theorem RdAt.same {C : Addr} {H H' : Hp} {R : Rad} {ls : List Lt} (h : RdAt C H R ls) (s : Same H H') : RdAt C H' R ls := by
  obtain ⟨kv, m, E1, E2, E3, E4, h⟩ := h
  exact ⟨kv, m, E1, E2, E3, E4, { h with hr := s _ _ h.hr, h1 := s _ _ h.h1, h2 := s _ _ h.h2, h3 := s _ _ h.h3, h4 := s _ _ h.h4, key := h.key.tk (Tk.same s) }⟩
def spRInit (K : PySem.W.Frag) (C : Addr) : Sp := fun vs H Q _ => ∃ (x dx : Addr), vs = [.ref x] ∧ H x = some (.ins C dx []) ∧
  ∀ H' R, R.r = x → H R.d1 = none → H R.d2 = none → H R.d3 = none → H R.d4 = none → Kp x H H' → RdAt C H' R [] → Q .non H'
def spRSeen (K : PySem.W.Frag) (CL C : Addr) : Sp := fun vs H Q _ => ∃ (R : Rad) (ls : List Lt) (x : Addr) (L : Lt), vs = [.ref R.r, .ref x] ∧ RdAt C H R ls ∧ (∀ o ∈ ls, Wf o) ∧ LtAt Any CL H x L ∧ Wf L ∧ Q (.bl (behB ls L)) H
def spFault (K : PySem.W.Frag) (CL C : Addr) : Sp := fun vs H Q _ => ∃ (R : Rad) (ls : List Lt) (x : Addr) (L : Lt), vs = [.ref R.r, .ref x] ∧ RdAt C H R ls ∧ (∀ o ∈ ls, Wf o) ∧ LtAt Any CL H x L ∧ Wf L ∧ ∀ H', Same H H' → Q (wordV (fault ls L)) H'
def spTake (K : PySem.W.Frag) (CL C : Addr) : Sp := fun vs H Q _ => ∃ (R : Rad) (ls : List Lt) (x : Addr) (L : Lt), vs = [.ref R.r, .ref x] ∧ RdAt C H R ls ∧ (∀ o ∈ ls, Wf o) ∧ ls.length ≤ 200 ∧ LtAt Any CL H x L ∧ x ≠ R.r ∧ Wf L ∧
  ∀ H', KpR R H H' → Tk H H' → RdAt C H' R (ls ++ [L]) → Q .non H'
section
variable {K : PySem.W.Frag} {C CL : Addr} {vs : List V} {H : Hp} {Q : VK} {E : XK} {σ : L2.St} {D : Ends} {td ty : TE}
theorem w_leD {x y : V} {d e : PyData} {ok ok2 : Addr → Prop} (h : Dn ok H x d) (h2 : Dn ok2 H y e) (n1 : noDict d = true) (n2 : noDict e = true) (al : PySem.W.alike d e = true) (nn : d ≠ .none) (dp : d.depth ≤ 64) (q : Q (.bl (!PySem.W.dataLt e d)) H) : Wp.rLeD K x y H Q :=
  ⟨d, e, dn_dp n1 h, dn_dp n2 h2, al, nn, dp, q⟩
theorem w_geD {x y : V} {d e : PyData} {ok ok2 : Addr → Prop} (h : Dn ok H x d) (h2 : Dn ok2 H y e) (n1 : noDict d = true) (n2 : noDict e = true) (al : PySem.W.alike d e = true) (nn : d ≠ .none) (dp : d.depth ≤ 64) (q : Q (.bl (!PySem.W.dataLt d e)) H) : Wp.rGeD K x y H Q :=
  ⟨d, e, dn_dp n1 h, dn_dp n2 h2, al, nn, dp, q⟩
theorem dn_key {ok : Addr → Prop} {t : Addr} {s : Int} {a : Str} (h : H t = some (.tup [.int s, .str a])) (o : ok t) : Dn ok H (.ref t) (.tuple [.int s, .str a]) := .tup o h (.cons (.int _) (.cons (.str _) .nil))
theorem key_depth (s : Int) (a : Str) : (PyData.tuple [.int s, .str a]).depth ≤ 64 := by
  simp only [PyData.depth, PyData.depthAll]
  decide
theorem psOf_le {ls : List Lt} (wf : ∀ o ∈ ls, Wf o) (hl : ls.length ≤ 200) : (psOf ls).length ≤ 20000 := by
  have h : ∀ ls : List Lt, (∀ o ∈ ls, Wf o) → (psOf ls).length ≤ ls.length * 100 := fun ls => by
    induction ls with
    | nil => exact fun _ => Nat.le_refl _
    | cons o ls ih =>
      intro w
      have h1 := (w o (List.mem_cons_self ..)).len
      have h2 := ih fun z hz => w z (List.mem_cons_of_mem _ hz)
      show (o.ps ++ psOf ls).length ≤ _
      rw [List.length_append, List.length_cons]
      omega
  have := h ls wf
  omega
theorem GrOk.get {qs : List (Str × Int)} {E : List (L2.Key × V)} (h : GrOk qs E) (m : Str) (z : Int) : ∃ j : Int, (valV E (Sum.inr m)).getD (.int z) = .int j := by
  rcases h m with ⟨e, _⟩ | ⟨c, e, _⟩
  · exact ⟨z, by rw [e]; rfl⟩
  · exact ⟨c, by rw [e]; rfl⟩
theorem GrOk.put {qs : List (Str × Int)} {E : List (L2.Key × V)} {p : Str × Int} {j : Int} (h : GrOk qs E) (hj : (valV E (Sum.inr p.1)).getD (.int p.2) = .int j) : GrOk (qs ++ [p]) (putK E (Sum.inr p.1) (.int (if j > p.2 then j else p.2))) := by
  intro m
  rw [valV_put]
  by_cases e : m = p.1
  · subst e
    refine .inr ⟨_, if_pos rfl, fun n => ?_⟩
    have hx : n ≤ (if j > p.2 then j else p.2) ↔ n ≤ j ∨ n ≤ p.2 := by
      split <;> omega
    rw [hx]
    rcases h p.1 with ⟨e1, e2⟩ | ⟨c, e1, e2⟩
    · have ej : j = p.2 := by
        rw [e1] at hj
        exact (V.int.inj hj).symm
      refine ⟨fun z => ⟨p, List.mem_append_right _ (List.mem_singleton.mpr rfl), rfl, by omega⟩, fun ⟨q, hq, eq, z⟩ => ?_⟩
      rcases List.mem_append.mp hq with hq | hq
      · exact absurd eq (e2 q hq)
      · rw [List.mem_singleton.mp hq] at z
        exact .inr z
    · have ej : j = c := by
        rw [e1] at hj
        exact (V.int.inj hj).symm
      rw [ej, e2 n]
      refine ⟨fun z => ?_, fun ⟨q, hq, eq, z⟩ => ?_⟩
      · rcases z with ⟨q, hq, eq, z⟩ | z
        · exact ⟨q, List.mem_append_left _ hq, eq, z⟩
        · exact ⟨p, List.mem_append_right _ (List.mem_singleton.mpr rfl), rfl, z⟩
      · rcases List.mem_append.mp hq with hq | hq
        · exact .inl ⟨q, hq, eq, z⟩
        · rw [List.mem_singleton.mp hq] at z
          exact .inr z
  · have e' : ¬ (Sum.inr m : L2.Key) = Sum.inr p.1 := fun z => e (Sum.inr.inj z)
    rw [if_neg e']
    rcases h m with ⟨e1, e2⟩ | ⟨c, e1, e2⟩
    · refine .inl ⟨e1, fun q hq => ?_⟩
      rcases List.mem_append.mp hq with hq | hq
      · exact e2 q hq
      · rw [List.mem_singleton.mp hq]
        exact fun z => e z.symm
    · refine .inr ⟨c, e1, fun n => ?_⟩
      rw [e2 n]
      refine ⟨fun ⟨q, hq, z⟩ => ⟨q, List.mem_append_left _ hq, z⟩, fun ⟨q, hq, eq, z⟩ => ?_⟩
      rcases List.mem_append.mp hq with hq | hq
      · exact ⟨q, hq, eq, z⟩
      · rw [List.mem_singleton.mp hq] at eq
        exact absurd eq.symm e
theorem IntD.put {E : List (L2.Key × V)} (h : IntD E) (k : L2.Key) (c : Int) : IntD (putK E k (.int c)) := fun m => by
  rw [valV_put]
  split
  · exact ⟨c, rfl⟩
  · exact h m
theorem RefOk.put {ls : List Lt} {E : List (List L2.Key × V)} {L : Lt} (h : RefOk ls E) : RefOk (ls ++ [L]) (putK E [Sum.inr L.a, Sum.inl L.n] (.bl true)) := fun a n => by
  rw [valV_put, List.any_append, ← h a n]
  by_cases e : L.a = a ∧ L.n = n
  · obtain ⟨rfl, rfl⟩ := e
    rw [if_pos rfl]
    simp
  · rw [if_neg (fun z => e (by
      injection z with z1 z2
      injection z2 with z2 _
      exact ⟨(Sum.inr.inj z1).symm, (Sum.inl.inj z2).symm⟩))]
    simp [e]
theorem NumOk.put {ls : List Lt} {E : List (L2.Key × V)} {L : Lt} (h : NumOk ls E) : NumOk (ls ++ [L]) (putK E (Sum.inr L.a) (.int L.n)) := fun a => by
  rw [valV_put, lastN_app]
  by_cases e : L.a = a
  · subst e
    rw [if_pos rfl, if_pos rfl]
    rfl
  · rw [if_neg (fun z => e (Sum.inr.inj z).symm), if_neg e]
    exact h a
/-- the greatest counts tell who has seen it -/
theorem cnt_ge {ps : List (Str × Int)} (nd : (ps.map (·.1)).Nodup) {m : Str} {n : Int} (h1 : 1 ≤ n) : n ≤ cnt ps m ↔ ∃ p ∈ ps, p.1 = m ∧ n ≤ p.2 := by
  unfold cnt
  cases hf : ps.find? (fun p => decide (p.1 = m)) with
  | none =>
    refine ⟨fun h => by simp only at h; omega, fun ⟨p, hp, e, _⟩ => ?_⟩
    have := List.find?_eq_none.mp hf p hp
    exact absurd (decide_eq_true e) this
  | some q =>
    have hq := List.mem_of_find?_eq_some hf
    have eq : q.1 = m := of_decide_eq_true (p := q.1 = m) (List.find?_some (p := fun p : Str × Int => decide (p.1 = m)) hf)
    refine ⟨fun h => ⟨q, hq, eq, h⟩, fun ⟨p, hp, e, h⟩ => ?_⟩
    have : p = q := by
      obtain ⟨i, hi⟩ := List.mem_iff_getElem?.mp hp
      obtain ⟨j, hj⟩ := List.mem_iff_getElem?.mp hq
      have e1 : (ps.map (·.1))[i]? = some m := by rw [List.getElem?_map, hi]; exact congrArg some e
      have e2 : (ps.map (·.1))[j]? = some m := by rw [List.getElem?_map, hj]; exact congrArg some eq
      have hil : i < (ps.map (·.1)).length := (List.getElem?_eq_some_iff.mp e1).1
      have := (List.getElem?_inj hil nd).mp (e1.trans e2.symm)
      subst this
      exact Option.some.inj (hi.symm.trans hj)
    rw [this] at h
    exact h
theorem behB_iff {ls : List Lt} (wf : ∀ o ∈ ls, Wf o) {L : Lt} (h1 : 1 ≤ L.n) : behB ls L = true ↔ ∃ p ∈ psOf ls, p.1 = L.a ∧ L.n ≤ p.2 := by
  unfold behB psOf
  rw [List.any_eq_true]
  refine ⟨fun ⟨o, ho, h⟩ => ?_, fun ⟨p, hp, e, h⟩ => ?_⟩
  · obtain ⟨p, hp, e, h⟩ := (cnt_ge (wf o ho).nd h1).mp (of_decide_eq_true h)
    exact ⟨p, List.mem_flatMap.mpr ⟨o, ho, hp⟩, e, h⟩
  · obtain ⟨o, ho, hp⟩ := List.mem_flatMap.mp hp
    exact ⟨o, ho, decide_eq_true ((cnt_ge (wf o ho).nd h1).mpr ⟨p, hp, e, h⟩)⟩
/-- Reading__is_seen: slots 0:self 1:letter 2:name -/
def t_Reading__is_seen (K : PySem.W.Frag) (C_Letter : Addr) (C_Reading : Addr) : TS := (tSeq (tAsg (tFld K (tVar 1) "author") (gName 2))
  (tSeq (tIfS (tAnd (tB (tDIn (tVar 2) (tFld K (tVar 0) "_greatest"))) (tTest (tOp qGe (tDGet (tFld K (tVar 0) "_greatest") (tVar 2)) (tFld K (tVar 1) "number")))) (tRet (tC (.bl true))) tNext)
  (tRet (tAndV (tOp qLt (tDGet2 (tFld K (tVar 0) "_many_with") (tVar 2) (tC (.int 0))) (tFld K (tVar 0) "_many")) (tOp qLe (tFld K (tVar 1) "number") (tC (.int 0)))))))
theorem l_Reading__is_seen (h : spRSeen K CL C vs H Q E) : vs.length = 2 := by obtain ⟨R, ls, x, L, rfl, _⟩ := h; rfl
theorem r_Reading__is_seen (LCL : IsC_Letter K CL) (LC : IsC_Reading K C) (h : spRSeen K CL C vs H Q E) : t_Reading__is_seen K CL C { nx := fun _ H' => Q .non H', rt := Q } (start ["self", "letter", "name"] vs) H := by
  obtain ⟨R, ls, x, L, rfl, ⟨kv, m, E1, E2, E3, E4, h⟩, wf, ⟨dx, d, sv, bv, hx, _, hd, _⟩, wL, q⟩ := h
  have hb := behB_iff wf wL.n1 (L := L)
  have q0 : behB ls L = false → Q (.bl false) H := fun e => by rw [e] at q; exact q
  have q1 : behB ls L = true → Q (.bl true) H := fun e => by rw [e] at q; exact q
  unfold t_Reading__is_seen
  refine w_seq (w_asg (w_fldV rfl hx LCL.cl LCL.n_author lfs_author (w_name ?_)))
  walk_at "b"
  refine (w_ifCut (Mid := fun σ' H' => σ' = [some (.ref R.r), some (.ref x), some (.str L.a)] ∧ H' = H ∧ behB ls L = false) ?_ ?_)
  · rintro σ' H' ⟨rfl, rfl, b0⟩
    walk_at "w"
    refine w_dget2 (w_fldV rfl h.hr LC.cl LC.n_many_with rfl ⟨R.d4, rfl, .inl ⟨_, .inl h.h4⟩, ?_⟩)
    walk_at "w"
    refine ⟨_, DGet.k (k := Sum.inr L.a) h.h4, ?_⟩
    obtain ⟨c, hc⟩ := h.ok4 L.a
    rw [hc]
    refine w_fldV rfl h.hr LC.cl LC.n_many rfl ?_
    walk_at "w"
    refine w_ite (fun _ => ?_) (fun _ => q0 b0)
    walk_at "w"
    refine w_fldV rfl hx LCL.cl LCL.n_number lfs_number ?_
    walk_at "w"
    rw [decide_eq_false (show ¬ L.n ≤ 0 by have := wL.n1; omega)]
    exact q0 b0
  · intro Rk hRk
    refine w_ifS (w_and (w_B (w_din (w_var rfl (w_fldV rfl h.hr LC.cl LC.n_greatest rfl ⟨R.d3, _, rfl, DGet.k (k := Sum.inr L.a) h.h3, w_exb ?_⟩)))))
    rcases h.ok3 L.a with ⟨hn, hq⟩ | ⟨c, hc, hq⟩
    · refine ite_f (by rw [hn]; decide) (ite_f (by decide) (w_next (hRk _ _ ⟨rfl, rfl, ?_⟩)))
      rw [Bool.eq_false_iff]
      intro e
      obtain ⟨p, hp, e1, _⟩ := hb.mp e
      exact hq p hp e1
    · refine ite_t (by rw [hc]; rfl) ?_
      walk_at "w"
      refine w_dget (w_fldV rfl h.hr LC.cl LC.n_greatest rfl (w_var rfl ⟨R.d3, _, rfl, by rw [← hc]; exact DGet.k (k := Sum.inr L.a) h.h3, ?_⟩))
      refine w_fldV rfl hx LCL.cl LCL.n_number lfs_number ?_
      walk_at "w"
      refine w_ite (fun c1 => ?_) (fun c1 => ?_)
      · walk_at "w"
        exact q1 (hb.mpr ((hq L.n).mp c1))
      · walk_at "w"
        refine hRk _ _ ⟨rfl, rfl, ?_⟩
        rw [Bool.eq_false_iff]
        intro e
        exact c1 ((hq L.n).mpr (hb.mp e))
/-- Reading___init__: slots 0:self -/
def t_Reading___init__ (K : PySem.W.Frag) (C_Reading : Addr) : TS := (tSeq (sFld K (tVar 0) tDNewT "_refs")
  (tSeq (sFld K (tVar 0) (tC .non) "_key")
  (tSeq (sFld K (tVar 0) tDNewK "_numbers")
  (tSeq (sFld K (tVar 0) tDNewK "_greatest")
  (tSeq (sFld K (tVar 0) tDNewK "_many_with")
  (sFld K (tVar 0) (tC (.int 0)) "_many"))))))
theorem l_Reading___init__ (h : spRInit K C vs H Q E) : vs.length = 1 := by obtain ⟨x, dx, rfl, _⟩ := h; rfl
theorem r_Reading___init__ (LC : IsC_Reading K C) (h : spRInit K C vs H Q E) : t_Reading___init__ K C { nx := fun _ H' => Q .non H', rt := Q } (start ["self"] vs) H := by
  obtain ⟨x, dx, rfl, hx, q⟩ := h
  unfold t_Reading___init__
  refine w_seq (w_sfld (w_dnewT fun d1 H1 f1 s1 e1 => w_var rfl (sfldV (s1 _ _ hx) LC.cl LC.n_refs (show 0 < 1000 by decide) fun G1 k1 g1 => ?_)))
  have m1 : Kp x H G1 := (Same.kp s1).trans k1
  have n1 : d1 ≠ x := (ne_of_none hx f1).symm
  have a1 : G1 d1 = some (.dT []) := k1 _ _ n1 e1
  refine w_seq (w_sfld (w_c (w_var rfl (sfldV g1 LC.cl LC.n_key (show 1 < 1000 by decide) fun G2 k2 g2 => ?_))))
  have m2 : Kp x H G2 := m1.trans k2
  have a2 := k2 _ _ n1 a1
  refine w_seq (w_sfld (w_dnewK fun d2 H3 f2 s3 e2 => w_var rfl (sfldV (s3 _ _ g2) LC.cl LC.n_numbers (show 2 < 1000 by decide) fun G3 k3 g3 => ?_)))
  have n2 : d2 ≠ x := (ne_of_none g2 f2).symm
  have m3 : Kp x H G3 := (m2.trans (Same.kp s3)).trans k3
  have a3 := k3 _ _ n1 (s3 _ _ a2)
  have b3 : G3 d2 = some (.dK []) := k3 _ _ n2 e2
  refine w_seq (w_sfld (w_dnewK fun d3 H4 f3 s4 e3 => w_var rfl (sfldV (s4 _ _ g3) LC.cl LC.n_greatest (show 3 < 1000 by decide) fun G4 k4 g4 => ?_)))
  have n3 : d3 ≠ x := (ne_of_none g3 f3).symm
  have m4 : Kp x H G4 := (m3.trans (Same.kp s4)).trans k4
  have a4 := k4 _ _ n1 (s4 _ _ a3)
  have b4 := k4 _ _ n2 (s4 _ _ b3)
  have c4 : G4 d3 = some (.dK []) := k4 _ _ n3 e3
  refine w_seq (w_sfld (w_dnewK fun d4 H5 f4 s5 e4 => w_var rfl (sfldV (s5 _ _ g4) LC.cl LC.n_many_with (show 4 < 1000 by decide) fun G5 k5 g5 => ?_)))
  have n4 : d4 ≠ x := (ne_of_none g4 f4).symm
  have m5 : Kp x H G5 := (m4.trans (Same.kp s5)).trans k5
  refine w_sfld (w_c (w_var rfl (sfldV g5 LC.cl LC.n_many (show 5 < 1000 by decide) fun G6 k6 g6 => ?_)))
  refine q G6 ⟨x, dx, d1, d2, d3, d4⟩ rfl f1 (m2.free n2 f2) (m3.free n3 f3) (m4.free n4 f4) (m5.trans k6) ⟨.non, 0, [], [], [], [], ?_⟩
  exact ⟨g6, k6 _ _ n1 (k5 _ _ n1 (s5 _ _ a4)), k6 _ _ n2 (k5 _ _ n2 (s5 _ _ b4)), k6 _ _ n3 (k5 _ _ n3 (s5 _ _ c4)), k6 _ _ n4 (k5 _ _ n4 e4), ne_of_none b3 f3, ne_of_none b4 f4, ne_of_none c4 f4, .inl ⟨rfl, rfl⟩,
    fun _ _ => rfl, Nat.le_refl _, fun _ => rfl, Nat.le_refl _, fun _ => .inl ⟨rfl, fun p hp => nomatch hp⟩, Nat.le_refl _, fun _ => ⟨0, rfl⟩, Nat.le_refl _⟩
/-- Reading_fault_of: slots 0:self 1:letter -/
def t_Reading_fault_of (K : PySem.W.Frag) (C_Letter : Addr) (C_Reading : Addr) : TS := (tSeq (tIfS (tB (tDIn (tProp C_Letter (spRefP K C_Letter) [] C8.E0 (tVar 1)) (tFld K (tVar 0) "_refs"))) (tRet (tC (.str "twice"))) tNext)
  (tSeq (tIfS (tTest (tOp rNe (tFld K (tVar 1) "number") (tOp qAdd (tDGet2 (tFld K (tVar 0) "_numbers") (tFld K (tVar 1) "author") (tC (.int 0))) (tC (.int 1))))) (tRet (tC (.str "gap"))) tNext)
  (tSeq (tIfS (tAnd (tTest (tOp qNotN (tFld K (tVar 0) "_key") (tC .non))) (tTest (tOp (Wp.rLeD K) (tProp C_Letter (spKeyP K C_Letter) [] C8.E0 (tVar 1)) (tFld K (tVar 0) "_key")))) (tRet (tC (.str "order"))) tNext)
  (tSeq (tIfS (tB (tMeth C_Reading "_is_seen" (spRSeen K C_Letter C_Reading) [] C8.E0 (tVar 0) (tCons (tVar 1) tNil))) (tRet (tC (.str "behind"))) tNext)
  (tRet (tC .non))))))
theorem l_Reading_fault_of (h : spFault K CL C vs H Q E) : vs.length = 2 := by obtain ⟨R, ls, x, L, rfl, _⟩ := h; rfl
theorem r_Reading_fault_of (LCL : IsC_Letter K CL) (LC : IsC_Reading K C) (h : spFault K CL C vs H Q E) : t_Reading_fault_of K CL C { nx := fun _ H' => Q .non H', rt := Q } (start ["self", "letter"] vs) H := by
  obtain ⟨R, ls, x, L, rfl, hR, wf, hL, wL, q⟩ := h
  have hR' := hR
  have hL' := hL
  obtain ⟨kv, m, E1, E2, E3, E4, h⟩ := hR
  obtain ⟨dx, d, sv, bv, hx, _, hd, _⟩ := hL
  have ht := h.ok1 L.a L.n
  unfold t_Reading_fault_of
  refine w_seq (w_ifS (w_B (w_din (w_propV rfl hx ⟨x, L, rfl, hL', fun t H1 ht1 s1 e1 => ?_⟩))))
  refine w_fldV rfl (s1 _ _ h.hr) LC.cl LC.n_refs rfl ⟨R.d1, _, rfl, DGet.t (k := [Sum.inr L.a, Sum.inl L.n]) (s1 _ _ h.h1) e1, w_exb ?_⟩
  rw [ht]
  by_cases c1 : twiceB ls L = true
  · refine ite_t c1 ?_
    walk_at "w"
    have := q H1 s1
    rw [show fault ls L = some (Str.ofString "twice") from if_pos c1] at this
    exact this
  refine ite_f c1 (w_next ?_)
  refine w_seq (w_ifS (w_test (w_op (w_fldV rfl (s1 _ _ hx) LCL.cl LCL.n_number lfs_number (w_op ?_)))))
  refine w_dget2 (w_fldV rfl (s1 _ _ h.hr) LC.cl LC.n_numbers rfl ⟨R.d2, rfl, .inl ⟨_, .inl (s1 _ _ h.h2)⟩, w_fldV rfl (s1 _ _ hx) LCL.cl LCL.n_author lfs_author (w_c ⟨_, DGet.k (k := Sum.inr L.a) (s1 _ _ h.h2), ?_⟩)⟩)
  rw [h.ok2 L.a]
  walk_at "w"
  refine w_ite (fun c2 => ?_) (fun c2 => ?_)
  · walk_at "w"
    have := q H1 s1
    rw [show fault ls L = some (Str.ofString "gap") by unfold fault; rw [if_neg c1, if_pos (show gapB ls L = true from decide_eq_true c2)]] at this
    exact this
  have c2' : ¬ gapB ls L = true := fun e => c2 (of_decide_eq_true e)
  walk_at "b"
  refine w_ifCut (Mid := fun σ' H' => σ' = [some (.ref R.r), some (.ref x)] ∧ Same H H' ∧ ¬ ordB ls L = true) ?_ ?_
  · rintro σ' H2 ⟨rfl, s2, c3⟩
    refine w_seq (w_ifS (w_B (w_methV rfl (s2 _ _ h.hr) rfl ?_)))
    walk_at "w"
    refine ⟨R, ls, x, L, rfl, hR'.same s2, wf, hL'.same s2, wL, w_exb ?_⟩
    by_cases c4 : behB ls L = true
    · refine ite_t c4 ?_
      walk_at "w"
      have := q H2 s2
      rw [show fault ls L = some (Str.ofString "behind") by unfold fault; rw [if_neg c1, if_neg c2', if_neg c3, if_pos c4]] at this
      exact this
    · refine ite_f c4 (w_next ?_)
      walk_at "w"
      have := q H2 s2
      rw [show fault ls L = none by unfold fault; rw [if_neg c1, if_neg c2', if_neg c3, if_neg c4]] at this
      exact this
  · intro Rk hRk
    refine w_ifS (w_and (w_test (w_op (w_fldV rfl (s1 _ _ h.hr) LC.cl LC.n_key rfl (w_c (w_notN (w_exb ?_)))))))
    rcases h.key with ⟨e0, rfl⟩ | ⟨o, t2, e0, rfl, e3⟩
    · refine ite_f (by decide) (ite_f (by decide) (w_next (hRk _ _ ⟨rfl, s1, ?_⟩)))
      unfold ordB
      rw [e0]
      exact Bool.false_ne_true
    · refine ite_t rfl ?_
      refine w_test (w_op (w_propV rfl (s1 _ _ hx) ⟨x, L, rfl, hL'.same s1, fun t3 H3 ht3 s3 e4 => ?_⟩))
      refine w_fldV rfl (s3 _ _ (s1 _ _ h.hr)) LC.cl LC.n_key rfl (w_leD (ok := Any) (ok2 := Any) (d := keyD L) (e := keyD o) (dn_key e4 trivial) (dn_key (s3 _ _ (s1 _ _ e3)) trivial) rfl rfl rfl (fun e => nomatch e) (key_depth _ _) (w_exb ?_))
      have eo : ordB ls L = !PySem.W.dataLt (keyD o) (keyD L) := by
        unfold ordB
        rw [e0]
      rw [← eo]
      by_cases c3 : ordB ls L = true
      · refine ite_t c3 ?_
        walk_at "w"
        have := q H3 (s1.trans s3)
        rw [show fault ls L = some (Str.ofString "order") by unfold fault; rw [if_neg c1, if_neg c2', if_pos c3]] at this
        exact this
      · exact ite_f c3 (w_next (hRk _ _ ⟨rfl, s1.trans s3, c3⟩))
/-- Reading_take: slots 0:self 1:letter 2:name 3:count -/
def t_Reading_take (K : PySem.W.Frag) (C_Reading : Addr) (C_Letter : Addr) : TS := (tSeq (sDPut (tFld K (tVar 0) "_refs") (tProp C_Letter (spRefP K C_Letter) [] C8.E0 (tVar 1)) (tC (.bl true)))
  (tSeq (sFld K (tVar 0) (tProp C_Letter (spKeyP K C_Letter) [] C8.E0 (tVar 1)) "_key")
  (tSeq (sDPut (tFld K (tVar 0) "_numbers") (tFld K (tVar 1) "author") (tFld K (tVar 1) "number"))
  (tSeq (tFor (iTup K (tFld K (tVar 1) "seen")) (gTup K 2 (gCons (gName 2) (gCons (gName 3) gNil))) (tSeq (sDPut (tFld K (tVar 0) "_greatest") (tVar 2) (tCB qMax2 (tCons (tVar 3) (tCons (tDGet2 (tFld K (tVar 0) "_greatest") (tVar 2) (tVar 3)) tNil))))
  (sDPut (tFld K (tVar 0) "_many_with") (tVar 2) (tOp qAdd (tDGet2 (tFld K (tVar 0) "_many_with") (tVar 2) (tC (.int 0))) (tC (.int 1))))))
  (sFldAug K (tVar 0) (tC (.int 1)) rAdd "_many")))))
theorem l_Reading_take (h : spTake K CL C vs H Q E) : vs.length = 2 := by obtain ⟨R, ls, x, L, rfl, _⟩ := h; rfl
theorem r_Reading_take (LC : IsC_Reading K C) (LCL : IsC_Letter K CL) (h : spTake K CL C vs H Q E) : t_Reading_take K C CL { nx := fun _ H' => Q .non H', rt := Q } (start ["self", "letter", "name", "count"] vs) H := by
  obtain ⟨R, ls, x, L, rfl, hR, wf, hl, hL, nxr, wL, q⟩ := h
  have hL' := hL
  obtain ⟨kv, m, E1, E2, E3, E4, h⟩ := hR
  obtain ⟨dx, d, sv, bv, hx, _, hd, hsv, _⟩ := hL
  have hpl : (psOf ls).length ≤ 20000 := psOf_le wf hl
  unfold t_Reading_take
  -- the refs
  refine w_seq (w_dput (w_c (w_fldV rfl h.hr LC.cl LC.n_refs rfl (w_propV rfl hx ⟨x, L, rfl, hL', fun t H1 ht1 s1 e1 => ?_⟩))))
  refine dputT (k := [Sum.inr L.a, Sum.inl L.n]) (s1 _ _ h.h1) e1 (by have := h.l1; omega) fun G1 k1 g1 => ?_
  have r1 : G1 R.r = some (.ins C R.dx (fsR R.d1 kv R.d2 R.d3 R.d4 m)) := k1 _ _ (ne_kind (s1 _ _ h.hr) (s1 _ _ h.h1) fun e => by cases e) (s1 _ _ h.hr)
  have x1 := k1 _ _ (ne_kind (s1 _ _ hx) (s1 _ _ h.h1) fun e => by cases e) (s1 _ _ hx)
  have a12 := k1 _ _ (ne_kind (s1 _ _ h.h2) (s1 _ _ h.h1) fun e => by cases e) (s1 _ _ h.h2)
  have a13 := k1 _ _ (ne_kind (s1 _ _ h.h3) (s1 _ _ h.h1) fun e => by cases e) (s1 _ _ h.h3)
  have a14 := k1 _ _ (ne_kind (s1 _ _ h.h4) (s1 _ _ h.h1) fun e => by cases e) (s1 _ _ h.h4)
  have t1 : Tk H G1 := (Tk.same s1).trans (Tk.kp k1 (s1 _ _ h.h1) fun xs e => by cases e)
  have p1 : KpR R H G1 := fun b o _ n1 _ _ _ e => k1 _ _ n1 (s1 _ _ e)
  have L1 : LtAt Any CL G1 x L := (hL'.same s1).fm wL (Fm.kpK k1 (s1 _ _ h.h1) (fun xs e => by cases e) (fun _ _ _ e => by cases e) fun _ e => by cases e)
  -- the key
  refine w_seq (w_sfld (w_propV rfl x1 ⟨x, L, rfl, L1, fun t2 H2 ht2 s2 e2 => w_var rfl (sfldV (s2 _ _ r1) LC.cl LC.n_key (show 6 < 1000 by decide) fun G2 k2 g2 => ?_)⟩))
  have r2 : G2 R.r = some (.ins C R.dx (fsR R.d1 (.ref t2) R.d2 R.d3 R.d4 m)) := g2
  have x2 := k2 _ _ nxr (s2 _ _ x1)
  have ne2 : ∀ {b : Addr} {o : HO}, G1 b = some o → (∀ C dx fs, o ≠ .ins C dx fs) → G2 b = some o := fun {b o} e n => k2 _ _ (ne_kind (s2 _ _ e) (s2 _ _ r1) fun z => n _ _ _ z) (s2 _ _ e)
  have a21 := ne2 g1 fun _ _ _ e => by cases e
  have a22 := ne2 a12 fun _ _ _ e => by cases e
  have a23 := ne2 a13 fun _ _ _ e => by cases e
  have a24 := ne2 a14 fun _ _ _ e => by cases e
  have e2' : G2 t2 = some (.tup [.int L.s, .str L.a]) := k2 _ _ (ne_kind e2 (s2 _ _ r1) fun z => by cases z) e2
  have t2' : Tk H G2 := (t1.trans (Tk.same s2)).trans (Tk.kp k2 (s2 _ _ r1) fun xs e => by cases e)
  have p2 : KpR R H G2 := fun b o n0 n1 n2 n3 n4 e => k2 _ _ n0 (s2 _ _ (p1 b o n0 n1 n2 n3 n4 e))
  -- the numbers
  refine w_seq (w_dput (w_fldV rfl x2 LCL.cl LCL.n_number lfs_number (w_fldV rfl r2 LC.cl LC.n_numbers rfl (w_fldV rfl x2 LCL.cl LCL.n_author lfs_author (dputK (k := Sum.inr L.a) a22 (by have := h.l2; omega) fun G3 k3 g3 => ?_)))))
  have ne3 : ∀ {b : Addr} {o : HO}, G2 b = some o → (∀ kvs, o ≠ .dK kvs) → G3 b = some o := fun {b o} e n => k3 _ _ (ne_kind e a22 fun z => n _ z) e
  have r3 := ne3 r2 fun _ e => by cases e
  have x3 := ne3 x2 fun _ e => by cases e
  have a31 := ne3 a21 fun _ e => by cases e
  have e3' := ne3 e2' fun _ e => by cases e
  have a33 := k3 _ _ h.n23.symm a23
  have a34 := k3 _ _ h.n24.symm a24
  have t3 : Tk H G3 := t2'.trans (Tk.kp k3 a22 fun xs e => by cases e)
  have p3 : KpR R H G3 := fun b o n0 n1 n2 n3 n4 e => k3 _ _ n2 (p2 b o n0 n1 n2 n3 n4 e)
  -- what it has seen
  cases hsv with
  | @tup ta xs _ _ hta hxs =>
    have hta3 := t3 _ _ hta
    have hxs3 : DnAll Any G3 xs (L.ps.map pairD) := dnall_tk t3 (by have := plain_seen L.ps; unfold seenD at this; rw [plainB] at this; exact this) hxs
    have hxl : xs.length = L.ps.length := by rw [hxs.len, List.length_map]
    with_reducible refine w_seq ?_
    refine w_for (w_iTup (w_fldV rfl x3 LCL.cl LCL.n_seen lfs_seen ⟨ta, rfl, ⟨_, SqT.of hta3⟩, ?_⟩))
    refine for_it (walk_tup (xs := xs)) (fun i σ G => (∃ u2 u3, σ = [some (.ref R.r), some (.ref x), u2, u3]) ∧ (∀ b o, b ≠ R.d3 → b ≠ R.d4 → G3 b = some o → G b = some o) ∧ ∃ F3 F4, G R.d3 = some (.dK F3) ∧ G R.d4 = some (.dK F4) ∧
      GrOk (psOf ls ++ L.ps.take i) F3 ∧ F3.length ≤ (psOf ls).length + i ∧ IntD F4 ∧ F4.length ≤ (psOf ls).length + i) ?_ ?_ ?_ ?_
    · exact ⟨⟨_, _, rfl⟩, fun _ _ _ _ e => e, E3, E4, a33, a34, by rw [List.take_zero, List.append_nil]; exact h.ok3, h.l3, h.ok4, h.l4⟩
    · intro i σ G _ ⟨_, k, _⟩
      exact SqT.of (k _ _ (ne_kind hta3 a33 fun z => by cases z) (ne_kind hta3 a34 fun z => by cases z) hta3)
    · rintro i v σ G G' hi ⟨⟨u2, u3, rfl⟩, k, F3, F4, f3, f4, o3, l3, o4, l4⟩ ⟨rfl, hv⟩
      obtain ⟨p, t5, ep, rfl, et5⟩ := pairs_at hxs3 i v hv
      have et5' := k _ _ (ne_kind et5 a33 fun z => by cases z) (ne_kind et5 a34 fun z => by cases z) et5
      have rG := k _ _ (ne_kind r3 a33 fun z => by cases z) (ne_kind r3 a34 fun z => by cases z) r3
      have hil : i < 100 := by
        have := wL.len
        omega
      refine ⟨t5, _, rfl, SqT.of et5', rfl, gc (w_name (gc (w_name (gn ?_))))⟩
      with_reducible refine w_seq ?_
      obtain ⟨j, hj⟩ := o3.get p.1 p.2
      refine w_dput (w_cb (w_cons (w_var rfl (w_cons (w_dget2 (w_fldV rfl rG LC.cl LC.n_greatest rfl ⟨R.d3, rfl, .inl ⟨_, .inl f3⟩, w_var rfl (w_var rfl ⟨_, DGet.k (k := Sum.inr p.1) f3, ?_⟩)⟩))))))
      rw [hj]
      refine w_nil (w_max2 (w_fldV rfl rG LC.cl LC.n_greatest rfl (w_var rfl (dputK (k := Sum.inr p.1) f3 (by omega) fun G5 k5 g5 => ?_))))
      have rG5 := k5 _ _ (ne_kind rG f3 fun z => by cases z) rG
      have f45 := k5 _ _ h.n34.symm f4
      obtain ⟨c4, hc4⟩ := o4 p.1
      with_reducible refine w_dput ?_
      refine w_op (w_dget2 (w_fldV rfl rG5 LC.cl LC.n_many_with rfl ⟨R.d4, rfl, .inl ⟨_, .inl f45⟩, w_var rfl (w_c ⟨_, DGet.k (k := Sum.inr p.1) f45, ?_⟩)⟩))
      rw [hc4]
      refine w_c (w_I0 (w_fldV rfl rG5 LC.cl LC.n_many_with rfl (w_var rfl (dputK (k := Sum.inr p.1) f45 (by omega) fun G6 k6 g6 => ?_))))
      refine ⟨⟨_, _, rfl⟩, fun b o n3 n4 e => k6 _ _ n4 (k5 _ _ n3 (k _ _ n3 n4 e)), _, _, k6 _ _ h.n34 g5, g6, ?_, ?_, o4.put _ _, ?_⟩
      · rw [List.take_add_one, ep, ← List.append_assoc]
        exact o3.put hj
      · have := length_putK F3 (Sum.inr p.1) (.int (if j > p.2 then j else p.2))
        omega
      · have := length_putK F4 (Sum.inr p.1) (.int (c4 + 1))
        omega
    · rintro σ G ⟨⟨u2, u3, rfl⟩, k, F3, F4, f3, f4, o3, l3, o4, l4⟩
      have rG := k _ _ (ne_kind r3 a33 fun z => by cases z) (ne_kind r3 a34 fun z => by cases z) r3
      rw [hxl, List.take_length] at o3
      rw [hxl] at l3 l4
      have eps : psOf (ls ++ [L]) = psOf ls ++ L.ps := by
        unfold psOf
        rw [List.flatMap_append]
        simp
      have neG : ∀ {b : Addr} {o : HO}, b ≠ R.d3 → b ≠ R.d4 → G3 b = some o → (∀ C dx fs, o ≠ .ins C dx fs) → ∀ u, upd G R.r u b = some o := fun {b o} n3 n4 e n u => by
        have e' := k _ _ n3 n4 e
        rw [upd_ne (ne_kind e' rG fun z => n _ _ _ z)]
        exact e'
      have ne3' : ∀ {b : Addr} {kvs : List (L2.Key × V)} , G b = some (.dK kvs) → ∀ u, upd G R.r u b = some (.dK kvs) := fun {b kvs} e u => by
        rw [upd_ne (ne_kind e rG fun z => by cases z)]
        exact e
      with_reducible refine w_sfldAug ?_
      refine w_var rfl ⟨R.r, C, R.dx, _, .int m, rfl, rG, LC.cl, LC.n_many, rfl, w_c ⟨m, 1, rfl, rfl, R.dx, _, rG, (show 6 < 1000 by decide), ?_⟩⟩
      refine q _ (fun b o n0 n1 n2 n3 n4 e => by rw [upd_ne n0]; exact k _ _ n3 n4 (p3 b o n0 n1 n2 n3 n4 e)) (fun b ys e => ?_) ⟨.ref t2, m + 1, putK E1 [Sum.inr L.a, Sum.inl L.n] (.bl true), putK E2 (Sum.inr L.a) (.int L.n), F3, F4, ?_⟩
      · have e' := t3 _ _ e
        exact neG (ne_kind e' a33 fun z => by cases z) (ne_kind e' a34 fun z => by cases z) e' (fun _ _ _ z => by cases z) _
      · refine ⟨upd_same, neG (ne_kind a31 a33 fun z => by cases z) (ne_kind a31 a34 fun z => by cases z) a31 (fun _ _ _ z => by cases z) _, neG h.n23 h.n24 g3 (fun _ _ _ z => by cases z) _, ne3' f3 _, ne3' f4 _, h.n23, h.n24, h.n34,
          .inr ⟨L, t2, by rw [List.getLast?_append]; rfl, rfl, neG (ne_kind e3' a33 fun z => by cases z) (ne_kind e3' a34 fun z => by cases z) e3' (fun _ _ _ z => by cases z) _⟩, h.ok1.put, ?_, h.ok2.put, ?_, by rw [eps]; exact o3, ?_, o4, ?_⟩
        · have := length_putK E1 [Sum.inr L.a, Sum.inl L.n] (.bl true)
          have := h.l1
          rw [List.length_append, List.length_singleton]
          omega
        · have := length_putK E2 (Sum.inr L.a) (.int L.n)
          have := h.l2
          rw [List.length_append, List.length_singleton]
          omega
        · rw [eps, List.length_append]
          exact l3
        · rw [eps, List.length_append]
          exact l4
end

/-! ### what an exam finds -/
def rowAt (hs : List (List Lt)) (i : Nat) : List Lt := hs.getD i []
def unlikeB (hs : List (List Lt)) (i j : Nat) (L : Lt) : Bool := (hs.take i).any fun row => match row[j]? with | some M => !PyData.eqv (valD M) (valD L) | none => false
def wordOf (hs : List (List Lt)) (i j : Nat) : Option Str := match (rowAt hs i)[j]? with
  | none => none
  | some L => match fault ((rowAt hs i).take j) L with
    | some w => some w
    | none => if unlikeB hs i j L = true then some (Str.ofString "unlike") else none
def findD (w : Str) (i j : Nat) : PyData := .tuple [.str w, .int i, .int j]
def cell (hs : List (List Lt)) (i j : Nat) : List PyData := match wordOf hs i j with | some w => [findD w i j] | none => []
def rowTo (hs : List (List Lt)) (i j : Nat) : List PyData := (List.range j).flatMap (cell hs i)
def dueTo (hs : List (List Lt)) (i : Nat) : List PyData := (List.range i).flatMap fun k => rowTo hs k (rowAt hs k).length
def dueL (hs : List (List Lt)) : List PyData := dueTo hs hs.length
theorem rowTo_succ (hs : List (List Lt)) (i j : Nat) : rowTo hs i (j + 1) = rowTo hs i j ++ cell hs i j := by
  unfold rowTo
  rw [List.range_succ, List.flatMap_append]
  simp
theorem dueTo_succ (hs : List (List Lt)) (i : Nat) : dueTo hs (i + 1) = dueTo hs i ++ rowTo hs i (rowAt hs i).length := by
  unfold dueTo
  rw [List.range_succ, List.flatMap_append]
  simp
theorem plain_find (w : Str) (i j : Nat) : plainB (findD w i j) = true := rfl
theorem plain_cell {hs : List (List Lt)} {i j : Nat} : ∀ d ∈ cell hs i j, plainB d = true := fun d hd => by
  unfold cell at hd
  split at hd
  · rw [List.mem_singleton.mp hd]
    rfl
  · exact nomatch hd
theorem plain_row {hs : List (List Lt)} {i j : Nat} : ∀ d ∈ rowTo hs i j, plainB d = true := fun d hd => by
  obtain ⟨k, _, h⟩ := List.mem_flatMap.mp hd
  exact plain_cell d h
theorem plain_due {hs : List (List Lt)} {i : Nat} : ∀ d ∈ dueTo hs i, plainB d = true := fun d hd => by
  obtain ⟨k, _, h⟩ := List.mem_flatMap.mp hd
  exact plain_row d h
theorem cell_len {hs : List (List Lt)} {i j : Nat} : (cell hs i j).length ≤ 1 := by
  unfold cell
  split
  · exact Nat.le_refl _
  · exact Nat.zero_le _
theorem rowTo_len {hs : List (List Lt)} {i : Nat} : ∀ j, (rowTo hs i j).length ≤ j
  | 0 => Nat.le_refl _
  | j + 1 => by
    rw [rowTo_succ, List.length_append]
    have := rowTo_len (hs := hs) (i := i) j
    have := cell_len (hs := hs) (i := i) (j := j)
    omega
theorem dueTo_len {hs : List (List Lt)} (h : ∀ row ∈ hs, row.length ≤ 200) : ∀ i, (dueTo hs i).length ≤ i * 200
  | 0 => Nat.le_refl _
  | i + 1 => by
    rw [dueTo_succ, List.length_append]
    have h1 := dueTo_len h i
    have h2 := rowTo_len (hs := hs) (i := i) (rowAt hs i).length
    have h3 : (rowAt hs i).length ≤ 200 := by
      unfold rowAt
      rw [List.getD_eq_getElem?_getD]
      cases e : hs[i]? with
      | none => exact Nat.zero_le _
      | some row => exact h row (List.mem_of_getElem? e)
    omega
/-- lists of letters -/
def hsL (zs : List (Addr × List (Addr × Lt))) : List (List Lt) := zs.map fun z => z.2.map (·.2)
structure HsAt (C : Addr) (H : Hp) (h : Addr) (zs : List (Addr × List (Addr × Lt))) : Prop where
  hh : H h = some (.lst (zs.map fun z => V.ref z.1))
  hz : ∀ z ∈ zs, H z.1 = some (.lst (lsV z.2)) ∧ LsOk Any C H z.2 ∧ z.2.length ≤ 100
  hn : zs.length ≤ 20
theorem HsAt.same {C h : Addr} {H H' : Hp} {zs : List (Addr × List (Addr × Lt))} (x : HsAt C H h zs) (s : Same H H') : HsAt C H' h zs :=
  ⟨s _ _ x.hh, fun z hz => ⟨s _ _ (x.hz z hz).1, (x.hz z hz).2.1.same s, (x.hz z hz).2.2⟩, x.hn⟩
theorem rowAt_hsL {zs : List (Addr × List (Addr × Lt))} {i : Nat} {z : Addr × List (Addr × Lt)} (e : zs[i]? = some z) : rowAt (hsL zs) i = z.2.map (·.2) := by
  unfold rowAt hsL
  rw [List.getD_eq_getElem?_getD, List.getElem?_map, e]
  rfl
theorem HsAt.rows {C h : Addr} {H : Hp} {zs : List (Addr × List (Addr × Lt))} (x : HsAt C H h zs) : ∀ row ∈ hsL zs, row.length ≤ 200 := fun row hr => by
  obtain ⟨z, hz, rfl⟩ := List.mem_map.mp hr
  rw [List.length_map]
  exact Nat.le_trans (x.hz z hz).2.2 (by decide)
theorem HsAt.wf {C h : Addr} {H : Hp} {zs : List (Addr × List (Addr × Lt))} (x : HsAt C H h zs) : ∀ row ∈ hsL zs, ∀ L ∈ row, Wf L := fun row hr L hL => by
  obtain ⟨z, hz, rfl⟩ := List.mem_map.mp hr
  obtain ⟨y, hy, rfl⟩ := List.mem_map.mp hL
  exact ((x.hz z hz).2.1 y hy).2
/-- u stands at the place q of the lists that were read -/
def stands (hs : List (List Lt)) (i j q : Nat) (u : Lt) : Prop := (∃ k, k < i ∧ (rowAt hs k)[q]? = some u) ∨ (q < j ∧ (rowAt hs i)[q]? = some u)
theorem stands_next {hs : List (List Lt)} {i q : Nat} {u : Lt} : stands hs (i + 1) 0 q u ↔ stands hs i (rowAt hs i).length q u := by
  unfold stands
  constructor
  · rintro (⟨k, hk, e⟩ | ⟨h, _⟩)
    · by_cases z : k < i
      · exact .inl ⟨k, z, e⟩
      · have : k = i := by omega
        subst this
        exact .inr ⟨(List.getElem?_eq_some_iff.mp e).1, e⟩
    · exact absurd h (by omega)
  · rintro (⟨k, hk, e⟩ | ⟨_, e⟩)
    · exact .inl ⟨k, by omega, e⟩
    · exact .inl ⟨i, by omega, e⟩
theorem stands_step {hs : List (List Lt)} {i j q : Nat} {u : Lt} : stands hs i (j + 1) q u ↔ stands hs i j q u ∨ (q = j ∧ (rowAt hs i)[j]? = some u) := by
  unfold stands
  constructor
  · rintro (h | ⟨h, e⟩)
    · exact .inl (.inl h)
    · by_cases z : q < j
      · exact .inl (.inr ⟨z, e⟩)
      · have : q = j := by omega
        subst this
        exact .inr ⟨rfl, e⟩
  · rintro ((h | ⟨h, e⟩) | ⟨rfl, e⟩)
    · exact .inl h
    · exact .inr ⟨by omega, e⟩
    · exact .inr ⟨by omega, e⟩
/-- the values at a place -/
def PlaceAt (G : Hp) (hs : List (List Lt)) (i j q : Nat) (v : Addr) : Prop := ∃ (xs : List V) (us : List Lt), G v = some (.lst xs) ∧ DnAll Any G xs (us.map valD) ∧ us.length ≤ i + (if q < j then 1 else 0) ∧ (∀ u ∈ us, stands hs i j q u) ∧ ∀ u, stands hs i j q u → ∃ u' ∈ us, valD u' = valD u
structure ExV (H0 G : Hp) (F W : Addr) (vals : List Addr) (hs : List (List Lt)) (i jf jv : Nat) : Prop where
  sm : Same H0 G
  f0 : H0 F = none
  w0 : H0 W = none
  fw : F ≠ W
  ff : ∃ fs, G F = some (.lst fs) ∧ DnAll Any G fs (dueTo hs i ++ rowTo hs i jf)
  ww : G W = some (.lst (vals.map V.ref))
  v0 : ∀ v ∈ vals, H0 v = none ∧ v ≠ F ∧ v ≠ W
  nd : vals.Nodup
  at_ : ∀ q v, vals[q]? = some v → PlaceAt G hs i jv q v
  no : ∀ q, vals.length ≤ q → ∀ u, ¬ stands hs i jv q u
  vl : jv ≤ vals.length
  vm : vals.length ≤ 100
theorem PlaceAt.wf {G : Hp} {hs : List (List Lt)} {i j q : Nat} {v : Addr} (h : PlaceAt G hs i j q v) (wf : ∀ row ∈ hs, ∀ L ∈ row, Wf L) : ∃ (xs : List V) (us : List Lt), G v = some (.lst xs) ∧ DnAll Any G xs (us.map valD) ∧ us.length ≤ i + (if q < j then 1 else 0) ∧ (∀ u ∈ us, stands hs i j q u) ∧ (∀ u, stands hs i j q u → ∃ u' ∈ us, valD u' = valD u) ∧ ∀ u ∈ us, Wf u := by
  obtain ⟨xs, us, h1, h2, h3, h5, h6⟩ := h
  refine ⟨xs, us, h1, h2, h3, h5, h6, fun u hu => ?_⟩
  have key : ∀ k, (rowAt hs k)[q]? = some u → Wf u := fun k e => by
    unfold rowAt at e
    rw [List.getD_eq_getElem?_getD] at e
    cases e2 : hs[k]? with
    | none =>
      rw [e2] at e
      exact nomatch e
    | some row =>
      rw [e2] at e
      exact wf row (List.mem_of_getElem? e2) u (List.mem_of_getElem? e)
  rcases h5 u hu with ⟨k, _, e⟩ | ⟨_, e⟩
  · exact key k e
  · exact key i e
theorem plain_vals {us : List Lt} (w : ∀ u ∈ us, Wf u) : plainAll (us.map valD) = true := plainAll_of fun d hd => by
  obtain ⟨u, hu, rfl⟩ := List.mem_map.mp hd
  exact (w u hu).plain
theorem plain_ff (hs : List (List Lt)) (i j : Nat) : plainAll (dueTo hs i ++ rowTo hs i j) = true := plainAll_of fun d hd => (List.mem_append.mp hd).elim (plain_due d) (plain_row d)
/-- all stays: lists that are held, and tuples -/
theorem ExV.move {H0 G G' : Hp} {F W : Addr} {vals : List Addr} {hs : List (List Lt)} {i jf jv : Nat} (x : ExV H0 G F W vals hs i jf jv) (wf : ∀ row ∈ hs, ∀ L ∈ row, Wf L) (sm : Same H0 G') (t : Tk G G') (l : ∀ b xs, G b = some (.lst xs) → G' b = some (.lst xs)) : ExV H0 G' F W vals hs i jf jv := by
  obtain ⟨fs, f1, f2⟩ := x.ff
  refine { x with sm := sm, ff := ⟨fs, l _ _ f1, dnall_tk t (plain_ff _ _ _) f2⟩, ww := l _ _ x.ww, at_ := fun q v hv => ?_ }
  obtain ⟨xs, us, h1, h2, h3, h5, h6, h7⟩ := (x.at_ q v hv).wf wf
  exact ⟨xs, us, l _ _ h1, dnall_tk t (plain_vals h7) h2, h3, h5, h6⟩
theorem ExV.same {H0 G G' : Hp} {F W : Addr} {vals : List Addr} {hs : List (List Lt)} {i jf jv : Nat} (x : ExV H0 G F W vals hs i jf jv) (wf : ∀ row ∈ hs, ∀ L ∈ row, Wf L) (s : Same G G') : ExV H0 G' F W vals hs i jf jv :=
  x.move wf (x.sm.trans s) (Tk.same s) fun b xs e => s b _ e
theorem ExV.findings {H0 G G' : Hp} {F W : Addr} {vals : List Addr} {hs : List (List Lt)} {i j jv : Nat} {fs : List V} {T : Addr} {w : Str} (x : ExV H0 G F W vals hs i j jv) (wf : ∀ row ∈ hs, ∀ L ∈ row, Wf L) (hf : G F = some (.lst fs)) (hd : DnAll Any G fs (dueTo hs i ++ rowTo hs i j))
    (hw : wordOf hs i j = some w) (hT : G T = some (.tup [.str w, .int i, .int j])) (k : Kp F G G') (e : G' F = some (.lst (fs ++ [V.ref T]))) : ExV H0 G' F W vals hs i (j + 1) jv := by
  have t : Tk G G' := Tk.kpL k hf
  refine { x with sm := Same.kp0 x.sm k x.f0, ff := ⟨_, e, ?_⟩, ww := k _ _ x.fw.symm x.ww, at_ := fun q v hv => ?_ }
  · rw [rowTo_succ, ← List.append_assoc]
    refine DnAll.app (dnall_tk t (plain_ff _ _ _) hd) ?_
    unfold cell
    rw [hw]
    exact .cons (.tup trivial (t _ _ hT) (.cons (.str _) (.cons (.int _) (.cons (.int _) .nil)))) .nil
  · obtain ⟨xs, us, h1, h2, h3, h5, h6, h7⟩ := (x.at_ q v hv).wf wf
    exact ⟨xs, us, k _ _ (x.v0 v (List.mem_of_getElem? hv)).2.1 h1, dnall_tk t (plain_vals h7) h2, h3, h5, h6⟩
theorem ExV.noFinding {H0 G : Hp} {F W : Addr} {vals : List Addr} {hs : List (List Lt)} {i j jv : Nat} (x : ExV H0 G F W vals hs i j jv) (hw : wordOf hs i j = none) : ExV H0 G F W vals hs i (j + 1) jv := by
  obtain ⟨fs, f1, f2⟩ := x.ff
  refine { x with ff := ⟨fs, f1, ?_⟩ }
  rw [rowTo_succ]
  unfold cell
  rw [hw, List.append_nil]
  exact f2
/-- a new place -/
theorem ExV.place {H0 G G' : Hp} {F W N : Addr} {vals : List Addr} {hs : List (List Lt)} {i jf j : Nat} (x : ExV H0 G F W vals hs i jf j) (wf : ∀ row ∈ hs, ∀ L ∈ row, Wf L) (hl : vals.length = j) (hj : j < 100) (hN0 : H0 N = none) (hN : G N = some (.lst [])) (nF : N ≠ F) (nW : N ≠ W) (nv : ∀ v ∈ vals, N ≠ v)
    (k : Kp W G G') (e : G' W = some (.lst (vals.map V.ref ++ [V.ref N]))) : ExV H0 G' F W (vals ++ [N]) hs i jf j := by
  have t : Tk G G' := Tk.kpL k x.ww
  obtain ⟨fs, f1, f2⟩ := x.ff
  refine { sm := Same.kp0 x.sm k x.w0, f0 := x.f0, w0 := x.w0, fw := x.fw, ff := ⟨fs, k _ _ x.fw f1, dnall_tk t (plain_ff _ _ _) f2⟩, ww := ?_, v0 := ?_, nd := ?_, at_ := ?_, no := ?_, vl := ?_, vm := ?_ }
  · rw [List.map_append]
    exact e
  · intro v hv
    rcases List.mem_append.mp hv with hv | hv
    · exact x.v0 v hv
    · rw [List.mem_singleton.mp hv]
      exact ⟨hN0, nF, nW⟩
  · rw [List.nodup_append]
    refine ⟨x.nd, by simp, fun a ha b hb => ?_⟩
    rw [List.mem_singleton.mp hb]
    exact (nv a ha).symm
  · intro q v hv
    by_cases hq : q < vals.length
    · rw [List.getElem?_append_left hq] at hv
      obtain ⟨xs, us, h1, h2, h3, h5, h6, h7⟩ := (x.at_ q v hv).wf wf
      exact ⟨xs, us, k _ _ (x.v0 v (List.mem_of_getElem? hv)).2.2 h1, dnall_tk t (plain_vals h7) h2, h3, h5, h6⟩
    · rw [List.getElem?_append_right (by omega)] at hv
      have hq' : q = vals.length := by
        have := (List.getElem?_eq_some_iff.mp hv).1
        simp at this
        omega
      subst hq'
      simp at hv
      subst hv
      exact ⟨[], [], k _ _ nW hN, .nil, Nat.zero_le _, (fun u hu => nomatch hu), fun u hu => absurd hu (x.no _ (Nat.le_refl _) u)⟩
  · intro q hq u
    rw [List.length_append] at hq
    exact x.no q (by omega) u
  · rw [List.length_append]
    have := x.vl
    omega
  · rw [List.length_append, List.length_singleton]
    omega
/-- the letter's value is put to its place, or stands there -/
theorem ExV.value {H0 G G' : Hp} {F W v : Addr} {vals : List Addr} {hs : List (List Lt)} {i jf j : Nat} {L : Lt} (x : ExV H0 G F W vals hs i jf j) (wf : ∀ row ∈ hs, ∀ L ∈ row, Wf L) (hL : (rowAt hs i)[j]? = some L) (hv : vals[j]? = some v)
    (sm : Same H0 G') (t : Tk G G') (l : ∀ b xs, b ≠ v → G b = some (.lst xs) → G' b = some (.lst xs))
    (h : ∃ (xs : List V) (us : List Lt), G' v = some (.lst xs) ∧ DnAll Any G' xs (us.map valD) ∧ us.length ≤ i + 1 ∧ (∀ u ∈ us, stands hs i j j u ∨ u = L) ∧ (∀ u, stands hs i j j u → ∃ u' ∈ us, valD u' = valD u) ∧ ∃ u' ∈ us, valD u' = valD L) : ExV H0 G' F W vals hs i jf (j + 1) := by
  obtain ⟨fs, f1, f2⟩ := x.ff
  have hv0 := x.v0 v (List.mem_of_getElem? hv)
  refine { x with sm := sm, ff := ⟨fs, l _ _ hv0.2.1.symm f1, dnall_tk t (plain_ff _ _ _) f2⟩, ww := l _ _ hv0.2.2.symm x.ww, at_ := ?_, no := ?_, vl := (List.getElem?_eq_some_iff.mp hv).1 }
  · intro q u hu
    by_cases hq : q = j
    · subst hq
      have e : u = v := Option.some.inj (hu.symm.trans hv)
      subst e
      obtain ⟨xs, us, h1, h2, h3, h4, h5, h6⟩ := h
      refine ⟨xs, us, h1, h2, by rw [if_pos (Nat.lt_succ_self _)]; exact h3, fun u hu => ?_, fun u hu => ?_⟩
      · rw [stands_step]
        exact (h4 u hu).imp_right fun e => ⟨rfl, by rw [e]; exact hL⟩
      · rcases stands_step.mp hu with hu | ⟨_, e⟩
        · exact h5 u hu
        · have : u = L := Option.some.inj (e.symm.trans hL)
          subst this
          exact h6
    · have ne : u ≠ v := fun z => by
        subst z
        have hlt := (List.getElem?_eq_some_iff.mp hu).1
        exact hq ((List.getElem?_inj hlt x.nd).mp (hu.trans hv.symm))
      obtain ⟨xs, us, h1, h2, h3, h5, h6, h7⟩ := (x.at_ q u hu).wf wf
      have hs1 : ∀ u, stands hs i (j + 1) q u ↔ stands hs i j q u := fun u => by
        rw [stands_step]
        exact ⟨fun z => z.elim id fun z => absurd z.1 hq, .inl⟩
      refine ⟨xs, us, l _ _ ne h1, dnall_tk t (plain_vals h7) h2, ?_, fun u hu => (hs1 u).mpr (h5 u hu), fun u hu => h6 u ((hs1 u).mp hu)⟩
      rw [show (if q < j + 1 then 1 else 0) = if q < j then 1 else 0 by split <;> split <;> omega]
      exact h3
  · intro q hq u
    rw [stands_step]
    rintro (z | ⟨z, _⟩)
    · exact x.no q hq u z
    · have := (List.getElem?_eq_some_iff.mp hv).1
      omega

/-! ### the exam -/
def spUnlike (K : PySem.W.Frag) (C : Addr) : Sp := fun vs H Q _ => ∃ (x v : Addr) (L : Lt) (xs : List V) (us : List Lt), vs = [.ref x, .ref v] ∧ LtAt Any C H x L ∧ Wf L ∧ H v = some (.lst xs) ∧ DnAll Any H xs (us.map valD) ∧ (∀ u ∈ us, Wf u) ∧ us.length ≤ 1000 ∧
  ∀ H', Same H H' → Q (.bl (us.any fun u => !PyData.eqv (valD u) (valD L))) H'
def spExam (K : PySem.W.Frag) (C : Addr) : Sp := fun vs H Q _ => ∃ (h : Addr) (zs : List (Addr × List (Addr × Lt))), vs = [.ref h] ∧ HsAt C H h zs ∧
  ∀ p ws H', H p = none → Same H H' → H' p = some (.lst ws) → DnAll Any H' ws (dueL (hsL zs)) → Q (.ref p) H'
section
variable {K : PySem.W.Frag} {C CR : Addr} {vs : List V} {H : Hp} {Q : VK} {E : XK}
theorem unlike_eq {hs : List (List Lt)} {i j : Nat} {us : List Lt} {L : Lt} (h5 : ∀ u ∈ us, stands hs i j j u) (h6 : ∀ u, stands hs i j j u → ∃ u' ∈ us, valD u' = valD u) : (us.any fun u => !PyData.eqv (valD u) (valD L)) = unlikeB hs i j L := by
  rw [Bool.eq_iff_iff, List.any_eq_true]
  unfold unlikeB
  rw [List.any_eq_true]
  constructor
  · rintro ⟨u, hu, e⟩
    rcases h5 u hu with ⟨k, hk, e2⟩ | ⟨hk, _⟩
    · unfold rowAt at e2
      rw [List.getD_eq_getElem?_getD] at e2
      cases e3 : hs[k]? with
      | none =>
        rw [e3] at e2
        exact nomatch e2
      | some row =>
        rw [e3] at e2
        have e2 : row[j]? = some u := e2
        refine ⟨row, List.mem_of_getElem? (i := k) (by rw [List.getElem?_take, if_pos hk]; exact e3), ?_⟩
        rw [e2]
        exact e
    · exact absurd hk (Nat.lt_irrefl _)
  · rintro ⟨row, hr, e⟩
    obtain ⟨k, hk⟩ := List.mem_iff_getElem?.mp hr
    rw [List.getElem?_take] at hk
    split at hk
    · rename_i hki
      cases e2 : row[j]? with
      | none =>
        rw [e2] at e
        exact nomatch e
      | some M =>
        rw [e2] at e
        obtain ⟨u, hu, e3⟩ := h6 M (.inl ⟨k, hki, by unfold rowAt; rw [List.getD_eq_getElem?_getD, hk]; exact e2⟩)
        exact ⟨u, hu, by rw [e3]; exact e⟩
    · exact nomatch hk
theorem w_notInLD {x y : V} {d : PyData} {ds : List PyData} {ok ok2 : Addr → Prop} (h : Dn ok H x d) (h2 : Dn ok2 H y (.list ds)) (s : SeqAt.shaped d = true) (s2 : SeqAt.shaped (.list ds) = true) (q : Q (.bl (!(ds.any fun z => PyData.eqv z d))) H) : Wp.rInLD K true x y H Q :=
  ⟨d, ds, dn_dp (noDict_of_lay (SeqAt.canLay_of_shaped s)) h, dn_dp (noDict_of_lay (SeqAt.canLay_of_shaped s2)) h2, s, s2, by rw [if_pos rfl]; exact q⟩
theorem ExV.nextRow {H0 G : Hp} {F W : Addr} {vals : List Addr} {hs : List (List Lt)} {i : Nat} (x : ExV H0 G F W vals hs i (rowAt hs i).length (rowAt hs i).length) : ExV H0 G F W vals hs (i + 1) 0 0 := by
  obtain ⟨fs, f1, f2⟩ := x.ff
  refine { x with ff := ⟨fs, f1, ?_⟩, at_ := fun q v hv => ?_, no := fun q hq u hu => x.no q hq u (stands_next.mp hu), vl := Nat.zero_le _ }
  · rw [dueTo_succ]
    show DnAll Any G fs (_ ++ [])
    rw [List.append_nil]
    exact f2
  · obtain ⟨xs, us, h1, h2, h3, h5, h6⟩ := x.at_ q v hv
    refine ⟨xs, us, h1, h2, ?_, fun u hu => stands_next.mpr (h5 u hu), fun u hu => h6 u (stands_next.mp hu)⟩
    rw [if_neg (Nat.not_lt_zero q)]
    split at h3 <;> omega
/-- _is_unlike: slots 0:letter 1:values 2:value -/
def t__is_unlike (K : PySem.W.Frag) (C_Letter : Addr) : TS := (tRet (tCB (rAny K) (tCons (tLc (iList K (tVar 1)) (gName 2) tYes (tOp (rNeD K) (tVar 2) (tMeth C_Letter "value" (spValue K C_Letter) [] C8.E0 (tVar 0) tNil)) [2]) tNil)))
theorem l__is_unlike (h : spUnlike K C vs H Q E) : vs.length = 2 := by obtain ⟨x, v, L, xs, us, rfl, _⟩ := h; rfl
theorem r__is_unlike (LC : IsC_Letter K C) (h : spUnlike K C vs H Q E) : t__is_unlike K C { nx := fun _ H' => Q .non H', rt := Q } (start ["letter", "values", "value"] vs) H := by
  obtain ⟨x, v, L, xs, us, rfl, hL, wL, hv, hxs, wu, hl, q⟩ := h
  have hL' := hL
  obtain ⟨dx, d, sv, bv, hx, _⟩ := hL
  have hxl : xs.length = us.length := by rw [hxs.len, List.length_map]
  unfold t__is_unlike
  refine w_ret (w_cb (w_cons (w_lc (w_iList (w_var rfl ⟨v, rfl, ⟨_, SqL.of hv⟩, fun Dd hD => ?_⟩)))))
  refine lc_it (walk_list (xs := xs)) (fun i G => Same H G ∧ G Dd = some (.lst ((us.take i).map fun u => V.bl (!PyData.eqv (valD u) (valD L))))) ?_ ?_ ?_ ?_
  · exact ⟨Same.upd (Same.refl H) hD, upd_same⟩
  · intro i G _ ⟨s, _⟩
    exact SqL.of (s _ _ hv)
  · rintro i y G G' hi ⟨s, e⟩ ⟨rfl, hy⟩
    obtain ⟨dd, hd, dn⟩ := hxs.get hy
    rw [List.getElem?_map] at hd
    obtain ⟨u, hu, rfl⟩ := Option.map_eq_some_iff.mp hd
    refine w_name ⟨rfl, w_yes (iteT_ ?_)⟩
    refine w_op (w_var rfl (w_methV rfl (s _ _ hx) lfs_value (w_nil ⟨x, L, rfl, hL'.same s, fun w G2 s2 dv => ?_⟩)))
    refine w_neD (dn.same (s.trans s2)) dv (wu u (List.mem_of_getElem? hu)).lay.shaped wL.lay.shaped ⟨_, s2 _ _ e, ?_, ?_, ?_⟩
    · rw [List.length_map, List.length_take]
      exact Nat.lt_of_le_of_lt (show min i us.length ≤ 1000 by omega) (by decide)
    · exact fun b o e2 => by
        rw [upd_ne (ne_of_none e2 hD)]
        exact s2 _ _ (s _ _ e2)
    · rw [upd_same, List.take_add_one, hu]
      simp
  · rintro G ⟨s, e⟩
    rw [hxl, List.take_length] at e
    refine w_nil ⟨Dd, us.map fun u => !PyData.eqv (valD u) (valD L), rfl, SqL.of (by rw [e, List.map_map]; rfl), ?_⟩
    rw [List.any_map]
    exact q G s
/-- exam: slots 0:histories 1:findings 2:values 3:index 4:letters 5:reading 6:place 7:letter 8:word -/
def t_exam (K : PySem.W.Frag) (C_Reading : Addr) (C_Letter : Addr) : TS := (tSeq (tAsg (tLst tNil) (gName 1))
  (tSeq (tAsg (tLst tNil) (gName 2))
  (tSeq (tFor (iEnum K (tCons (tVar 0) tNil)) (gTup K 2 (gCons (gName 3) (gCons (gName 4) gNil))) (tSeq (tAsg (tMake C_Reading (spRInit K C_Reading) [] C8.E0 tNil) (gName 5))
  (tFor (iEnum K (tCons (tVar 4) tNil)) (gTup K 2 (gCons (gName 6) (gCons (gName 7) gNil))) (tSeq (tIfS (tTest (tOp rEq (tVar 6) (tCB (qLenSeq K) (tCons (tVar 2) tNil)))) (tDrop (tBM K "list" rAppend (tVar 2) (tCons (tLst tNil) tNil))) tNext)
  (tSeq (tAsg (tMeth C_Reading "fault_of" (spFault K C_Letter C_Reading) [] C8.E0 (tVar 5) (tCons (tVar 7) tNil)) (gName 8))
  (tSeq (tIfS (tAnd (tTest (tOp qIsN (tVar 8) (tC .non))) (tB (tCall (spUnlike K C_Letter) [] C8.E0 (tCons (tVar 7) (tCons (tOp (rIxL K) (tVar 2) (tVar 6)) tNil))))) (tAsg (tC (.str "unlike")) (gName 8)) tNext)
  (tSeq (tIfS (tTest (tOp qNotN (tVar 8) (tC .non))) (tDrop (tBM K "list" rAppend (tVar 1) (tCons (tTup (tCons (tVar 8) (tCons (tVar 3) (tCons (tVar 6) tNil)))) tNil))) tNext)
  (tSeq (tIfS (tTest (tOp (Wp.rInLD K true) (tMeth C_Letter "value" (spValue K C_Letter) [] C8.E0 (tVar 7) tNil) (tOp (rIxL K) (tVar 2) (tVar 6)))) (tDrop (tBM K "list" rAppend (tOp (rIxL K) (tVar 2) (tVar 6)) (tCons (tMeth C_Letter "value" (spValue K C_Letter) [] C8.E0 (tVar 7) tNil) tNil))) tNext)
  (tDrop (tMeth C_Reading "take" (spTake K C_Letter C_Reading) [] C8.E0 (tVar 5) (tCons (tVar 7) tNil)))))))))))
  (tRet (tVar 1)))))
theorem l_exam (h : spExam K C vs H Q E) : vs.length = 1 := by obtain ⟨h, zs, rfl, _⟩ := h; rfl
theorem r_exam (LR : IsC_Reading K CR) (LC : IsC_Letter K C) (h : spExam K C vs H Q E) : t_exam K CR C { nx := fun _ H' => Q .non H', rt := Q } (start ["histories", "findings", "values", "index", "letters", "reading", "place", "letter", "word"] vs) H := by
  obtain ⟨h, zs, rfl, hz, q⟩ := h
  have wf := hz.wf
  unfold t_exam
  refine w_seq (w_asg (w_lstV (w_nil ⟨sz (by simp), w_new fun F H1 f0 s1 e1 => w_name ?_⟩)))
  with_reducible refine w_seq ?_
  refine w_asg (w_lstV (w_nil ⟨sz (by simp), w_new fun W H2 w0 s2 e2 => w_name ?_⟩))
  with_reducible refine w_seq ?_
  refine w_for (w_cons (w_var rfl (w_nil ⟨h, _, rfl, SqL.of (s2 _ _ (s1 _ _ hz.hh)), ?_⟩)))
  refine for_it (walk_enum (xs := zs.map fun z => V.ref z.1)) (fun i σ G => (∃ u3 u4 u5 u6 u7 u8, σ = [some (.ref h), some (.ref F), some (.ref W), u3, u4, u5, u6, u7, u8]) ∧ ∃ vals, ExV H G F W vals (hsL zs) i 0 0) ?_ ?_ ?_ ?_
  · refine ⟨⟨_, _, _, _, _, _, rfl⟩, [], ⟨s1.trans s2, f0, same_none s1 w0, ne_of_none e1 w0, ⟨[], s2 _ _ e1, .nil⟩, e2, fun v hv => (nomatch hv), List.nodup_nil, fun q v hv => ?_, fun q _ u hu => ?_, Nat.le_refl _, Nat.zero_le _⟩⟩
    · simp at hv
    · rcases hu with ⟨k, hk, _⟩ | ⟨hk, _⟩ <;> exact absurd hk (by omega)
  · rintro i σ G _ ⟨_, vals, x⟩
    exact SqL.of (x.sm _ _ hz.hh)
  · rintro i v0 σ G G' hi ⟨⟨u3, u4, u5, u6, u7, u8, rfl⟩, vals, x⟩ ⟨T, x', y', rfl, hT, rfl, e3, e4⟩
    cases Option.some.inj e3
    have e4 : (zs.map fun z => V.ref z.1)[i]? = some y' := e4
    rw [List.getElem?_map] at e4
    obtain ⟨z, ez, rfl⟩ := Option.map_eq_some_iff.mp e4
    have hzz := hz.hz z (List.mem_of_getElem? ez)
    have er := rowAt_hsL ez
    have hlen : (rowAt (hsL zs) i).length = z.2.length := by rw [er, List.length_map]
    obtain ⟨G1, eG, sG, gT⟩ := newT (o := .tup [.int (i : Nat), .ref z.1]) hT
    rw [← eG]
    have x1 := x.same wf sG
    refine ⟨T, _, rfl, SqT.of gT, rfl, gc (w_name (gc (w_name (gn ?_))))⟩
    with_reducible refine w_seq ?_
    refine w_asg (w_make (w_nil fun r dx hr hdx ndx => ⟨r, dx, rfl, upd_same, fun G2 R eR n1 n2 n3 n4 k2 rd => ⟨rfl, w_name ?_⟩⟩))
    subst eR
    have sG2 : Same G1 G2 := same_made2 hr hdx k2
    have sU : Same G1 (upd (upd G1 dx (.own R.r)) R.r (.ins CR dx [])) := fun b o e => by
      rw [upd_ne (ne_of_none e hr), upd_ne (ne_of_none e hdx)]
      exact e
    have m0 := same_none x1.sm hr
    have m1 := same_none x1.sm (same_none sU n1)
    have m2 := same_none x1.sm (same_none sU n2)
    have m3 := same_none x1.sm (same_none sU n3)
    have m4 := same_none x1.sm (same_none sU n4)
    have x2 := x1.same wf sG2
    with_reducible refine w_for ?_
    refine w_cons (w_var rfl (w_nil ⟨z.1, _, rfl, SqL.of (x2.sm _ _ hzz.1), ?_⟩))
    refine for_it (walk_enum (xs := lsV z.2)) (fun j σ G => (∃ u6 u7 u8, σ = [some (.ref h), some (.ref F), some (.ref W), some (.int (i : Nat)), some (.ref z.1), some (.ref R.r), u6, u7, u8]) ∧ ∃ vals, ExV H G F W vals (hsL zs) i j j ∧ RdAt CR G R ((z.2.map (·.2)).take j)) ?_ ?_ ?_ ?_
    · exact ⟨⟨_, _, _, rfl⟩, vals, x2, rd⟩
    · rintro j σ G _ ⟨_, vals, x, _⟩
      exact SqL.of (x.sm _ _ hzz.1)
    · clear x x1 x2 rd sG2 vals gT sG eG hT
      rintro j v1 σ G G' hj ⟨⟨u6, u7, u8, rfl⟩, vals, x, rd⟩ ⟨T, x', y', rfl, hT, rfl, e3, e4⟩
      cases Option.some.inj e3
      have e4 : (z.2.map fun y => V.ref y.1)[j]? = some y' := e4
      rw [List.getElem?_map] at e4
      obtain ⟨y, ey, rfl⟩ := Option.map_eq_some_iff.mp e4
      have hy := hzz.2.1.get ey
      have hjl : j < 100 := Nat.lt_of_lt_of_le (List.getElem?_eq_some_iff.mp ey).1 hzz.2.2
      have eL : (rowAt (hsL zs) i)[j]? = some y.2 := by rw [er, List.getElem?_map, ey]; rfl
      have ew : wordOf (hsL zs) i j = match fault ((z.2.map (·.2)).take j) y.2 with | some w => some w | none => if unlikeB (hsL zs) i j y.2 = true then some (Str.ofString "unlike") else none := by
        unfold wordOf
        rw [eL, er] <;> (dsimp only; cases fault ((z.2.map (·.2)).take j) y.2 <;> rfl)
      have wfl : ∀ o ∈ (z.2.map (·.2)).take j, Wf o := fun o ho => by
        obtain ⟨y, hy, rfl⟩ := List.mem_map.mp (List.mem_of_mem_take ho)
        exact (hzz.2.1 y hy).2
      have ltk : ((z.2.map (·.2)).take j).length ≤ 200 := by
        rw [List.length_take]
        omega
      obtain ⟨G3, eG, sG, gT⟩ := newT (o := .tup [.int (j : Nat), .ref y.1]) hT
      rw [← eG]
      have x1 := x.same wf sG
      have rd1 := rd.same sG
      refine ⟨T, _, rfl, SqT.of gT, rfl, gc (w_name (gc (w_name (gn ?_))))⟩
      with_reducible refine w_seq ?_
      refine w_ifCut (Mid := fun σ' G' => σ' = [some (.ref h), some (.ref F), some (.ref W), some (.int (i : Nat)), some (.ref z.1), some (.ref R.r), some (.int (j : Nat)), some (.ref y.1), u8] ∧ ∃ vals, ExV H G' F W vals (hsL zs) i j j ∧ j < vals.length ∧ RdAt CR G' R ((z.2.map (·.2)).take j)) ?_ ?_
      rotate_left
      · intro Rk hRk
        refine w_ifS (w_test (w_op (w_var rfl (w_cb (w_cons (w_var rfl (w_nil (w_lenL (SqL.of x1.ww) (w_eqI (w_exb (w_ite (fun c => ?_) (fun c => ?_))))))))))))
        · have hvl : vals.length = j := by
            rw [List.length_map] at c
            omega
          refine w_drop (w_bm (w_var rfl (w_tyL x1.ww (w_cons (w_lstV (w_nil ⟨sz (by simp), w_new fun N G4 n0 s4 e5 => w_nil (w_appV (s4 _ _ x1.ww) (by rw [List.length_map]; omega) fun G5 k5 e6 => hRk _ _ ⟨rfl, vals ++ [N], ?_, ?_, ?_⟩)⟩))))))
          · have x4 := x1.same wf s4
            refine x4.place wf hvl hjl (same_none x1.sm n0) e5 (fun z => ?_) (fun z => ?_) (fun v hv z => ?_) k5 e6
            · obtain ⟨fs, f1, _⟩ := x1.ff
              rw [z, f1] at n0
              exact nomatch n0
            · rw [z, x1.ww] at n0
              exact nomatch n0
            · obtain ⟨q', hq'⟩ := List.mem_iff_getElem?.mp hv
              obtain ⟨xs, us, h1, _⟩ := x1.at_ q' v hq'
              rw [z, h1] at n0
              exact nomatch n0
          · rw [List.length_append, List.length_singleton]
            omega
          · exact (rd1.same s4).kpL k5 (s4 _ _ x1.ww)
        · refine w_next (hRk _ _ ⟨rfl, vals, x1, ?_, rd1⟩)
          have := x1.vl
          rw [List.length_map] at c
          omega
      · clear x1 rd1 x rd sG eG gT hT vals
        rintro σ' G4 ⟨rfl, vals, x, hjv, rd⟩
        have hvj : vals[j]? = some vals[j] := List.getElem?_eq_getElem hjv
        obtain ⟨xs, us, p1, p2, p3, p4, p5, p6⟩ := (x.at_ j _ hvj).wf wf
        have hus : us.length ≤ 20 := by
          have := hz.hn
          rw [if_neg (Nat.lt_irrefl j)] at p3
          rw [List.length_map] at hi
          omega
        -- the word
        with_reducible refine w_seq ?_
        obtain ⟨kv, mm, E1, E2, E3, E4, hX⟩ := id rd
        refine w_asg (w_methV rfl hX.hr rfl (w_cons (w_var rfl (w_nil ⟨R, _, y.1, y.2, rfl, rd, wfl, hy.1.same x.sm, hy.2, fun G5 s5 => w_name ?_⟩))))
        have x5 := x.same wf s5
        have rd5 := rd.same s5
        with_reducible refine w_seq ?_
        refine w_ifCut (Mid := fun σ' G' => σ' = [some (.ref h), some (.ref F), some (.ref W), some (.int (i : Nat)), some (.ref z.1), some (.ref R.r), some (.int (j : Nat)), some (.ref y.1), some (wordV (wordOf (hsL zs) i j))] ∧ Same G4 G') ?_ ?_
        rotate_left
        · intro Rk hRk
          refine w_ifS (w_and (w_test (w_op (w_var rfl (w_c (w_isN (w_exb ?_)))))))
          cases hf : fault ((z.2.map (·.2)).take j) y.2 with
          | some w =>
            rw [hf] at ew
            refine ite_f (by simp [wordV]) (ite_f (by decide) (w_next (hRk _ _ ⟨?_, s5⟩)))
            rw [ew]
            rfl
          | none =>
            rw [hf] at ew
            obtain ⟨xs5, us5, p1, p2, p3, p4, p5, p6⟩ := (x5.at_ j _ hvj).wf wf
            have hus5 : us5.length ≤ 1000 := by
              have := hz.hn
              rw [if_neg (Nat.lt_irrefl j)] at p3
              rw [List.length_map] at hi
              omega
            refine ite_t rfl (w_B (w_call (w_cons (w_var rfl (w_cons (w_op (w_var rfl (w_var rfl ?_))))))))
            refine w_ixL (SqL.of x5.ww) (atI_nat (by rw [List.getElem?_map, hvj]; rfl)) (w_nil ⟨y.1, vals[j], y.2, xs5, us5, rfl, hy.1.same x5.sm, hy.2, p1, p2, p6, hus5, fun G6 s6 => w_exb ?_⟩)
            rw [unlike_eq p4 p5]
            by_cases hu : unlikeB (hsL zs) i j y.2 = true
            · refine ite_t hu (w_asg (w_c (w_name (hRk _ _ ⟨?_, s5.trans s6⟩))))
              rw [ew, hu]
              rfl
            · refine ite_f hu (w_next (hRk _ _ ⟨?_, s5.trans s6⟩))
              rw [ew, if_neg hu]
              rfl
        · rintro σ' G6 ⟨rfl, s6⟩
          have x6 := x.same wf s6
          have rd6 := rd.same s6
          clear x5 rd5 hX
          -- the finding
          with_reducible refine w_seq ?_
          refine w_ifCut (Mid := fun σ' G' => σ' = [some (.ref h), some (.ref F), some (.ref W), some (.int (i : Nat)), some (.ref z.1), some (.ref R.r), some (.int (j : Nat)), some (.ref y.1), some (wordV (wordOf (hsL zs) i j))] ∧ ExV H G' F W vals (hsL zs) i (j + 1) j ∧ RdAt CR G' R ((z.2.map (·.2)).take j)) ?_ ?_
          rotate_left
          · intro Rk hRk
            refine w_ifS (w_test (w_op (w_var rfl (w_c (w_notN (w_exb ?_))))))
            cases hw : wordOf (hsL zs) i j with
            | none =>
              refine ite_f (by simp [wordV]) (w_next (hRk _ _ ⟨?_, x6.noFinding hw, rd6⟩))
              rw [hw]
            | some w =>
              obtain ⟨fs, f1, f2⟩ := x6.ff
              have hfl : fs.length ≤ 100000 := by
                rw [f2.len, List.length_append]
                have h1 := dueTo_len hz.rows i
                have h2 := rowTo_len (hs := hsL zs) (i := i) j
                have h3 := hz.hn
                rw [List.length_map] at hi
                omega
              refine ite_t (by simp [wordV]) (w_drop (w_bm (w_var rfl (w_tyL f1 (w_cons (w_tupV (w_cons (w_var rfl (w_cons (w_var rfl (w_cons (w_var rfl (w_nil ⟨sz (by simp), ?_⟩)))))))))))))
              refine w_new fun T6 G7 t0 s7 eT => w_nil (w_appV (s7 _ _ f1) hfl fun G8 k8 e8 => hRk _ _ ⟨?_, ?_, ?_⟩)
              · rw [hw]
              · exact (x6.same wf s7).findings wf (s7 _ _ f1) (f2.same s7) hw eT k8 e8
              · exact (rd6.same s7).kpL k8 (s7 _ _ f1)
          · clear x6 rd6 x rd s6 s5 p1 p2 p3 p4 p5 p6
            rintro σ' G7 ⟨rfl, x, rd⟩
            obtain ⟨xs, us, p1, p2, p3, p4, p5, p6⟩ := (x.at_ j _ hvj).wf wf
            have hus : us.length ≤ i := by
              rw [if_neg (Nat.lt_irrefl j)] at p3
              exact p3
            have hi20 : i < 20 := by
              have := hz.hn
              rw [List.length_map] at hi
              omega
            have hxl : xs.length = us.length := by rw [p2.len, List.length_map]
            -- the value
            with_reducible refine w_seq ?_
            refine w_ifCut (Mid := fun σ' G' => σ' = [some (.ref h), some (.ref F), some (.ref W), some (.int (i : Nat)), some (.ref z.1), some (.ref R.r), some (.int (j : Nat)), some (.ref y.1), some (wordV (wordOf (hsL zs) i j))] ∧ ExV H G' F W vals (hsL zs) i (j + 1) (j + 1) ∧ RdAt CR G' R ((z.2.map (·.2)).take j)) ?_ ?_
            rotate_left
            · intro Rk hRk
              obtain ⟨dx', dd', sv', bv', hyx, _⟩ := id hy.1
              refine w_ifS (w_test (w_op (w_methV rfl (x.sm _ _ hyx) lfs_value (w_nil ⟨y.1, y.2, rfl, hy.1.same x.sm, fun wv G8 s8 dv => ?_⟩))))
              refine w_op (w_var rfl (w_var rfl (w_ixL (SqL.of (s8 _ _ x.ww)) (atI_nat (by rw [List.getElem?_map, hvj]; rfl)) ?_)))
              refine w_notInLD dv (.lst (ok := Any) trivial (s8 _ _ p1) (p2.same s8)) hy.2.lay.shaped (lay_list (k := 4) fun d hd => by
                obtain ⟨u, hu, rfl⟩ := List.mem_map.mp hd
                exact (p6 u hu).lay).shaped (w_exb ?_)
              have x8 := x.same wf s8
              cases ha : (us.map valD).any fun zz => PyData.eqv zz (valD y.2) with
              | true =>
                refine ite_f (by decide) (w_next (hRk _ _ ⟨rfl, ?_, rd.same s8⟩))
                obtain ⟨dd, hd, e⟩ := List.any_eq_true.mp ha
                obtain ⟨u, hu, rfl⟩ := List.mem_map.mp hd
                refine x.value wf eL hvj x8.sm (Tk.same s8) (fun b ys _ e => s8 _ _ e) ⟨xs, us, s8 _ _ p1, p2.same s8, by omega, fun u hu => .inl (p4 u hu), p5, u, hu, eqv_plain (p6 u hu).plain hy.2.plain e⟩
              | false =>
                refine ite_t rfl (w_drop (w_bm (w_op (w_var rfl (w_var rfl ?_)))))
                refine w_ixL (SqL.of x8.ww) (atI_nat (by rw [List.getElem?_map, hvj]; rfl)) (w_tyL (s8 _ _ p1) (w_cons ?_))
                refine w_methV rfl (x8.sm _ _ hyx) lfs_value (w_nil ⟨y.1, y.2, rfl, hy.1.same x8.sm, fun wv2 G9 s9 dv2 => w_nil (w_appV (s9 _ _ (s8 _ _ p1)) (by omega) fun G10 k10 e10 => hRk _ _ ⟨rfl, ?_, ?_⟩)⟩)
                · have hv0 := x.v0 _ (List.mem_of_getElem? hvj)
                  have h9 := s9 _ _ (s8 _ _ p1)
                  have tk := Tk.kpL k10 h9
                  refine x.value wf eL hvj (Same.kp0 ((x8.sm).trans s9) k10 hv0.1) (((Tk.same s8).trans (Tk.same s9)).trans tk) (fun b ys n e => k10 _ _ n (s9 _ _ (s8 _ _ e))) ⟨xs ++ [wv2], us ++ [y.2], e10, ?_, ?_, ?_, ?_, y.2, List.mem_append_right _ (List.mem_singleton.mpr rfl), rfl⟩
                  · rw [List.map_append]
                    exact DnAll.app (dnall_tk tk (plain_vals p6) ((p2.same s8).same s9)) (.cons (dn_tk tk hy.2.plain dv2) .nil)
                  · rw [List.length_append, List.length_singleton]
                    omega
                  · intro u hu
                    rcases List.mem_append.mp hu with hu | hu
                    · exact .inl (p4 u hu)
                    · exact .inr (List.mem_singleton.mp hu)
                  · intro u hu
                    obtain ⟨u', hu', e⟩ := p5 u hu
                    exact ⟨u', List.mem_append_left _ hu', e⟩
                · exact ((rd.same s8).same s9).kpL k10 (s9 _ _ (s8 _ _ p1))
            · clear x rd p1 p2 p3 p4 p5 p6 hus hxl
              rintro σ' G8 ⟨rfl, x, rd⟩
              obtain ⟨kv, mm, E1, E2, E3, E4, hX⟩ := id rd
              with_reducible refine w_drop ?_
              have nr : y.1 ≠ R.r := by
                obtain ⟨dx', dd', sv', bv', hyx, _⟩ := hy.1
                exact ne_of_none hyx m0
              refine w_methV rfl hX.hr rfl (w_cons (w_var rfl (w_nil ⟨R, _, y.1, y.2, rfl, rd, wfl, ltk, hy.1.same x.sm, nr, hy.2, fun G9 kR tk rd' => ?_⟩)))
              refine ⟨⟨_, _, _, rfl⟩, vals, x.move wf (fun b o e => ?_) tk (fun b ys e => ?_), ?_⟩
              · exact kR b o (ne_of_none e m0) (ne_of_none e m1) (ne_of_none e m2) (ne_of_none e m3) (ne_of_none e m4) (x.sm _ _ e)
              · exact kR b _ (ne_kind e hX.hr fun z => by cases z) (ne_kind e hX.h1 fun z => by cases z) (ne_kind e hX.h2 fun z => by cases z) (ne_kind e hX.h3 fun z => by cases z) (ne_kind e hX.h4 fun z => by cases z) e
              · rw [List.take_add_one, List.getElem?_map, ey]
                exact rd'
    · rintro σ G3 ⟨⟨u6', u7', u8', rfl⟩, vals', x3, _⟩
      refine ⟨⟨_, _, _, _, _, _, rfl⟩, vals', ?_⟩
      have : (lsV z.2).length = (rowAt (hsL zs) i).length := by rw [hlen, List.length_map]
      rw [this] at x3
      exact x3.nextRow
  · rintro σ G ⟨⟨u3, u4, u5, u6, u7, u8, rfl⟩, vals, x⟩
    obtain ⟨fs, f1, f2⟩ := x.ff
    walk_at "w"
    refine q F fs G f0 x.sm f1 ?_
    have : (zs.map fun z => V.ref z.1).length = (hsL zs).length := by
      unfold hsL
      rw [List.length_map, List.length_map]
    rw [this] at f2
    have e : dueTo (hsL zs) (hsL zs).length ++ rowTo (hsL zs) (hsL zs).length 0 = dueL (hsL zs) := List.append_nil _
    rw [e] at f2
    exact f2
end

/-! ### the law's own test -/
def spLawWord (K : PySem.W.Frag) (C : Addr) : Sp := fun vs H Q _ => ∃ (h : Addr) (zs : List (Addr × List (Addr × Lt))) (i j : Nat) (z : Addr × List (Addr × Lt)) (y : Addr × Lt), vs = [.ref h, .int i, .int j] ∧ HsAt C H h zs ∧ zs[i]? = some z ∧ z.2[j]? = some y ∧
  ∀ H', Same H H' → Q (.str ((wordOf (hsL zs) i j).getD (Str.ofString ""))) H'
def spLawDue (K : PySem.W.Frag) (C : Addr) : Sp := fun vs H Q _ => ∃ (h : Addr) (zs : List (Addr × List (Addr × Lt))), vs = [.ref h] ∧ HsAt C H h zs ∧
  ∀ p ws H', H p = none → Same H H' → H' p = some (.lst ws) → DnAll Any H' ws (dueL (hsL zs)) → Q (.ref p) H'
section
variable {K : PySem.W.Frag} {C : Addr} {vs : List V} {H : Hp} {Q : VK} {E : XK} {σ : L2.St} {tt : TT}
theorem filter_any {α : Type} (p : α → Bool) (l : List α) : decide ((0 : Int) < ((l.filter p).length : Nat)) = l.any p := by
  rw [Bool.eq_iff_iff, decide_eq_true_eq, List.any_eq_true]
  constructor
  · intro h
    have h : 0 < (l.filter p).length := by omega
    obtain ⟨x, hx⟩ := List.exists_mem_of_length_pos h
    exact ⟨x, (List.mem_filter.mp hx).1, (List.mem_filter.mp hx).2⟩
  · rintro ⟨x, hx, e⟩
    have : 0 < (l.filter p).length := List.length_pos_of_mem (List.mem_filter.mpr ⟨hx, e⟩)
    omega
theorem any_snd (p : Lt → Bool) (l : List (Addr × Lt)) : (l.any fun y => p y.2) = (l.map (·.2)).any p := by rw [List.any_map]; rfl
theorem eqv_ref (a b : Str) (n m : Int) : PyData.eqv (.tuple [.str a, .int n]) (.tuple [.str b, .int m]) = decide (a = b ∧ n = m) := by
  simp only [PyData.eqv, PyData.eqvAll]
  rw [Bool.eq_iff_iff]
  simp
/-- _law_word: slots 0:histories 1:index 2:place 3:letters 4:letter 5:ahead 6:other 7:last 8:others -/
def t__law_word (K : PySem.W.Frag) (C_Letter : Addr) : TS := (tSeq (tAsg (tOp (rIxL K) (tVar 0) (tVar 1)) (gName 3))
  (tSeq (tAsg (tOp (rIxL K) (tVar 3) (tVar 2)) (gName 4))
  (tSeq (tAsg (tSl (rSlL K) (tVar 3) tNoPart (tPart (tVar 2))) (gName 5))
  (tSeq (tIfS (tTest (tOp qGt (tCB (qLenSeq K) (tCons (tLc (iList K (tVar 5)) (gName 6) (tTest (tOp (rEqD K) (tProp C_Letter (spRefP K C_Letter) [] C8.E0 (tVar 6)) (tProp C_Letter (spRefP K C_Letter) [] C8.E0 (tVar 4)))) (tVar 6) [6]) tNil)) (tC (.int 0)))) (tRet (tC (.str "twice"))) tNext)
  (tSeq (tAsg (tC (.int 0)) (gName 7))
  (tSeq (tFor (iList K (tVar 5)) (gName 6) (tIfS (tTest (tOp rEq (tFld K (tVar 6) "author") (tFld K (tVar 4) "author"))) (tAsg (tFld K (tVar 6) "number") (gName 7)) tNext))
  (tSeq (tIfS (tTest (tOp rNe (tFld K (tVar 4) "number") (tOp qAdd (tVar 7) (tC (.int 1))))) (tRet (tC (.str "gap"))) tNext)
  (tSeq (tIfS (tAnd (tTest (tOp qGt (tVar 2) (tC (.int 0)))) (tTest (tOp (Wp.rGeD K) (tTup (tCons (tFld K (tOp (rIxL K) (tVar 5) (tUn qNeg (tC (.int 1)))) "stamp") (tCons (tFld K (tOp (rIxL K) (tVar 5) (tUn qNeg (tC (.int 1)))) "author") tNil))) (tTup (tCons (tFld K (tVar 4) "stamp") (tCons (tFld K (tVar 4) "author") tNil)))))) (tRet (tC (.str "order"))) tNext)
  (tSeq (tIfS (tTest (tOp qGt (tCB (qLenSeq K) (tCons (tLc (iList K (tVar 5)) (gName 6) (tTest (tOp qGe (tMeth C_Letter "count" (spCount K C_Letter) [] C8.E0 (tVar 6) (tCons (tFld K (tVar 4) "author") tNil)) (tFld K (tVar 4) "number"))) (tVar 6) [6]) tNil)) (tC (.int 0)))) (tRet (tC (.str "behind"))) tNext)
  (tSeq (tFor (iList K (tSl (rSlL K) (tVar 0) tNoPart (tPart (tVar 1)))) (gName 8) (tIfS (tAnd (tTest (tOp qLt (tVar 2) (tCB (qLenSeq K) (tCons (tVar 8) tNil)))) (tTest (tOp (rNeD K) (tMeth C_Letter "value" (spValue K C_Letter) [] C8.E0 (tOp (rIxL K) (tVar 8) (tVar 2)) tNil) (tMeth C_Letter "value" (spValue K C_Letter) [] C8.E0 (tVar 4) tNil)))) (tRet (tC (.str "unlike"))) tNext))
  (tRet (tC (.str "")))))))))))))
theorem l__law_word (h : spLawWord K C vs H Q E) : vs.length = 3 := by obtain ⟨h, zs, i, j, z, y, rfl, _⟩ := h; rfl
theorem r__law_word (LC : IsC_Letter K C) (h : spLawWord K C vs H Q E) : t__law_word K C { nx := fun _ H' => Q .non H', rt := Q } (start ["histories", "index", "place", "letters", "letter", "ahead", "other", "last", "others"] vs) H := by
  obtain ⟨h, zs, i, j, z, y, rfl, hz, ez, ey, q⟩ := h
  have wf := hz.wf
  have hzz := hz.hz z (List.mem_of_getElem? ez)
  have er := rowAt_hsL ez
  have hy := hzz.2.1.get ey
  have hjl : j < z.2.length := (List.getElem?_eq_some_iff.mp ey).1
  have eL : (rowAt (hsL zs) i)[j]? = some y.2 := by rw [er, List.getElem?_map, ey]; rfl
  have ew : wordOf (hsL zs) i j = match fault ((z.2.map (·.2)).take j) y.2 with | some w => some w | none => if unlikeB (hsL zs) i j y.2 = true then some (Str.ofString "unlike") else none := by
    unfold wordOf
    rw [eL, er] <;> (dsimp only; cases fault ((z.2.map (·.2)).take j) y.2 <;> rfl)
  rw [← List.map_take] at ew
  obtain ⟨dx, d, sv, bv, hyx, _⟩ := id hy.1
  have hok : LsOk Any C H (z.2.take j) := hzz.2.1.sub fun y hy => List.mem_of_mem_take hy
  have hal : (z.2.take j).length ≤ 100 := by rw [List.length_take]; omega
  unfold t__law_word
  refine w_seq (w_asg (w_op (w_var rfl (w_var rfl (w_ixL (SqL.of hz.hh) (atI_nat (by rw [List.getElem?_map, ez]; rfl)) (w_name ?_))))))
  with_reducible refine w_seq ?_
  refine w_asg (w_op (w_var rfl (w_var rfl (w_ixL (SqL.of hzz.1) (atI_nat (by rw [List.getElem?_map, ey]; rfl)) (w_name ?_)))))
  with_reducible refine w_seq ?_
  refine w_asg (w_sl (w_var rfl (w_noPart (w_part (w_var rfl (w_exi (w_slLV (SqL.of hzz.1) fun p H1 p0 s1 ep => w_name ?_)))))))
  rw [cutV_to (by rw [List.length_map]; omega), ← List.map_take] at ep
  generalize hA : z.2.take j = as at *
  -- twice
  with_reducible refine w_seq ?_
  refine w_ifCut (Mid := fun σ' G => σ' = [some (.ref h), some (.int i), some (.int j), some (.ref z.1), some (.ref y.1), some (.ref p), none, none, none] ∧ Same H1 G ∧ ¬ twiceB (as.map (·.2)) y.2 = true) ?_ ?_
  rotate_left
  · intro Rk hRk
    refine w_ifS (w_test (w_op (w_cb (w_cons (w_lc (w_iList (w_var rfl ⟨p, rfl, ⟨_, SqL.of ep⟩, ?_⟩)))))))
    refine lcLs (ls := as) (fun o => decide (o.2.a = y.2.a ∧ o.2.n = y.2.n)) (fun G s => SqL.of (s _ _ ep)) (by omega) (fun _ => rfl) (fun _ => rfl) (fun o ho G s R r => ?_) fun D G _ s eD => ?_
    · obtain ⟨dx', d', sv', bv', hox, _⟩ := id (hok o ho).1
      refine w_test (w_op (w_propV rfl (s _ _ (s1 _ _ hox)) ⟨o.1, o.2, rfl, (hok o ho).1.same (s1.trans s), fun t2 G2 t20 s2 e2 => ?_⟩))
      refine w_propV rfl (s2 _ _ (s _ _ (s1 _ _ hyx))) ⟨y.1, y.2, rfl, hy.1.same ((s1.trans s).trans s2), fun t3 G3 t30 s3 e3 => ?_⟩
      refine w_eqD (ok := Any) (ok2 := Any) (.tup trivial (s3 _ _ e2) (.cons (.str _) (.cons (.int _) .nil))) (.tup trivial e3 (.cons (.str _) (.cons (.int _) .nil))) (lay2 (k := 1) (lay_str (hok o ho).2.aa) lay_int).shaped (lay2 (k := 1) (lay_str hy.2.aa) lay_int).shaped ?_
      rw [eqv_ref]
      exact w_exb (r _ (s2.trans s3))
    · refine w_nil (w_lenL (SqL.of eD) (w_c (w_I0 (w_exb ?_))))
      rw [List.length_map, filter_any, any_snd (fun o => decide (o.a = y.2.a ∧ o.n = y.2.n))]
      by_cases c : twiceB (as.map (·.2)) y.2 = true
      · refine ite_t c (w_ret (w_c ?_))
        have := q G (s1.trans s)
        rw [ew, show fault (as.map (·.2)) y.2 = some (Str.ofString "twice") from if_pos c] at this
        exact this
      · exact ite_f c (w_next (hRk _ _ ⟨rfl, s, c⟩))
  rintro σ' G1 ⟨rfl, sG1, c1⟩
  -- the last number
  with_reducible refine w_seq ?_
  refine w_asg (w_c (w_name ?_))
  with_reducible refine w_seq ?_
  refine w_for (w_iList (w_var rfl ⟨p, rfl, ⟨_, SqL.of (sG1 _ _ ep)⟩, ?_⟩))
  refine for_it (walk_list (xs := lsV as)) (fun k σ G => (∃ u6, σ = [some (.ref h), some (.int i), some (.int j), some (.ref z.1), some (.ref y.1), some (.ref p), u6, some (.int (lastN ((as.map (·.2)).take k) y.2.a)), none]) ∧ G = G1) ⟨⟨_, rfl⟩, rfl⟩ (fun k σ G _ e => by rw [e.2]; exact SqL.of (sG1 _ _ ep)) ?_ ?_
  · rintro k x σ G G' hk ⟨⟨u6, rfl⟩, rfl⟩ ⟨rfl, hx⟩
    rw [List.getElem?_map] at hx
    obtain ⟨o, ho, rfl⟩ := Option.map_eq_some_iff.mp hx
    obtain ⟨dx', d', sv', bv', hox, _⟩ := id (hok o (List.mem_of_getElem? ho)).1
    have hox1 := sG1 _ _ (s1 _ _ hox)
    have et : (as.map (·.2)).take (k + 1) = (as.map (·.2)).take k ++ [o.2] := by rw [List.take_add_one, List.getElem?_map, ho]; rfl
    refine w_name (w_ifS (w_test (w_op (w_fldV rfl hox1 LC.cl LC.n_author lfs_author (w_fldV rfl (sG1 _ _ (s1 _ _ hyx)) LC.cl LC.n_author lfs_author (w_eqS (w_exb (w_ite (fun c => ?_) (fun c => ?_)))))))))
    · refine w_asg (w_fldV rfl hox1 LC.cl LC.n_number lfs_number (w_name ⟨⟨some (.ref o.1), ?_⟩, rfl⟩))
      rw [et, lastN_app, if_pos c]
      rfl
    · refine w_next ⟨⟨some (.ref o.1), ?_⟩, rfl⟩
      rw [et, lastN_app, if_neg c]
      rfl
  rintro σ' G ⟨⟨u6, rfl⟩, rfl⟩
  rw [show (lsV as).length = (as.map (·.2)).length by rw [List.length_map, List.length_map], List.take_length]
  -- a gap
  with_reducible refine w_seq ?_
  refine w_ifS (w_test (w_op (w_fldV rfl (sG1 _ _ (s1 _ _ hyx)) LC.cl LC.n_number lfs_number (w_op (w_var rfl (w_c (w_I0 (w_neI (w_exb (w_ite (fun c => ?_) (fun c2 => ?_)))))))))))
  · refine w_ret (w_c ?_)
    have := q G (s1.trans sG1)
    rw [ew, show fault (as.map (·.2)) y.2 = some (Str.ofString "gap") by unfold fault; rw [if_neg c1, if_pos (show gapB (as.map (·.2)) y.2 = true from decide_eq_true c)]] at this
    exact this
  have c2' : ¬ gapB (as.map (·.2)) y.2 = true := fun e => c2 (of_decide_eq_true e)
  refine w_next ?_
  -- the order
  with_reducible refine w_seq ?_
  refine w_ifCut (Mid := fun σ' G' => σ' = [some (.ref h), some (.int i), some (.int j), some (.ref z.1), some (.ref y.1), some (.ref p), u6, some (.int (lastN (as.map (·.2)) y.2.a)), none] ∧ Same G G' ∧ ¬ ordB (as.map (·.2)) y.2 = true) ?_ ?_
  rotate_left
  · intro Rk hRk
    refine w_ifS (w_and (w_test (w_op (w_var rfl (w_c (w_I0 (w_exb (w_ite (fun c => ?_) (fun c => ?_)))))))))
    · cases hl : as.getLast? with
      | none =>
        rw [List.getLast?_eq_none_iff] at hl
        rw [hl] at hA
        have : (z.2.take j).length = 0 := by rw [hA]; rfl
        rw [List.length_take] at this
        omega
      | some o =>
        obtain ⟨ys, eas⟩ := List.getLast?_eq_some_iff.mp hl
        have hm : o ∈ as := by rw [eas]; exact List.mem_append_right _ (List.mem_singleton.mpr rfl)
        have eat : atI (lsV as) (-1) = some (.ref o.1) := by
          rw [eas]
          show atI (List.map _ _) _ = _
          rw [List.map_append]
          exact atI_last _ _
        obtain ⟨dx', d', sv', bv', hox, _⟩ := id (hok o hm).1
        have hox1 := sG1 _ _ (s1 _ _ hox)
        have hyx1 := sG1 _ _ (s1 _ _ hyx)
        have eo : ordB (as.map (·.2)) y.2 = !PySem.W.dataLt (keyD o.2) (keyD y.2) := by
          unfold ordB
          rw [List.getLast?_map, hl]
          rfl
        refine w_test (w_op (w_tupV (w_cons (w_fld (w_op (w_var rfl (w_un (w_c (w_U ?_)))))))))
        refine w_ixL (SqL.of (sG1 _ _ ep)) eat ⟨o.1, C, dx', _, _, rfl, hox1, LC.cl, LC.n_stamp, lfs_stamp, ?_⟩
        refine w_cons (w_fld (w_op (w_var rfl (w_un (w_c (w_U ?_))))))
        refine w_ixL (SqL.of (sG1 _ _ ep)) eat ⟨o.1, C, dx', _, _, rfl, hox1, LC.cl, LC.n_author, lfs_author, w_nil ⟨sz (by simp), w_new fun t2 G2 _ s2 e2 => ?_⟩⟩
        refine w_tupV (w_cons (w_fldV rfl (s2 _ _ hyx1) LC.cl LC.n_stamp lfs_stamp (w_cons (w_fldV rfl (s2 _ _ hyx1) LC.cl LC.n_author lfs_author (w_nil ⟨sz (by simp), w_new fun t3 G3 _ s3 e3 => ?_⟩)))))
        refine w_geD (ok := Any) (ok2 := Any) (d := keyD o.2) (e := keyD y.2) (dn_key (s3 _ _ e2) trivial) (dn_key e3 trivial) rfl rfl rfl (fun e => nomatch e) (key_depth _ _) (w_exb ?_)
        rw [← eo]
        by_cases c3 : ordB (as.map (·.2)) y.2 = true
        · refine ite_t c3 (w_ret (w_c ?_))
          have := q G3 (((s1.trans sG1).trans s2).trans s3)
          rw [ew, show fault (as.map (·.2)) y.2 = some (Str.ofString "order") by unfold fault; rw [if_neg c1, if_neg c2', if_pos c3]] at this
          exact this
        · exact ite_f c3 (w_next (hRk _ _ ⟨rfl, s2.trans s3, c3⟩))
    · refine ite_f (by decide) (w_next (hRk _ _ ⟨rfl, Same.refl G, ?_⟩))
      have : as = [] := by
        rw [← hA, show j = 0 by omega]
        rfl
      rw [this]
      exact Bool.false_ne_true
  rintro σ' G2 ⟨rfl, sG2, c3⟩
  have sA := (s1.trans sG1).trans sG2
  -- who has seen it
  with_reducible refine w_seq ?_
  refine w_ifCut (Mid := fun σ' G => σ' = [some (.ref h), some (.int i), some (.int j), some (.ref z.1), some (.ref y.1), some (.ref p), u6, some (.int (lastN (as.map (·.2)) y.2.a)), none] ∧ Same G2 G ∧ ¬ behB (as.map (·.2)) y.2 = true) ?_ ?_
  rotate_left
  · intro Rk hRk
    have ep2 := sG2 _ _ (sG1 _ _ ep)
    refine w_ifS (w_test (w_op (w_cb (w_cons (w_lc (w_iList (w_var rfl ⟨p, rfl, ⟨_, SqL.of ep2⟩, ?_⟩)))))))
    refine lcLs (ls := as) (fun o => decide (y.2.n ≤ cnt o.2.ps y.2.a)) (fun G s => SqL.of (s _ _ ep2)) (by omega) (fun _ => rfl) (fun _ => rfl) (fun o ho G s R r => ?_) fun D G _ s eD => ?_
    · obtain ⟨dx', d', sv', bv', hox, _⟩ := id (hok o ho).1
      refine w_test (w_op (w_methV rfl (s _ _ (sA _ _ hox)) lfs_count (w_cons (w_fldV rfl (s _ _ (sA _ _ hyx)) LC.cl LC.n_author lfs_author (w_nil ⟨o.1, y.2.a, o.2, rfl, (hok o ho).1.same (sA.trans s), ?_⟩)))))
      exact w_fldV rfl (s _ _ (sA _ _ hyx)) LC.cl LC.n_number lfs_number (w_I0 (w_exb (r _ (Same.refl G))))
    · refine w_nil (w_lenL (SqL.of eD) (w_c (w_I0 (w_exb ?_))))
      rw [List.length_map, filter_any, any_snd (fun o => decide (y.2.n ≤ cnt o.ps y.2.a))]
      by_cases c : behB (as.map (·.2)) y.2 = true
      · refine ite_t c (w_ret (w_c ?_))
        have := q G (sA.trans s)
        rw [ew, show fault (as.map (·.2)) y.2 = some (Str.ofString "behind") by unfold fault; rw [if_neg c1, if_neg c2', if_neg c3, if_pos c]] at this
        exact this
      · exact ite_f c (w_next (hRk _ _ ⟨rfl, s, c⟩))
  rintro σ' G3 ⟨rfl, sG3, c4⟩
  have hf : fault (as.map (·.2)) y.2 = none := by unfold fault; rw [if_neg c1, if_neg c2', if_neg c3, if_neg c4]
  rw [hf] at ew
  have sB := sA.trans sG3
  have hil : i < zs.length := (List.getElem?_eq_some_iff.mp ez).1
  -- unlike
  with_reducible refine w_seq ?_
  refine w_for (w_iList (w_sl (w_var rfl (w_noPart (w_part (w_var rfl (w_exi (w_slLV (SqL.of (sB _ _ hz.hh)) fun p2 G4 p20 s4 ep2 => ?_))))))))
  rw [cutV_to (by rw [List.length_map]; omega), ← List.map_take] at ep2
  refine ⟨p2, rfl, ⟨_, SqL.of ep2⟩, ?_⟩
  have sC := sB.trans s4
  refine for_it (walk_list (xs := (zs.take i).map fun z => V.ref z.1)) (fun k σ G => (∃ u8, σ = [some (.ref h), some (.int i), some (.int j), some (.ref z.1), some (.ref y.1), some (.ref p), u6, some (.int (lastN (as.map (·.2)) y.2.a)), u8]) ∧ Same G4 G ∧
    (((hsL zs).take i).take k).any (fun row => match row[j]? with | some M => !PyData.eqv (valD M) (valD y.2) | none => false) = false) ⟨⟨_, rfl⟩, Same.refl _, rfl⟩ (fun k σ G _ e => SqL.of (e.2.1 _ _ ep2)) ?_ ?_
  · rintro k x σ G G' hk ⟨⟨u8, rfl⟩, sk, ek⟩ ⟨rfl, hx⟩
    rw [List.getElem?_map] at hx
    obtain ⟨zk, hzk, rfl⟩ := Option.map_eq_some_iff.mp hx
    have hzkm : zk ∈ zs := List.mem_of_mem_take (List.mem_of_getElem? hzk)
    have hzz' := hz.hz zk hzkm
    have sD := sC.trans sk
    have erow : ((hsL zs).take i)[k]? = some (zk.2.map (·.2)) := by
      unfold hsL
      rw [← List.map_take, List.getElem?_map, hzk]
      rfl
    have et : ((hsL zs).take i).take (k + 1) = ((hsL zs).take i).take k ++ [zk.2.map (·.2)] := by rw [List.take_add_one, erow]; rfl
    refine w_name (w_ifS (w_and (w_test (w_op (w_var rfl (w_cb (w_cons (w_var rfl (w_nil (w_lenL (SqL.of (sD _ _ hzz'.1)) (w_I0 (w_exb (w_ite (fun c => ?_) (fun c => ?_))))))))))))))
    · have hlt : j < zk.2.length := by
        rw [List.length_map] at c
        omega
      obtain ⟨yk, eyk⟩ : ∃ yk, zk.2[j]? = some yk := ⟨_, List.getElem?_eq_getElem hlt⟩
      have hyk := hzz'.2.1.get eyk
      obtain ⟨dx', d', sv', bv', hkx, _⟩ := id hyk.1
      refine w_test (w_op (w_meth (w_op (w_var rfl (w_var rfl (w_ixL (SqL.of (sD _ _ hzz'.1)) (atI_nat (by rw [List.getElem?_map, eyk]; rfl)) ⟨yk.1, dx', _, rfl, sD _ _ hkx, lfs_value, w_nil ⟨yk.1, yk.2, rfl, hyk.1.same sD, fun v1 G5 s5 dv1 => ?_⟩⟩))))))
      refine w_methV rfl (s5 _ _ (sD _ _ hyx)) lfs_value (w_nil ⟨y.1, y.2, rfl, hy.1.same (sD.trans s5), fun v2 G6 s6 dv2 => ?_⟩)
      refine w_neD (dv1.same s6) dv2 hyk.2.lay.shaped hy.2.lay.shaped (w_exb ?_)
      cases hq : !PyData.eqv (valD yk.2) (valD y.2) with
      | true =>
        refine ite_t rfl (w_ret (w_c ?_))
        have hu : unlikeB (hsL zs) i j y.2 = true := by
          unfold unlikeB
          rw [List.any_eq_true]
          refine ⟨_, List.mem_of_getElem? erow, ?_⟩
          rw [List.getElem?_map, eyk]
          exact hq
        have := q G6 ((sD.trans s5).trans s6)
        rw [ew] at this
        dsimp only at this
        rw [if_pos hu] at this
        exact this
      | false =>
        refine ite_f (by decide) (w_next ⟨⟨_, rfl⟩, (sk.trans s5).trans s6, ?_⟩)
        rw [et, List.any_append, ek, Bool.false_or, List.any_cons, List.any_nil, Bool.or_false, List.getElem?_map, eyk]
        exact hq
    · refine ite_f (by decide) (w_next ⟨⟨_, rfl⟩, sk, ?_⟩)
      rw [et, List.any_append, ek, Bool.false_or, List.any_cons, List.any_nil, Bool.or_false, List.getElem?_eq_none (by rw [List.length_map] at c ⊢; omega)]
  · rintro σ G ⟨⟨u8, rfl⟩, sk, ek⟩
    have hu : ¬ unlikeB (hsL zs) i j y.2 = true := by
      rw [List.take_of_length_le (by rw [List.length_map, List.length_take, List.length_take]; unfold hsL; rw [List.length_map]; omega)] at ek
      exact fun e => Bool.false_ne_true (ek.symm.trans e)
    with_reducible refine w_ret ?_
    refine w_c ?_
    have := q G (sC.trans sk)
    rw [ew] at this
    dsimp only at this
    rw [if_neg hu] at this
    exact this
theorem word_ne {hs : List (List Lt)} {i j : Nat} {w : Str} (h : wordOf hs i j = some w) : w ≠ Str.ofString "" := by
  have hf : ∀ {ls : List Lt} {L : Lt} {w : Str}, fault ls L = some w → w ≠ Str.ofString "" := fun {ls L w} h => by
    unfold fault at h
    split at h
    · rw [← Option.some.inj h]; decide
    split at h
    · rw [← Option.some.inj h]; decide
    split at h
    · rw [← Option.some.inj h]; decide
    split at h
    · rw [← Option.some.inj h]; decide
    · exact nomatch h
  unfold wordOf at h
  split at h
  · exact nomatch h
  · split at h
    · rename_i e
      rw [← Option.some.inj h]
      exact hf e
    · split at h
      · rw [← Option.some.inj h]; decide
      · exact nomatch h
/-- _law_due: slots 0:histories 1:due 2:index 3:place 4:word -/
def t__law_due (K : PySem.W.Frag) (C_Letter : Addr) : TS := (tSeq (tAsg (tLst tNil) (gName 1))
  (tSeq (tFor (iRng1 (tCons (tCB (qLenSeq K) (tCons (tVar 0) tNil)) tNil)) (gName 2) (tFor (iRng1 (tCons (tCB (qLenSeq K) (tCons (tOp (rIxL K) (tVar 0) (tVar 2)) tNil)) tNil)) (gName 3) (tSeq (tAsg (tCall (spLawWord K C_Letter) [] C8.E0 (tCons (tVar 0) (tCons (tVar 2) (tCons (tVar 3) tNil)))) (gName 4))
  (tIfS (tTest (tOp rNe (tVar 4) (tC (.str "")))) (tDrop (tBM K "list" rAppend (tVar 1) (tCons (tTup (tCons (tVar 4) (tCons (tVar 2) (tCons (tVar 3) tNil)))) tNil))) tNext))))
  (tRet (tVar 1))))
theorem l__law_due (h : spLawDue K C vs H Q E) : vs.length = 1 := by obtain ⟨h, zs, rfl, _⟩ := h; rfl
theorem r__law_due (LC : IsC_Letter K C) (h : spLawDue K C vs H Q E) : t__law_due K C { nx := fun _ H' => Q .non H', rt := Q } (start ["histories", "due", "index", "place", "word"] vs) H := by
  obtain ⟨h, zs, rfl, hz, q⟩ := h
  unfold t__law_due
  have hzl : (hsL zs).length = zs.length := by unfold hsL; rw [List.length_map]
  have hz20 := hz.hn
  refine w_seq (w_asg (w_lstV (w_nil ⟨sz (by simp), w_new fun F H1 f0 s1 e1 => w_name ?_⟩)))
  with_reducible refine w_seq ?_
  refine w_for (w_cb (w_cons (w_cb (w_cons (w_var rfl (w_nil (w_lenL (SqL.of (s1 _ _ hz.hh)) (w_nil ?_))))))))
  refine w_rng (by omega) (by rw [List.length_map]; omega) (fun i σ G => (∃ u2 u3 u4, σ = [some (.ref h), some (.ref F), u2, u3, u4]) ∧ Same H G ∧ ∃ fs, G F = some (.lst fs) ∧ DnAll Any G fs (dueTo (hsL zs) i)) ⟨⟨_, _, _, rfl⟩, s1, [], e1, .nil⟩ ?_ ?_
  · rintro i σ G hi ⟨⟨u2, u3, u4, rfl⟩, sG, fs, f1, f2⟩
    have hil : i < zs.length := by
      rw [List.length_map] at hi
      omega
    obtain ⟨z, ez⟩ : ∃ z, zs[i]? = some z := ⟨_, List.getElem?_eq_getElem hil⟩
    have hzz := hz.hz z (List.mem_of_getElem? ez)
    have er := rowAt_hsL ez
    refine w_name ?_
    with_reducible refine w_for ?_
    refine w_cb (w_cons (w_cb (w_cons (w_op (w_var rfl (w_var rfl (w_ixL (SqL.of (sG _ _ hz.hh)) (atI_nat (by rw [List.getElem?_map, ez]; rfl)) (w_nil (w_lenL (SqL.of (sG _ _ hzz.1)) (w_nil ?_))))))))))
    refine w_rng (by omega) (by rw [List.length_map]; omega) (fun j σ G => (∃ u3 u4, σ = [some (.ref h), some (.ref F), some (.int (i : Nat)), u3, u4]) ∧ Same H G ∧ ∃ fs, G F = some (.lst fs) ∧ DnAll Any G fs (dueTo (hsL zs) i ++ rowTo (hsL zs) i j)) ⟨⟨_, _, rfl⟩, sG, fs, f1, by rw [show rowTo (hsL zs) i 0 = [] from rfl, List.append_nil]; exact f2⟩ ?_ ?_
    · clear sG f1 f2 fs
      rintro j σ G hj ⟨⟨u3, u4, rfl⟩, sG, fs, f1, f2⟩
      have hjl : j < z.2.length := by
        rw [List.length_map] at hj
        omega
      obtain ⟨y, ey⟩ : ∃ y, z.2[j]? = some y := ⟨_, List.getElem?_eq_getElem hjl⟩
      have hfl : fs.length ≤ 100000 := by
        rw [f2.len, List.length_append]
        have h1 := dueTo_len hz.rows i
        have h2 := rowTo_len (hs := hsL zs) (i := i) j
        have := hzz.2.2
        omega
      refine w_name ?_
      with_reducible refine w_seq ?_
      refine w_asg (w_call (w_cons (w_var rfl (w_cons (w_var rfl (w_cons (w_var rfl (w_nil ⟨h, zs, i, j, z, y, rfl, hz.same sG, ez, ey, fun G2 s2 => w_name ?_⟩))))))))
      with_reducible refine w_ifS ?_
      refine w_test (w_op (w_var rfl (w_c (w_neS (w_exb ?_)))))
      cases hw : wordOf (hsL zs) i j with
      | none =>
        refine ite_f (by simp) (w_next ⟨⟨_, _, rfl⟩, sG.trans s2, fs, s2 _ _ f1, ?_⟩)
        rw [rowTo_succ]
        unfold cell
        rw [hw, List.append_nil]
        exact f2.same s2
      | some w =>
        have hne : w ≠ Str.ofString "" := word_ne hw
        refine ite_t (by show decide (w ≠ _) = true; exact decide_eq_true hne) (w_drop (w_bm (w_var rfl (w_tyL (s2 _ _ f1) (w_cons (w_tupV (w_cons (w_var rfl (w_cons (w_var rfl (w_cons (w_var rfl (w_nil ⟨sz (by simp), ?_⟩)))))))))))))
        refine w_new fun T G3 t0 s3 eT => w_nil (w_appV (s3 _ _ (s2 _ _ f1)) hfl fun G4 k4 e4 => ⟨⟨_, _, rfl⟩, Same.kp0 ((sG.trans s2).trans s3) k4 f0, _, e4, ?_⟩)
        have tk := Tk.kpL k4 (s3 _ _ (s2 _ _ f1))
        rw [rowTo_succ, ← List.append_assoc]
        refine DnAll.app (dnall_tk tk (plain_ff _ _ _) ((f2.same s2).same s3)) ?_
        unfold cell
        rw [hw]
        exact .cons (.tup trivial (tk _ _ eT) (.cons (.str _) (.cons (.int _) (.cons (.int _) .nil)))) .nil
    · rintro σ G2 ⟨⟨u3', u4', rfl⟩, sG2, fs2, f12, f22⟩
      refine ⟨⟨_, _, _, rfl⟩, sG2, fs2, f12, ?_⟩
      rw [dueTo_succ, er, List.length_map]
      rw [List.length_map, Int.toNat_natCast] at f22
      exact f22
  · rintro σ G ⟨⟨u2, u3, u4, rfl⟩, sG, fs, f1, f2⟩
    with_reducible refine w_ret ?_
    refine w_var rfl (q F fs G f0 sG f1 ?_)
    rw [List.length_map, Int.toNat_natCast] at f2
    unfold dueL
    rw [hzl]
    exact f2
end

/-! ### people -/
def NAMES8 : List Str := ["an", "ann", "anna", "ann2", "b", "b7", "hugohugohugo", "h0"]
theorem ascii_of (z : String) : ascii (Str.ofString z) = true := by
  unfold ascii
  rw [List.all_eq_true]
  intro c hc
  have h : c ∈ z.toList.map fun x => x.toNat := by rw [Str.ofString_eq_toList] at hc; simpa using hc
  obtain ⟨x, _, rfl⟩ := List.mem_map.mp h
  have := x.valid
  exact decide_eq_true (by rcases this with h | ⟨_, h⟩ <;> (have e : x.toNat = x.val.toNat := rfl; omega))
theorem tl_app (a b : Str) : (a ++ b).cps.toList = a.cps.toList ++ b.cps.toList := TL.tl_append a b
theorem ascii_app {a b : Str} (h : ascii a = true) (h' : ascii b = true) : ascii (a ++ b) = true := by
  unfold ascii at h h' ⊢
  rw [tl_app, List.all_append, h, h']
  rfl
theorem names8_ascii : ∀ z ∈ NAMES8, ascii z = true := by decide
def spPeople (K : PySem.W.Frag) : Sp := fun vs H Q _ => ∃ (p : Addr) (n : Int), vs = [.ref p, .int n] ∧ Stm H p ∧ 0 ≤ n ∧ n ≤ 2 ∧
  ∀ a (ps : List Str) H', H a = none → Kp p H H' → Stm H' p → H' a = some (.lst (ps.map V.str)) → (∀ x ∈ ps, x ∈ NAMES8) → n ≤ ps.length → ps.length ≤ 8 → Q (.ref a) H'
section
variable {K : PySem.W.Frag} {vs : List V} {H : Hp} {Q : VK} {E : XK}
/-- _law_people: slots 0:stream 1:least 2:names 3:start 4:step 5:many 6:k -/
def t__law_people (K : PySem.W.Frag) : TS := (tSeq (tAsg (tLst (tCons (tC (.str "an")) (tCons (tC (.str "ann")) (tCons (tC (.str "anna")) (tCons (tC (.str "ann2")) (tCons (tC (.str "b")) (tCons (tC (.str "b7")) (tCons (tC (.str "hugohugohugo")) (tCons (tC (.str "h0")) tNil))))))))) (gName 2))
  (tSeq (tAsg (tCall (spNext K) [] C8.E0 (tCons (tVar 0) (tCons (tC (.int 8)) tNil))) (gName 3))
  (tSeq (tAsg (tOp qAdd (tC (.int 1)) (tOp qMul (tC (.int 2)) (tCall (spNext K) [] C8.E0 (tCons (tVar 0) (tCons (tC (.int 4)) tNil))))) (gName 4))
  (tSeq (tAsg (tOp qAdd (tVar 1) (tCall (spNext K) [] C8.E0 (tCons (tVar 0) (tCons (tOp qSub (tC (.int 6)) (tVar 1)) tNil)))) (gName 5))
  (tSeq (tIfS (tTest (tOp rEq (tCall (spNext K) [] C8.E0 (tCons (tVar 0) (tCons (tC (.int 16)) tNil))) (tC (.int 0)))) (tAsg (tOp qAdd (tC (.int 6)) (tCall (spNext K) [] C8.E0 (tCons (tVar 0) (tCons (tC (.int 3)) tNil)))) (gName 5)) tNext)
  (tRet (tLc (iRng1 (tCons (tVar 5) tNil)) (gName 6) tYes (tOp (rIxL K) (tVar 2) (tOp qMod (tOp qAdd (tVar 3) (tOp qMul (tVar 4) (tVar 6))) (tC (.int 8)))) [6])))))))
theorem l__law_people (h : spPeople K vs H Q E) : vs.length = 2 := by obtain ⟨p, n, rfl, _⟩ := h; rfl
theorem r__law_people (h : spPeople K vs H Q E) : t__law_people K { nx := fun _ H' => Q .non H', rt := Q } (start ["stream", "least", "names", "start", "step", "many", "k"] vs) H := by
  obtain ⟨p, n, rfl, hs, n0, n2, q⟩ := h
  unfold t__law_people
  refine w_seq (w_asg (w_lstV (w_cons (w_c (w_cons (w_c (w_cons (w_c (w_cons (w_c (w_cons (w_c (w_cons (w_c (w_cons (w_c (w_cons (w_c (w_nil ⟨sz (by simp), ?_⟩)))))))))))))))))))
  refine w_new fun N H1 f1 t1 e1 => w_name ?_
  have e1' : H1 N = some (.lst (NAMES8.map V.str)) := e1
  have s1 := hs.same t1
  walk_at "w"
  refine ⟨p, 8, rfl, s1, by decide, by decide, fun a0 H2 k2 s2 a1 a2 => ?_⟩
  walk_at "w"
  refine ⟨p, 4, rfl, s2, by decide, by decide, fun b0 H3 k3 s3 b1 b2 => ?_⟩
  walk_at "w"
  refine ⟨p, 6 - n, rfl, s3, by omega, by omega, fun c0 H4 k4 s4 c1 c2 => ?_⟩
  refine w_I0 (w_name ?_)
  walk_at "b"
  have nN : N ≠ p := hs.ne f1
  refine w_ifCut (Mid := fun σ' G => ∃ m : Int, σ' = [some (.ref p), some (.int n), some (.ref N), some (.int a0), some (.int (1 + 2 * b0)), some (.int m), none] ∧ Kp p H1 G ∧ Stm G p ∧ n ≤ m ∧ m ≤ 8) ?_ ?_
  · rintro σ' G ⟨m, rfl, kG, sG, m1, m2⟩
    have eN : G N = some (.lst (NAMES8.map V.str)) := kG _ _ nN e1'
    refine w_ret (w_lc (w_iRng1 (w_cons (w_var rfl (w_nil ⟨m, rfl, by omega, by omega, fun D hD => ?_⟩)))))
    refine lc_it walk_range (fun k G' => Same G G' ∧ ∃ ps : List Str, G' D = some (.lst (ps.map V.str)) ∧ ps.length = k ∧ ∀ x ∈ ps, x ∈ NAMES8) ⟨Same.upd (Same.refl G) hD, [], upd_same, rfl, fun x hx => nomatch hx⟩ (fun _ _ _ _ => trivial) ?_ ?_
    · rintro k x G1 G2 hk ⟨sG1, ps, eD, hl, hps⟩ ⟨rfl, rfl⟩
      refine w_name ⟨rfl, w_yes (iteT_ ?_)⟩
      walk_at "w"
      have h0 : 0 ≤ (a0 + (1 + 2 * b0) * (0 + (k : Int))) % 8 := Int.emod_nonneg _ (by decide)
      have h8 : (a0 + (1 + 2 * b0) * (0 + (k : Int))) % 8 < 8 := Int.emod_lt_of_pos _ (by decide)
      generalize (a0 + (1 + 2 * b0) * (0 + (k : Int))) % 8 = r at h0 h8
      have hr : r.toNat < NAMES8.length := by
        show r.toNat < 8
        omega
      refine w_ixL (SqL.of (sG1 _ _ eN)) (v := .str (NAMES8[r.toNat])) (atI_of h0 (by rw [List.getElem?_map, List.getElem?_eq_getElem hr]; rfl)) ⟨_, eD, ?_, ?_, ps ++ [NAMES8[r.toNat]], ?_, ?_, ?_⟩
      · rw [List.length_map, hl]
        exact Nat.lt_of_le_of_lt (show k ≤ 8 by omega) (by decide)
      · exact fun b o e2 => by
          rw [upd_ne (ne_of_none e2 hD)]
          exact sG1 _ _ e2
      · rw [upd_same, List.map_append]
        rfl
      · rw [List.length_append, hl]
        rfl
      · intro x hx
        rcases List.mem_append.mp hx with hx | hx
        · exact hps x hx
        · rw [List.mem_singleton.mp hx]
          exact List.getElem_mem hr
    · rintro G' ⟨sG', ps, eD, hl, hps⟩
      have nD : D ≠ p := sG.ne hD
      exact q D ps G' (same_none t1 (kG.free nD hD)) (((Same.kp t1).trans kG).trans (Same.kp sG')) (sG.same sG') eD hps (by omega) (by omega)
  · intro Rk hRk
    walk_at "w"
    refine ⟨p, 16, rfl, s4, by decide, by decide, fun d0 H5 k5 s5 d1 d2 => ?_⟩
    have k15 := ((k2.trans k3).trans k4).trans k5
    walk_at "w"
    refine w_ite (fun c => ?_) (fun c => ?_)
    · walk_at "w"
      refine ⟨p, 3, rfl, s5, by decide, by decide, fun m0 H6 k6 s6 m1 m2 => ?_⟩
      walk_at "w"
      exact hRk _ _ ⟨6 + m0, rfl, k15.trans k6, s6, by omega, by omega⟩
    · walk_at "w"
      exact hRk _ _ ⟨n + c0, rfl, k15, s5, by omega, by omega⟩
end

/-! ### a history without faults -/
def HistOk (Ls : List Lt) : Prop := ∀ j L, Ls[j]? = some L → fault (Ls.take j) L = none
structure HI (Ls : List Lt) (ks : List Str) (f : Str → Int) (i : Nat) : Prop where
  ok : HistOk Ls
  last : ∀ a, lastN Ls a = cv ks f a
  num : ∀ o ∈ Ls, o.n ≤ cv ks f o.a
  cnt : ∀ o ∈ Ls, ∀ q ∈ o.ps, q.2 ≤ cv ks f q.1
  stamp : ∀ o ∈ Ls, o.s ≤ 2 * (i : Int) + 1
  low : ∀ a, 0 ≤ cv ks f a ∧ cv ks f a ≤ i
theorem HistOk.snoc {Ls : List Lt} {L : Lt} (h : HistOk Ls) (k : fault Ls L = none) : HistOk (Ls ++ [L]) := fun j M e => by
  by_cases hj : j < Ls.length
  · rw [List.getElem?_append_left hj] at e
    rw [List.take_append_of_le_length (Nat.le_of_lt hj)]
    exact h j M e
  · rw [List.getElem?_append_right (by omega)] at e
    have : j = Ls.length := by
      have := (List.getElem?_eq_some_iff.mp e).1
      simp at this
      omega
    subst this
    simp at e
    subst e
    rw [List.take_left]
    exact k
theorem HI.step {Ls : List Lt} {ks ks' : List Str} {f : Str → Int} {i : Nat} (h : HI Ls ks f i) (wf : ∀ o ∈ Ls, Wf o) {L : Lt} (hm : ∀ b, b ∈ ks' ↔ b ∈ ks ∨ b = L.a) (hn : L.n = cv ks f L.a + 1) (nd : (L.ps.map (·.1)).Nodup)
    (hs : 2 * ((i : Int) + 1) ≤ L.s) (hs2 : L.s ≤ 2 * ((i : Int) + 1) + 1) (hp : ∀ q ∈ L.ps, q.2 ≤ cv ks' (fun b => if b = L.a then L.n else f b) q.1) : HI (Ls ++ [L]) ks' (fun b => if b = L.a then L.n else f b) (i + 1) := by
  have ec : ∀ b, cv ks' (fun b => if b = L.a then L.n else f b) b = if b = L.a then L.n else cv ks f b := fun b => by
    unfold cv
    by_cases e : b = L.a
    · subst e
      rw [if_pos ((hm _).mpr (.inr rfl))]
      simp
    · by_cases m : b ∈ ks
      · rw [if_pos ((hm _).mpr (.inl m)), if_pos m]
      · rw [if_neg (fun z => ((hm _).mp z).elim m e), if_neg e, if_neg m]
  have hl := h.low L.a
  have le : ∀ b, cv ks f b ≤ cv ks' (fun b => if b = L.a then L.n else f b) b := fun b => by
    rw [ec]
    split
    · rename_i e
      subst e
      omega
    · exact Int.le_refl _
  have hf : fault Ls L = none := by
    unfold fault
    rw [if_neg ?_, if_neg ?_, if_neg ?_, if_neg ?_]
    · unfold behB
      rw [List.any_eq_true]
      rintro ⟨o, ho, e⟩
      obtain ⟨p, hp', e1, e2⟩ := (cnt_ge (wf o ho).nd (by omega)).mp (of_decide_eq_true e)
      have := h.cnt o ho p hp'
      rw [e1] at this
      omega
    · unfold ordB
      cases hl : Ls.getLast? with
      | none => exact Bool.false_ne_true
      | some o =>
        have := h.stamp o (List.mem_of_getLast? hl)
        show ¬ (!PySem.W.dataLt (keyD o) (keyD L)) = true
        rw [show PySem.W.dataLt (keyD o) (keyD L) = true from Wp.lt_key _ _ (by omega)]
        exact Bool.false_ne_true
    · unfold gapB
      rw [h.last, decide_eq_true_eq]
      exact fun z => z hn
    · unfold twiceB
      rw [List.any_eq_true]
      rintro ⟨o, ho, e⟩
      obtain ⟨e1, e2⟩ := of_decide_eq_true e
      have := h.num o ho
      rw [e1] at this
      omega
  refine ⟨h.ok.snoc hf, fun a => ?_, fun o ho => ?_, fun o ho q hq => ?_, fun o ho => ?_, fun a => ?_⟩
  · rw [lastN_app, ec]
    by_cases e : L.a = a
    · rw [if_pos e, if_pos e.symm]
    · rw [if_neg e, if_neg (fun z => e z.symm)]
      exact h.last a
  · rcases List.mem_append.mp ho with ho | ho
    · exact Int.le_trans (h.num o ho) (le _)
    · rw [List.mem_singleton.mp ho, ec, if_pos rfl]
      exact Int.le_refl _
  · rcases List.mem_append.mp ho with ho | ho
    · exact Int.le_trans (h.cnt o ho q hq) (le _)
    · rw [List.mem_singleton.mp ho] at hq
      exact hp q hq
  · rcases List.mem_append.mp ho with ho | ho
    · have := h.stamp o ho
      omega
    · rw [List.mem_singleton.mp ho]
      omega
  · rw [ec]
    have := h.low a
    split <;> omega

/-! ### the history that the law draws -/
def spHistory (K : PySem.W.Frag) (C : Addr) : Sp := fun vs H Q _ => ∃ (sc : Addr) (ns : List Int) (pa : Addr) (ps : List Str), vs = [.ref sc, .ref pa] ∧ SqL K H sc (ns.map V.int) ∧ ns.length ≤ 63 ∧ H pa = some (.lst (ps.map V.str)) ∧ (∀ x ∈ ps, ascii x = true) ∧ 1 ≤ ps.length ∧ ps.length ≤ 8 ∧
  ∀ p (ls : List (Addr × Lt)) H', H p = none → Same H H' → H' p = some (.lst (lsV ls)) → LsOk Any C H' ls → HistOk (ls.map (·.2)) → ls.length ≤ 40 → Q (.ref p) H'
theorem Fm.kx {p1 c : Addr} {ys : List V} {cs : List (L2.Key × V)} {G3 G : Hp} (h1 : G3 p1 = some (.lst ys)) (hc : G3 c = some (.dK cs)) (k : ∀ b o, b ≠ p1 → b ≠ c → G3 b = some o → G b = some o) : Fm (Off c) G3 G :=
  ⟨fun b xs e => k b _ (ne_kind e h1 fun z => by cases z) (ne_kind e hc fun z => by cases z) e, fun b C dx fs e => k b _ (ne_kind e h1 fun z => by cases z) (ne_kind e hc fun z => by cases z) e, fun b kvs e n => k b _ (ne_kind e h1 fun z => by cases z) n e⟩
theorem say_lay {z : Str} (h : ascii z = true) : Lay 3 (.tuple [.str "say", .str z]) := (lay2 (k := 1) (lay_str (ascii_of "say")) (lay_str h)).up
theorem str_small {i : Int} (h0 : 0 ≤ i) (h1 : i < 64) : (Str.ofString "t").length + (Str.ofString (toString i)).length ≤ sizeLine := by
  have key : ∀ n : Fin 64, (Str.ofString (toString ((n.val : Nat) : Int))).length ≤ 4 := by decide +kernel
  have := key ⟨i.toNat, by omega⟩
  rw [show ((i.toNat : Nat) : Int) = i from Int.toNat_of_nonneg h0] at this
  exact Nat.le_trans (Nat.add_le_add (show (Str.ofString "t").length ≤ 1 by decide) this) (by decide)
section
variable {K : PySem.W.Frag} {C : Addr} {vs : List V} {H : Hp} {Q : VK} {E : XK}
/-- _law_history: slots 0:script 1:people 2:letters 3:counts 4:k 5:stream 6:author 7:known 8:name 9:seen -/
def t__law_history (K : PySem.W.Frag) (C_Letter : Addr) : TS := (tSeq (tAsg (tLst tNil) (gName 2))
  (tSeq (tAsg tDNewK (gName 3))
  (tSeq (tFor (iRng2 (tCons (tC (.int 1)) (tCons (tCB qMin2 (tCons (tCB (qLenSeq K) (tCons (tVar 0) tNil)) (tCons (tC (.int 41)) tNil))) tNil))) (gName 4) (tSeq (tAsg (tCall (spStream K) [] C8.E0 (tCons (tOp (rIxL K) (tVar 0) (tVar 4)) (tCons (tVar 4) tNil))) (gName 5))
  (tSeq (tAsg (tOp (rIxL K) (tVar 1) (tCall (spNext K) [] C8.E0 (tCons (tVar 5) (tCons (tCB (qLenSeq K) (tCons (tVar 1) tNil)) tNil)))) (gName 6))
  (tSeq (sDPut (tVar 3) (tVar 6) (tOp qAdd (tDGet2 (tVar 3) (tVar 6) (tC (.int 0))) (tC (.int 1))))
  (tSeq (tAsg tDNewK (gName 7))
  (tSeq (tLock (tFor (iKeys (tVar 3)) (gName 8) (tSeq (sDPut (tVar 7) (tVar 8) (tDGet (tVar 3) (tVar 8)))
  (tIfS (tAnd (tTest (tOp rNe (tVar 8) (tVar 6))) (tTest (tOp rEq (tCall (spNext K) [] C8.E0 (tCons (tVar 5) (tCons (tC (.int 3)) tNil))) (tC (.int 0))))) (sDPut (tVar 7) (tVar 8) (tCall (spNext K) [] C8.E0 (tCons (tVar 5) (tCons (tOp qAdd (tDGet (tVar 3) (tVar 8)) (tC (.int 1))) tNil)))) tNext))))
  (tSeq (tAsg (tCB (qTupleOf K) (tCons (tLc (iList K (tCB Wp.qSortedD (tCons (tVar 7) tNil))) (gName 8) (tTest (tOp qGt (tDGet (tVar 7) (tVar 8)) (tC (.int 0)))) (tTup (tCons (tVar 8) (tCons (tDGet (tVar 7) (tVar 8)) tNil))) [8]) tNil)) (gName 9))
  (tDrop (tBM K "list" rAppend (tVar 2) (tCons (tMake C_Letter (spInit K C_Letter) [] C8.E0 (tCons (tVar 6) (tCons (tDGet (tVar 3) (tVar 6)) (tCons (tOp qAdd (tOp qMul (tC (.int 2)) (tVar 4)) (tCall (spNext K) [] C8.E0 (tCons (tVar 5) (tCons (tC (.int 2)) tNil)))) (tCons (tVar 9) (tCons (tTup (tCons (tC (.str "say")) (tCons (tOp qAddS (tC (.str "t")) (tCB qStrInt (tCons (tVar 4) tNil))) tNil))) tNil)))))) tNil))))))))))
  (tRet (tVar 2)))))
theorem l__law_history (h : spHistory K C vs H Q E) : vs.length = 2 := by obtain ⟨sc, ns, pa, ps, rfl, _⟩ := h; rfl
theorem r__law_history (LC : IsC_Letter K C) (h : spHistory K C vs H Q E) : t__law_history K C { nx := fun _ H' => Q .non H', rt := Q } (start ["script", "people", "letters", "counts", "k", "stream", "author", "known", "name", "seen"] vs) H := by
  obtain ⟨sc, ns, pa, ps, rfl, hS, hn, hpa, hps, hl0, hl8, q⟩ := h
  unfold t__law_history
  refine w_seq (w_asg (w_lstV (w_nil ⟨sz (by simp), w_new fun p H1 p0 s1 e1 => w_name ?_⟩)))
  with_reducible refine w_seq ?_
  refine w_asg (w_dnewK fun c H2 c0 s2 e2 => w_name ?_)
  with_reducible refine w_seq ?_
  refine w_for (w_iRng2 (w_cons (w_c (w_cons (w_cb (w_cons (w_cb (w_cons (w_var rfl (w_nil (w_lenL ((s1.trans s2).seq hS) (w_cons (w_c (w_nil (w_min2 (w_nil ?_))))))))))))))))
  rw [List.length_map]
  have hm : (if (41 : Int) < (ns.length : Int) then (41 : Int) else (ns.length : Int)) ≤ 41 ∧ (if (41 : Int) < (ns.length : Int) then (41 : Int) else (ns.length : Int)) ≤ ns.length ∧ 0 ≤ (if (41 : Int) < (ns.length : Int) then (41 : Int) else (ns.length : Int)) := by
    split <;> omega
  generalize (if (41 : Int) < (ns.length : Int) then (41 : Int) else (ns.length : Int)) = m at hm
  refine ⟨1, m, rfl, ⟨by decide, by decide, by omega, by omega⟩, ?_⟩
  refine for_it walk_range (fun i σ G => (∃ u4 u5 u6 u7 u8 u9, σ = [some (.ref sc), some (.ref pa), some (.ref p), some (.ref c), u4, u5, u6, u7, u8, u9]) ∧ Same H G ∧ ∃ ls cs ks f, G p = some (.lst (lsV ls)) ∧ ls.length = i ∧ LsOk (Off c) C G ls ∧ G c = some (.dK cs) ∧ DI cs ks f ∧ (∀ a ∈ ks, a ∈ ps) ∧ ks.length ≤ i ∧ HI (ls.map (·.2)) ks f i) ?_ (fun _ _ _ _ _ => trivial) ?_ ?_
  · refine ⟨⟨_, _, _, _, _, _, rfl⟩, s1.trans s2, [], [], [], fun _ => 0, s2 _ _ e1, rfl, fun y hy => (nomatch hy), e2, DI.nil, fun a ha => (nomatch ha), Nat.le_refl _, fun j L e => ?_, fun _ => rfl, fun o ho => (nomatch ho), fun o ho => (nomatch ho), fun o ho => (nomatch ho), fun a => ?_⟩
    · simp at e
    · unfold cv
      rw [if_neg (by simp)]
      exact ⟨Int.le_refl _, Int.le_refl _⟩
  · rintro i x σ G G' hi ⟨⟨u4, u5, u6, u7, u8, u9, rfl⟩, sG, ls, cs, ks, f, gp, hlen, hok, gc0, di, hks, hkl, hI⟩ ⟨rfl, rfl⟩
    have hc0 : H c = none := same_none s1 c0
    have ncp : c ≠ p := (ne_of_none e1 c0).symm
    have hiI : (1 : Int) + (i : Int) < ns.length := by omega
    have hi41 : i < 40 := by omega
    refine w_name ?_
    -- the stream
    with_reducible refine w_seq ?_
    refine w_asg (w_call (w_cons (w_op (w_var rfl (w_var rfl (w_ixL (v := .int ns[1 + i]) (sG.seq hS) (atI_of (by omega) ?_) (w_cons (w_var rfl (w_nil ⟨_, _, rfl, fun p1 G1 f1 t1 st1 => w_name ?_⟩)))))))))
    · rw [List.getElem?_map, show (1 + (i : Int)).toNat = 1 + i by omega, List.getElem?_eq_getElem (by omega)]
      rfl
    have p10 : H p1 = none := same_none sG f1
    have npp : p ≠ p1 := ne_of_none gp f1
    have ncp1 : c ≠ p1 := ne_of_none gc0 f1
    -- the author
    with_reducible refine w_seq ?_
    refine w_asg (w_op (w_var rfl (w_call (w_cons (w_var rfl (w_cons (w_cb (w_cons (w_var rfl (w_nil (w_lenL (SqL.of ((sG.trans t1) _ _ hpa)) (w_nil ?_))))))))))))
    rw [List.length_map]
    refine ⟨p1, ps.length, rfl, st1, by omega, by omega, fun r G2 k2 st2 r0 r1 => ?_⟩
    have hrl : r.toNat < ps.length := by omega
    have npa : pa ≠ p1 := ne_of_none ((sG.trans t1) _ _ hpa |> fun e => sG _ _ hpa) f1
    refine w_ixL (SqL.of (k2 _ _ npa ((sG.trans t1) _ _ hpa))) (v := .str ps[r.toNat]) (atI_of r0 (by rw [List.getElem?_map, List.getElem?_eq_getElem hrl]; rfl)) (w_name ?_)
    have ham : ps[r.toNat] ∈ ps := List.getElem_mem hrl
    generalize ps[r.toNat] = a at ham
    have sG2 : Same H G2 := Same.kp0 (sG.trans t1) k2 p10
    have gp2 := k2 _ _ npp (t1 _ _ gp)
    have gc2 := k2 _ _ ncp1 (t1 _ _ gc0)
    have ok2 : LsOk (Off c) C G2 ls := (hok.same t1).fm (Fm.stm k2 st1)
    -- its count
    with_reducible refine w_seq ?_
    refine w_dput (w_op (w_dget2 (w_var rfl ⟨c, rfl, .inl ⟨_, .inl gc2⟩, w_var rfl (w_c ⟨_, DGet.k (k := Sum.inr a) gc2, ?_⟩)⟩)))
    rw [di.getD a]
    refine w_c (w_I0 (w_var rfl (w_var rfl (dputK (k := Sum.inr a) gc2 (by rw [di.len]; omega) fun G3 k3 gc3 => ?_))))
    obtain ⟨ks', di', hak, hmk, hkl'⟩ := di.put a (cv ks f a + 1)
    have sG3 : Same H G3 := Same.kp0 sG2 k3 hc0
    have gp3 := k3 _ _ ncp.symm gp2
    have st3 : Stm G3 p1 := by
      obtain ⟨x1, x2, e, r⟩ := st2
      exact ⟨x1, x2, k3 _ _ ncp1.symm e, r⟩
    have ok3 : LsOk (Off c) C G3 ls := ok2.fm (Fm.kpD k3 gc2 (fun _ z => by cases z) fun _ _ _ z => by cases z)
    obtain ⟨x1, x2, est3, est3'⟩ := id st3
    have hks' : ∀ b ∈ ks', b ∈ ps := fun b hb => ((hmk b).mp hb).elim (hks b) fun e => e ▸ ham
    clear ok2 gc2 gp2 sG2 k2 k3 st2
    have hf' : ∀ b ∈ ks', 0 ≤ (if b = a then cv ks f a + 1 else f b) ∧ (if b = a then cv ks f a + 1 else f b) ≤ 41 := fun b hb => by
      have h1 := hI.low a
      have h2 := hI.low b
      split
      · omega
      · rename_i nb
        have hbk : b ∈ ks := ((hmk b).mp hb).elim id fun e => absurd e nb
        unfold cv at h2
        rw [if_pos hbk] at h2
        omega
    generalize hfg : (fun b => if b = a then cv ks f a + 1 else f b) = f' at di'
    have hf' : ∀ b ∈ ks', 0 ≤ f' b ∧ f' b ≤ 41 := fun b hb => by
      rw [← hfg]
      exact hf' b hb
    generalize putK cs (Sum.inr a) (.int (cv ks f a + 1)) = cs' at di' gc3
    -- what is known
    with_reducible refine w_seq ?_
    refine w_asg (w_dnewK fun kd G4 k0 s4 e4 => w_name ?_)
    have nkp : kd ≠ p := (ne_of_none gp3 k0).symm
    have nkc : kd ≠ c := (ne_of_none gc3 k0).symm
    have nk1 : kd ≠ p1 := st3.ne k0
    with_reducible refine w_seq ?_
    refine ⟨c, .dK cs', s4 _ _ gc3, trivial, fun od => ?_⟩
    refine w_for (w_var rfl ⟨c, od, rfl, .inl ⟨cs', upd_same, ?_⟩⟩)
    refine for_it walk_keys (fun j σ G => (∃ u8, σ = [some (.ref sc), some (.ref pa), some (.ref p), some (.ref c), some (.int (1 + (i : Int))), some (.ref p1), some (.str a), some (.ref kd), u8, u9]) ∧ (∀ b o, b ≠ p1 → b ≠ c → G3 b = some o → G b = some o) ∧ Stm G p1 ∧ G c = some (.frz od (.dK cs')) ∧
      ∃ kn g, G kd = some (.dK kn) ∧ DI kn (ks'.take j) g ∧ (∀ b ∈ ks'.take j, 0 ≤ g b ∧ g b ≤ f' b)) ?_ (fun _ _ _ _ e => e.2.2.2.1) ?_ ?_
    · refine ⟨⟨_, rfl⟩, fun b o _ n e => by rw [upd_ne n]; exact s4 _ _ e, ?_, upd_same, [], fun _ => 0, by rw [upd_ne nkc]; exact e4, DI.nil, fun b hb => (nomatch hb)⟩
      exact ⟨x1, x2, by rw [upd_ne ncp1.symm]; exact s4 _ _ est3, est3'⟩
    · rintro j x σ G G' hj ⟨⟨u8, rfl⟩, kx, st, hcz, kn, g, hkn, dk, hg⟩ ⟨rfl, k, v, ekv, rfl⟩
      obtain ⟨b, eb, rfl⟩ := di'.at_ ekv
      have hbm : b ∈ ks' := List.mem_of_getElem? eb
      have hjk : j < ks'.length := (List.getElem?_eq_some_iff.mp eb).1
      have hnb : b ∉ ks'.take j := fun z => by
        obtain ⟨j', hj'⟩ := List.mem_iff_getElem?.mp z
        rw [List.getElem?_take] at hj'
        split at hj'
        · rename_i hlt
          have := (List.getElem?_inj (by omega) di'.nd).mp (hj'.trans eb.symm)
          omega
        · exact nomatch hj'
      have et : ks'.take (j + 1) = ks'.take j ++ [b] := by rw [List.take_add_one, eb]; rfl
      have hkl : kn.length ≤ 41 := by
        rw [dk.len, List.length_take]
        omega
      refine w_name ?_
      with_reducible refine w_seq ?_
      refine w_dput (w_dget (w_var rfl (w_var rfl ⟨c, .int (f' b), rfl, .inl ⟨cs', Sum.inr b, .inr ⟨od, hcz⟩, rfl, (di'.has hbm).symm⟩, w_var rfl (w_var rfl (dputK (k := Sum.inr b) hkn (by omega) fun G5 k5 e5 => ?_))⟩)))
      have dk5 := dk.putNew hnb (f' b)
      have st5 := stm_kp st k5 nk1.symm
      have hcz5 := k5 _ _ nkc.symm hcz
      have kx5 : ∀ b o, b ≠ p1 → b ≠ c → G3 b = some o → G5 b = some o := fun b o n1 n2 e => k5 _ _ (ne_of_none e k0) (kx b o n1 n2 e)
      have hg5 : ∀ y ∈ ks'.take (j + 1), 0 ≤ (if y = b then f' b else g y) ∧ (if y = b then f' b else g y) ≤ f' y := fun y hy => by
        split
        · rename_i e
          rw [e]
          exact ⟨(hf' b hbm).1, Int.le_refl _⟩
        · rename_i ne
          rw [et] at hy
          exact (List.mem_append.mp hy).elim (hg y) fun z => absurd (List.mem_singleton.mp z) ne
      rw [← et] at dk5
      with_reducible refine w_ifS ?_
      refine w_and (w_test (w_op (w_var rfl (w_var rfl (w_neS (w_exb (w_ite (fun c1 => ?_) (fun c1 => ?_))))))))
      · refine w_test (w_op (w_call (w_cons (w_var rfl (w_cons (w_c (w_nil ⟨p1, 3, rfl, st5, by decide, by decide, fun v6 G6 k6 st6 _ _ => ?_⟩)))))))
        have e6 := k6 _ _ nk1 e5
        have hcz6 := k6 _ _ ncp1 hcz5
        have kx6 : ∀ b o, b ≠ p1 → b ≠ c → G3 b = some o → G6 b = some o := fun b o n1 n2 e => k6 _ _ n1 (kx5 b o n1 n2 e)
        refine w_c (w_eqI (w_exb (w_ite (fun c2 => ?_) (fun c2 => ?_))))
        · have hfb := hf' b hbm
          refine w_dput (w_call (w_cons (w_var rfl (w_cons (w_op (w_dget (w_var rfl (w_var rfl ⟨c, .int (f' b), rfl, .inl ⟨cs', Sum.inr b, .inr ⟨od, hcz6⟩, rfl, (di'.has hbm).symm⟩, ?_⟩))))))))
          refine w_c (w_I0 (w_nil ⟨p1, f' b + 1, rfl, st6, by omega, by omega, fun v7 G7 k7 st7 a0 a1 => w_var rfl (w_var rfl (dputK (k := Sum.inr b) (k7 _ _ nk1 e6) (by have := length_putK kn (Sum.inr b) (.int (f' b)); omega) fun G8 k8 e8 => ?_))⟩))
          refine ⟨⟨_, rfl⟩, fun b o n1 n2 e => k8 _ _ (ne_of_none e k0) (k7 _ _ n1 (kx6 b o n1 n2 e)), stm_kp st7 k8 nk1.symm, k8 _ _ nkc.symm (k7 _ _ ncp1 hcz6), _, _, e8, dk5.putOld (by rw [et]; exact List.mem_append_right _ (List.mem_singleton.mpr rfl)) v7, fun y hy => ?_⟩
          by_cases e : y = b
          · subst e
            rw [if_pos rfl]
            omega
          · rw [if_neg e]
            exact hg5 y hy
        · exact w_next ⟨⟨_, rfl⟩, kx6, st6, hcz6, _, _, e6, dk5, hg5⟩
      · exact ite_f (by decide) (w_next ⟨⟨_, rfl⟩, kx5, st5, hcz5, _, _, e5, dk5, hg5⟩)
    · rintro σ G ⟨⟨u8, rfl⟩, kx, st, hcz, kn, g, hkn, dk, hg⟩
      refine ⟨hcz, ?_⟩
      rw [di'.len, List.take_length] at dk hg
      have kx5 : ∀ b o, b ≠ p1 → b ≠ c → G3 b = some o → upd G c (.dK cs') b = some o := fun b o n1 n2 e => by
        rw [upd_ne n2]
        exact kx b o n1 n2 e
      have st5 : Stm (upd G c (.dK cs')) p1 := stm_kp st Kp.refl.updp ncp1.symm
      have hc5 : upd G c (.dK cs') c = some (.dK cs') := upd_same
      have hk5 : upd G c (.dK cs') kd = some (.dK kn) := by rw [upd_ne nkc]; exact hkn
      generalize upd G c (.dK cs') = G5 at kx5 st5 hc5 hk5
      have hkl5 : kn.length < 64 := by
        rw [dk.len]
        omega
      have hks5 : ks'.length < 64 := by omega
      -- what it has seen
      with_reducible refine w_seq ?_
      refine w_asg (w_cb (w_cons (w_lc (w_iList (w_cb (w_cons (w_var rfl (w_nil ⟨kd, kn, ks', rfl, .inl hk5, dk.keys, hks5, fun ys q0 perm srt hq0 => ?_⟩))))))))
      obtain ⟨G6, eG6, s6, e6⟩ := newT (o := .lst (ys.map V.str)) hq0
      rw [← eG6]
      refine ⟨q0, rfl, ⟨_, SqL.of e6⟩, fun D hD => ?_⟩
      have hyl : ys.length < 64 := by rw [perm.length_eq]; exact hks5
      refine lc_it (walk_list (xs := ys.map V.str)) (fun k G' => Same G6 G' ∧ ∃ ts, G' D = some (.lst ts) ∧ ts.length ≤ k ∧ DnAll Any G' ts (((ys.take k).filter fun y => decide (0 < g y)).map fun y => pairD (y, g y))) ⟨Same.upd (Same.refl G6) hD, [], upd_same, Nat.le_refl _, .nil⟩ (fun k G' _ e => SqL.of (e.1 _ _ e6)) ?_ ?_
      · rintro k x G7 G7' hk ⟨s7, ts, eD, hts, dts⟩ ⟨rfl, hx⟩
        rw [List.getElem?_map] at hx
        obtain ⟨y, hy, rfl⟩ := Option.map_eq_some_iff.mp hx
        have hym : y ∈ ks' := perm.mem_iff.mp (List.mem_of_getElem? hy)
        have hk7 := s7 _ _ (s6 _ _ hk5)
        have et : ys.take (k + 1) = ys.take k ++ [y] := by rw [List.take_add_one, hy]; rfl
        have hkk : k < 64 := by
          rw [List.length_map] at hk
          omega
        refine w_name ⟨rfl, w_test (w_op (w_dget (w_var rfl (w_var rfl ⟨kd, .int (g y), rfl, by rw [← dk.has hym]; exact DGet.k (k := Sum.inr y) hk7, w_c (w_I0 (w_exb (w_ite (fun c1 => ?_) (fun c1 => ?_))))⟩))))⟩
        · refine w_tupV (w_cons (w_var rfl (w_cons (w_dget (w_var rfl (w_var rfl ⟨kd, .int (g y), rfl, by rw [← dk.has hym]; exact DGet.k (k := Sum.inr y) hk7, w_nil ⟨sz (by simp), w_new fun t G8 t0 s8 et8 => ⟨ts, s8 _ _ eD, ?_, ?_, _, upd_same, ?_, ?_⟩⟩⟩))))))
          · exact Nat.lt_of_le_of_lt (show ts.length ≤ 64 by omega) (by decide)
          · exact fun b o e2 => by
              rw [upd_ne (ne_of_none e2 hD)]
              exact s8 _ _ (s7 _ _ e2)
          · rw [List.length_append, List.length_singleton]
            omega
          · have tk : Tk G8 (upd G8 D (.lst (ts ++ [V.ref t]))) := Tk.kpL Kp.refl.updp (s8 _ _ eD)
            rw [et, List.filter_append, List.filter_cons_of_pos (by simpa using c1), List.filter_nil, List.map_append]
            refine DnAll.app (dnall_tk tk (plainAll_of fun d hd => ?_) (dts.same s8)) (.cons (.tup trivial (tk _ _ et8) (.cons (.str _) (.cons (.int _) .nil))) .nil)
            obtain ⟨y', _, rfl⟩ := List.mem_map.mp hd
            rfl
        · refine ⟨s7, ts, eD, by omega, ?_⟩
          rw [et, List.filter_append, List.filter_cons_of_neg (by simpa using c1), List.filter_nil, List.append_nil]
          exact dts
      rintro G7 ⟨s7, ts, eD, hts, dts⟩
      rw [List.length_map] at hts
      rw [show (ys.map V.str).length = ys.length from List.length_map _, List.take_length] at dts
      refine w_nil (w_tupleOfL (SqL.of eD) fun l hl => ?_)
      obtain ⟨G8, eG8, s8, e8⟩ := newT (o := .tup ts) hl
      rw [← eG8]
      refine w_name ?_
      obtain ⟨PS, hPS⟩ : ∃ PS : List (Str × Int), PS = (ys.filter fun y => decide (0 < g y)).map fun y => (y, g y) := ⟨_, rfl⟩
      have hsv : Dn Any G8 (.ref l) (seenD PS) := by
        refine .tup trivial e8 ?_
        rw [hPS, List.map_map]
        exact dts.same s8
      have hPm : ∀ q ∈ PS, q.1 ∈ ks' ∧ q.2 = g q.1 := fun q hq => by
        rw [hPS] at hq
        obtain ⟨y, hy, rfl⟩ := List.mem_map.mp hq
        exact ⟨perm.mem_iff.mp (List.mem_filter.mp hy).1, rfl⟩
      have hPn : (PS.map (·.1)).Nodup := by
        rw [hPS, List.map_map, show ((fun x : Str × Int => x.1) ∘ fun y => (y, g y)) = id from rfl, List.map_id]
        exact (perm.nodup_iff.mpr di'.nd).filter _
      have hPl : PS.length ≤ 63 := by
        rw [hPS, List.length_map]
        have := List.length_filter_le (fun y => decide (0 < g y)) ys
        omega
      have s58 := (s6.trans s7).trans s8
      have gp8 := s58 _ _ (kx5 _ _ npp ncp.symm gp3)
      have hc8 := s58 _ _ hc5
      have st8 := st5.same s58
      have hfa := hf' a hak
      -- the letter
      with_reducible refine w_drop ?_
      refine w_bm (w_var rfl (w_tyL gp8 (w_cons (w_make ?_))))
      refine w_cons (w_var rfl (w_cons (w_dget (w_var rfl (w_var rfl ⟨c, .int (f' a), rfl, by rw [← di'.has hak]; exact DGet.k (k := Sum.inr a) hc8, ?_⟩)))))
      refine w_cons (w_op (w_op (w_c (w_var rfl (w_I (cmul_l (by decide) (by decide)) (w_call (w_cons (w_var rfl (w_cons (w_c (w_nil ⟨p1, 2, rfl, st8, by decide, by decide, fun v9 G9 k9 st9 z0 z1 => ?_⟩)))))))))))
      refine w_I0 (w_cons (w_var rfl (w_cons (w_tupV (w_cons (w_c (w_cons (w_op (w_c (w_cb (w_cons (w_var rfl (w_nil (w_strInt (by omega) (by omega) (w_addS ?_ ?_)))))))))))))))
      · exact str_small (by omega) (by omega)
      refine w_nil ⟨sz (by simp), w_new fun bt G10 b0 s10 e10 => w_nil fun x dx hx hdx ndx => ?_⟩
      have hc10 := s10 _ _ (k9 _ _ ncp1 hc8)
      have gp10 := s10 _ _ (k9 _ _ npp gp8)
      have tk9 : Tk G8 G10 := (Fm.stm (ok := Any) k9 st8).1.trans (Tk.same s10)
      have hsv10 := dn_tk tk9 (plain_seen PS) hsv
      have hfa2 : f' a = cv ks f a + 1 := by rw [← hfg]; exact if_pos rfl
      refine ⟨x, dx, a, f' a, 2 * (1 + (i : Int)) + v9, PS, .ref l, .ref bt, rfl, upd_same, dn_made2 hsv10 hx hdx _, hPn, by omega, fun G11 d hd k11 e11 ed => ⟨rfl, ?_⟩⟩
      have s11 : Same G10 G11 := same_made2 hx hdx k11
      have ndc : d ≠ c := by
        have hM : upd (upd G10 dx (.own x)) x (.ins C dx []) c = some (.dK cs') := by
          rw [upd_ne (ne_of_none hc10 hx), upd_ne (ne_of_none hc10 hdx)]
          exact hc10
        exact (ne_of_none hM hd).symm
      have gp11 := s11 _ _ gp10
      obtain ⟨L, hL⟩ : ∃ L : Lt, L = ⟨a, f' a, 2 * (1 + (i : Int)) + v9, PS, .tuple [.str (Str.ofString "say"), .str (Str.ofString "t" ++ Str.ofString (toString (1 + (i : Int))))]⟩ := ⟨_, rfl⟩
      have wL : Wf L := by
        subst hL
        exact ⟨by have := hI.low a; show 1 ≤ f' a; omega, hPn, by show PS.length ≤ 100; omega, hps a ham, fun q hq => hps _ (hks' _ (hPm q hq).1), say_lay (ascii_app (ascii_of _) (ascii_of _)), rfl⟩
      have aL : LtAt (Off c) C G11 x L := by
        subst hL
        exact ⟨dx, d, .ref l, .ref bt, e11, ndc, ed, hsv10.same s11, .tup trivial (s11 _ _ e10) (.cons (.str _) (.cons (.str _) .nil))⟩
      refine w_nil (w_appV gp11 (by rw [List.length_map]; omega) fun G12 k12 e12 => ?_)
      have kx11 : ∀ b o, b ≠ p1 → b ≠ c → G3 b = some o → G11 b = some o := fun b o n1 n2 e => s11 _ _ (s10 _ _ (k9 _ _ n1 (s58 _ _ (kx5 b o n1 n2 e))))
      have hstep := hI.step (ks' := ks') (L := L) (fun o ho => by
        obtain ⟨y, hy, rfl⟩ := List.mem_map.mp ho
        exact (hok y hy).2) (by rw [hL]; exact hmk) (by rw [hL]; exact hfa2) (by rw [hL]; exact hPn) (by rw [hL]; show 2 * ((i : Int) + 1) ≤ 2 * (1 + (i : Int)) + v9; omega) (by rw [hL]; show 2 * (1 + (i : Int)) + v9 ≤ _; omega) (fun q hq => by
          rw [hL] at hq ⊢
          have e1 := hPm q hq
          have e2 := hg q.1 e1.1
          show q.2 ≤ cv ks' (fun b => if b = a then f' a else f b) q.1
          rw [show (fun b => if b = a then f' a else f b) = f' by rw [hfa2]; exact hfg]
          unfold cv
          rw [if_pos e1.1, e1.2]
          exact e2.2)
      rw [show (fun b => if b = L.a then L.n else f b) = f' by rw [hL]; show (fun b => if b = a then f' a else f b) = f'; rw [hfa2]; exact hfg] at hstep
      refine ⟨⟨_, _, _, _, _, _, rfl⟩, fun b o e => ?_, ls ++ [(x, L)], cs', ks', f', ?_, by rw [List.length_append, hlen]; rfl, ?_, k12 _ _ ncp (s11 _ _ hc10), di', hks', by omega, by rw [List.map_append]; exact hstep⟩
      · exact k12 _ _ (ne_of_none e p0) (kx11 _ _ (ne_of_none e p10) (ne_of_none e hc0) (sG3 _ _ e))
      · rw [e12]
        unfold lsV
        rw [List.map_append]
        rfl
      · refine LsOk.fm (LsOk.app (ok3.fm (Fm.kx est3 gc3 kx11)) fun y hy => ?_) (Fm.kpL k12 gp11)
        rw [List.mem_singleton.mp hy]
        exact ⟨aL, wL⟩
  · rintro σ G ⟨⟨u4, u5, u6, u7, u8, u9, rfl⟩, sG, ls, cs, ks, f, gp, hlen, hok, gc0, di, hks, hkl, hI⟩
    with_reducible refine w_ret ?_
    exact w_var rfl (q p ls G p0 sG gp hok.any hI.ok (by omega))
end

/-! ### a list of letters with a change -/
def spSpoilt (K : PySem.W.Frag) (C : Addr) : Sp := fun vs H Q _ => ∃ (a p : Addr) (ls : List (Addr × Lt)), vs = [.ref a, .ref p] ∧ Stm H p ∧ H a = some (.lst (lsV ls)) ∧ LsOk Any C H ls ∧ ls.length ≤ 60 ∧
  ∀ a' (ls' : List (Addr × Lt)) H', Kp p H H' → Stm H' p → H' a' = some (.lst (lsV ls')) → LsOk Any C H' ls' → ls'.length ≤ ls.length + 1 → Q (.ref a') H'
structure MS (H G : Hp) (p : Addr) (L : Lt) (n s : Int) (sv bv : V) (PS : List (Str × Int)) (B : PyData) : Prop where
  fm : Fm Any H G
  kp : Kp p H G
  st : Stm G p
  n1 : 1 ≤ n
  sv : Dn Any G sv (seenD PS)
  ps : PS.map (·.1) = L.ps.map (·.1)
  bv : Dn Any G bv B
  lb : Lay 3 B
  pb : plainB B = true
theorem MS.wf {H G : Hp} {p : Addr} {L : Lt} {n s : Int} {sv bv : V} {PS : List (Str × Int)} {B : PyData} (m : MS H G p L n s sv bv PS B) (w : Wf L) : Wf ⟨L.a, n, s, PS, B⟩ := by
  refine ⟨m.n1, by rw [m.ps]; exact w.nd, ?_, w.aa, fun q hq => ?_, m.lb, m.pb⟩
  · have := congrArg List.length m.ps
    rw [List.length_map, List.length_map] at this
    show PS.length ≤ 100
    rw [this]
    exact w.len
  · have : q.1 ∈ L.ps.map (·.1) := by rw [← m.ps]; exact List.mem_map.mpr ⟨q, hq, rfl⟩
    obtain ⟨q', hq', e⟩ := List.mem_map.mp this
    rw [← e]
    exact w.pa q' hq'
theorem MS.draw {H G G' : Hp} {p : Addr} {L : Lt} {n s : Int} {sv bv : V} {PS : List (Str × Int)} {B : PyData} (m : MS H G p L n s sv bv PS B) (k : Kp p G G') (st : Stm G' p) : MS H G' p L n s sv bv PS B :=
  have f := Fm.stm (ok := Any) k m.st
  { m with fm := m.fm.trans f, kp := m.kp.trans k, st := st, sv := dn_tk f.1 (plain_seen _) m.sv, bv := dn_tk f.1 m.pb m.bv }
theorem MS.same {H G G' : Hp} {p : Addr} {L : Lt} {n s : Int} {sv bv : V} {PS : List (Str × Int)} {B : PyData} (m : MS H G p L n s sv bv PS B) (k : Same G G') : MS H G' p L n s sv bv PS B :=
  { m with fm := m.fm.trans (Fm.same k), kp := m.kp.trans (Same.kp k), st := m.st.same k, sv := m.sv.same k, bv := m.bv.same k }
section
variable {K : PySem.W.Frag} {C : Addr} {vs : List V} {H : Hp} {Q : VK} {E : XK}
/-- _law_spoilt: slots 0:letters 1:stream 2:place 3:other 4:letter 5:kind 6:changed 7:number 8:stamp 9:seen 10:body 11:name 12:count -/
def t__law_spoilt (K : PySem.W.Frag) (C_Letter : Addr) : TS := (tSeq (tIfS (tTest (tOp rEq (tCB (qLenSeq K) (tCons (tVar 0) tNil)) (tC (.int 0)))) (tRet (tVar 0)) tNext)
  (tSeq (tAsg (tCall (spNext K) [] C8.E0 (tCons (tVar 1) (tCons (tCB (qLenSeq K) (tCons (tVar 0) tNil)) tNil))) (gName 2))
  (tSeq (tAsg (tCall (spNext K) [] C8.E0 (tCons (tVar 1) (tCons (tCB (qLenSeq K) (tCons (tVar 0) tNil)) tNil))) (gName 3))
  (tSeq (tAsg (tOp (rIxL K) (tVar 0) (tVar 2)) (gName 4))
  (tSeq (tAsg (tCall (spNext K) [] C8.E0 (tCons (tVar 1) (tCons (tC (.int 7)) tNil))) (gName 5))
  (tSeq (tIfS (tTest (tOp rEq (tVar 5) (tC (.int 0)))) (tRet (tOp rCat (tSl (rSlL K) (tVar 0) tNoPart (tPart (tVar 2))) (tSl (rSlL K) (tVar 0) (tPart (tOp qAdd (tVar 2) (tC (.int 1)))) tNoPart))) tNext)
  (tSeq (tIfS (tTest (tOp rEq (tVar 5) (tC (.int 1)))) (tRet (tOp rCat (tOp rCat (tSl (rSlL K) (tVar 0) tNoPart (tPart (tVar 3))) (tLst (tCons (tVar 4) tNil))) (tSl (rSlL K) (tVar 0) (tPart (tVar 3)) tNoPart))) tNext)
  (tSeq (tIfS (tTest (tOp rEq (tVar 5) (tC (.int 2)))) (tSeq (tAsg (tCB (qListOf K) (tCons (tVar 0) tNil)) (gName 6))
  (tSeq (tAsg (tOp (rIxL K) (tVar 0) (tVar 3)) (gSub (tVar 6) (tVar 2) rSetL))
  (tSeq (tAsg (tVar 4) (gSub (tVar 6) (tVar 3) rSetL))
  (tRet (tVar 6))))) tNext)
  (tSeq (tAsg (tFld K (tVar 4) "number") (gName 7))
  (tSeq (tAsg (tFld K (tVar 4) "stamp") (gName 8))
  (tSeq (tAsg (tFld K (tVar 4) "seen") (gName 9))
  (tSeq (tAsg (tFld K (tVar 4) "body") (gName 10))
  (tSeq (tIfS (tTest (tOp rEq (tVar 5) (tC (.int 3)))) (tAsg (tCB qMax2 (tCons (tC (.int 1)) (tCons (tOp qSub (tOp qAdd (tVar 7) (tCall (spNext K) [] C8.E0 (tCons (tVar 1) (tCons (tC (.int 3)) tNil)))) (tC (.int 1))) tNil))) (gName 7)) tNext)
  (tSeq (tIfS (tTest (tOp rEq (tVar 5) (tC (.int 4)))) (tAsg (tCB qMax2 (tCons (tC (.int 2)) (tCons (tOp qSub (tOp qAdd (tVar 8) (tCall (spNext K) [] C8.E0 (tCons (tVar 1) (tCons (tC (.int 7)) tNil)))) (tC (.int 3))) tNil))) (gName 8)) tNext)
  (tSeq (tIfS (tTest (tOp rEq (tVar 5) (tC (.int 5)))) (tAsg (tCB (qTupleOf K) (tCons (tLc (iTup K (tVar 9)) (gTup K 2 (gCons (gName 11) (gCons (gName 12) gNil))) tYes (tTup (tCons (tVar 11) (tCons (tOp qAdd (tVar 12) (tCall (spNext K) [] C8.E0 (tCons (tVar 1) (tCons (tC (.int 3)) tNil)))) tNil))) [11, 12]) tNil)) (gName 9)) tNext)
  (tSeq (tIfS (tTest (tOp rEq (tVar 5) (tC (.int 6)))) (tAsg (tTup (tCons (tC (.str "say")) (tCons (tC (.str "another")) tNil))) (gName 10)) tNext)
  (tRet (tOp rCat (tOp rCat (tSl (rSlL K) (tVar 0) tNoPart (tPart (tVar 2))) (tLst (tCons (tMake C_Letter (spInit K C_Letter) [] C8.E0 (tCons (tFld K (tVar 4) "author") (tCons (tVar 7) (tCons (tVar 8) (tCons (tVar 9) (tCons (tVar 10) tNil)))))) tNil))) (tSl (rSlL K) (tVar 0) (tPart (tOp qAdd (tVar 2) (tC (.int 1)))) tNoPart)))))))))))))))))))
theorem l__law_spoilt (h : spSpoilt K C vs H Q E) : vs.length = 2 := by obtain ⟨a, p, ls, rfl, _⟩ := h; rfl
theorem r__law_spoilt (LC : IsC_Letter K C) (h : spSpoilt K C vs H Q E) : t__law_spoilt K C { nx := fun _ H' => Q .non H', rt := Q } (start ["letters", "stream", "place", "other", "letter", "kind", "changed", "number", "stamp", "seen", "body", "name", "count"] vs) H := by
  obtain ⟨a, p, ls, rfl, hs, ha, hok, hl, q⟩ := h
  have nap := stm_ne hs ha
  unfold t__law_spoilt
  refine w_seq (w_ifS (w_test (w_op (w_cb (w_cons (w_var rfl (w_nil (w_lenL (SqL.of ha) (w_c (w_eqI (w_exb (w_ite (fun c0 => ?_) (fun c0 => ?_)))))))))))))
  · exact w_ret (w_var rfl (q a ls H Kp.refl hs ha hok (Nat.le_succ _)))
  rw [lsV_len] at c0
  have hpos : 0 < ls.length := by omega
  refine w_next ?_
  with_reducible refine w_seq ?_
  refine w_asg (w_call (w_cons (w_var rfl (w_cons (w_cb (w_cons (w_var rfl (w_nil (w_lenL (SqL.of ha) (w_nil ⟨p, _, rfl, hs, by rw [lsV_len]; omega, by rw [lsV_len]; omega, fun v2 H1 k1 s1 a0 a1 => w_name ?_⟩))))))))))
  have ha1 := k1 _ _ nap ha
  rw [lsV_len] at a1
  with_reducible refine w_seq ?_
  refine w_asg (w_call (w_cons (w_var rfl (w_cons (w_cb (w_cons (w_var rfl (w_nil (w_lenL (SqL.of ha1) (w_nil ⟨p, _, rfl, s1, by rw [lsV_len]; omega, by rw [lsV_len]; omega, fun v3 H2 k2 s2 b0 b1 => w_name ?_⟩))))))))))
  have ha2 := k2 _ _ nap ha1
  rw [lsV_len] at b1
  obtain ⟨i, rfl⟩ : ∃ n : Nat, v2 = n := ⟨v2.toNat, by omega⟩
  obtain ⟨j, rfl⟩ : ∃ n : Nat, v3 = n := ⟨v3.toNat, by omega⟩
  have hi : i < ls.length := by omega
  have hj : j < ls.length := by omega
  obtain ⟨y, ey⟩ : ∃ y, ls[i]? = some y := ⟨_, List.getElem?_eq_getElem hi⟩
  obtain ⟨z, ez⟩ : ∃ y, ls[j]? = some y := ⟨_, List.getElem?_eq_getElem hj⟩
  with_reducible refine w_seq ?_
  refine w_asg (w_op (w_var rfl (w_var rfl (w_ixL (SqL.of ha2) (atI_nat (by rw [List.getElem?_map, ey]; rfl)) (w_name ?_)))))
  with_reducible refine w_seq ?_
  refine w_asg (w_call (w_cons (w_var rfl (w_cons (w_c (w_nil ⟨p, 7, rfl, s2, by decide, by decide, fun kd H3 k3 s3 _ _ => w_name ?_⟩))))))
  have ha3 := k3 _ _ nap ha2
  have kp3 : Kp p H H3 := (k1.trans k2).trans k3
  have fm3 : Fm Any H H3 := ((Fm.stm k1 hs).trans (Fm.stm k2 s1)).trans (Fm.stm k3 s2)
  have ok3 := hok.fm fm3
  have hy := ok3.get ey
  clear k1 k2 k3 s1 s2 ha1 ha2
  -- kind 0
  with_reducible refine w_seq ?_
  refine w_ifS (w_test (w_op (w_var rfl (w_c (w_eqI (w_exb (w_ite (fun c1 => ?_) (fun _ => w_next ?_))))))))
  · refine w_ret (w_op (w_sl (w_var rfl (w_noPart (w_part (w_var rfl (w_exi (w_slLV (SqL.of ha3) fun t1 H4 _ s4 e4 => ?_))))))))
    refine w_sl (w_var rfl (w_part (w_op (w_var rfl (w_c (w_I0 (w_exi (w_noPart (w_slLV (SqL.of (s4 _ _ ha3)) fun t2 H5 _ s5 e5 => ?_)))))))))
    rw [cutV_to (by rw [lsV_len]; omega), lsV_take] at e4
    rw [show (i : Int) + 1 = ((i + 1 : Nat) : Int) by omega, cutV_from (by rw [lsV_len]; omega), lsV_drop] at e5
    refine w_catV (s5 _ _ e4) e5 (by rw [lsV_len, lsV_len, List.length_take, List.length_drop]; omega) fun t3 H6 _ s6 e6 => ?_
    rw [← lsV_app] at e6
    have sA := (s4.trans s5).trans s6
    refine q t3 _ H6 (kp3.trans (Same.kp sA)) (s3.same sA) e6 (LsOk.sub (ok3.same sA) fun o ho => ?_) ?_
    · exact (List.mem_append.mp ho).elim List.mem_of_mem_take List.mem_of_mem_drop
    · rw [List.length_append, List.length_take, List.length_drop]
      omega
  -- kind 1
  with_reducible refine w_seq ?_
  refine w_ifS (w_test (w_op (w_var rfl (w_c (w_eqI (w_exb (w_ite (fun c2 => ?_) (fun _ => w_next ?_))))))))
  · refine w_ret (w_op (w_op (w_sl (w_var rfl (w_noPart (w_part (w_var rfl (w_exi (w_slLV (SqL.of ha3) fun t1 H4 _ s4 e4 => ?_)))))))))
    refine w_lstV (w_cons (w_var rfl (w_nil ⟨sz (by simp), w_new fun t2 H5 _ s5 e5 => ?_⟩)))
    rw [cutV_to (by rw [lsV_len]; omega), lsV_take] at e4
    refine w_catV (s5 _ _ e4) e5 (by rw [lsV_len, List.length_take, List.length_singleton]; omega) fun t3 H6 _ s6 e6 => ?_
    have s46 := (s4.trans s5).trans s6
    refine w_sl (w_var rfl (w_part (w_var rfl (w_exi (w_noPart (w_slLV (SqL.of (s46 _ _ ha3)) fun t4 H7 _ s7 e7 => ?_))))))
    rw [cutV_from (by rw [lsV_len]; omega), lsV_drop] at e7
    refine w_catV (s7 _ _ e6) e7 (by rw [List.length_append, lsV_len, lsV_len, List.length_take, List.length_drop, List.length_singleton]; omega) fun t5 H8 _ s8 e8 => ?_
    rw [show [V.ref y.1] = lsV [y] from rfl, ← lsV_app, ← lsV_app] at e8
    have sA := (s46.trans s7).trans s8
    refine q t5 _ H8 (kp3.trans (Same.kp sA)) (s3.same sA) e8 (LsOk.sub (ok3.same sA) fun o ho => ?_) ?_
    · rcases List.mem_append.mp ho with ho | ho
      · rcases List.mem_append.mp ho with ho | ho
        · exact List.mem_of_mem_take ho
        · rw [List.mem_singleton.mp ho]
          exact List.mem_of_getElem? ey
      · exact List.mem_of_mem_drop ho
    · rw [List.length_append, List.length_append, List.length_take, List.length_drop, List.length_singleton]
      omega
  -- kind 2
  with_reducible refine w_seq ?_
  refine w_ifS (w_test (w_op (w_var rfl (w_c (w_eqI (w_exb (w_ite (fun c3 => ?_) (fun _ => w_next ?_))))))))
  · refine w_seq (w_asg (w_cb (w_cons (w_var rfl (w_nil (w_listOfV (.inl (SqL.of ha3)) fun t1 H4 n4 s4 e4 => w_name ?_))))))
    with_reducible refine w_seq ?_
    refine w_asg (w_op (w_var rfl (w_var rfl (w_ixL (SqL.of (s4 _ _ ha3)) (atI_nat (by rw [List.getElem?_map, ez]; rfl)) (w_sub (w_var rfl (w_var rfl (w_setL e4 (ixN_at (by rw [lsV_len]; omega)) ?_))))))))
    have nat : a ≠ t1 := ne_of_none ha3 n4
    with_reducible refine w_seq ?_
    refine w_asg (w_var rfl (w_sub (w_var rfl (w_var rfl (w_setL upd_same (ixN_at (by rw [List.length_set, lsV_len]; omega)) ?_)))))
    with_reducible refine w_ret ?_
    have kA : Kp t1 H4 (upd (upd H4 t1 (.lst ((lsV ls).set i (.ref z.1)))) t1 (.lst (((lsV ls).set i (.ref z.1)).set j (.ref y.1)))) := Kp.refl.updp.updp
    have eA : upd (upd H4 t1 (.lst ((lsV ls).set i (.ref z.1)))) t1 (.lst (((lsV ls).set i (.ref z.1)).set j (.ref y.1))) t1 = some (.lst (lsV ((ls.set i z).set j y))) := by
      rw [upd_same]
      unfold lsV
      rw [List.map_set, List.map_set]
    generalize upd (upd H4 t1 (.lst ((lsV ls).set i (.ref z.1)))) t1 (.lst (((lsV ls).set i (.ref z.1)).set j (.ref y.1))) = H5 at kA eA
    have sA : Same H3 H5 := Same.kp0 s4 kA n4
    refine w_var rfl (q t1 _ H5 (kp3.trans (Same.kp sA)) (s3.same sA) eA (LsOk.sub (ok3.same sA) fun o ho => ?_) ?_)
    · rcases List.mem_or_eq_of_mem_set ho with ho | rfl
      · rcases List.mem_or_eq_of_mem_set ho with ho | rfl
        · exact ho
        · exact List.mem_of_getElem? ez
      · exact List.mem_of_getElem? ey
    · rw [List.length_set, List.length_set]
      omega
  -- the parts
  obtain ⟨dx, d, sv, bv, hyx, _, hyd, hsv, hbv⟩ := id hy.1
  with_reducible refine w_seq ?_
  refine w_asg (w_fldV rfl hyx LC.cl LC.n_number lfs_number (w_name ?_))
  with_reducible refine w_seq ?_
  refine w_asg (w_fldV rfl hyx LC.cl LC.n_stamp lfs_stamp (w_name ?_))
  with_reducible refine w_seq ?_
  refine w_asg (w_fldV rfl hyx LC.cl LC.n_seen lfs_seen (w_name ?_))
  with_reducible refine w_seq ?_
  refine w_asg (w_fldV rfl hyx LC.cl LC.n_body lfs_body (w_name ?_))
  have ms : MS H3 H3 p y.2 y.2.n y.2.s sv bv y.2.ps y.2.b := ⟨Fm.refl, Kp.refl, s3, hy.2.n1, hsv, rfl, hbv, hy.2.lb, hy.2.pb⟩
  -- kind 3
  with_reducible refine w_seq ?_
  refine w_ifCut (Mid := fun σ' G => ∃ n, σ' = [some (.ref a), some (.ref p), some (.int i), some (.int j), some (.ref y.1), some (.int kd), none, some (.int n), some (.int y.2.s), some sv, some bv, none, none] ∧ MS H3 G p y.2 n y.2.s sv bv y.2.ps y.2.b) ?_ ?_
  rotate_left
  · intro Rk hRk
    refine w_ifS (w_test (w_op (w_var rfl (w_c (w_eqI (w_exb (w_ite (fun c4 => ?_) (fun _ => w_next (hRk _ _ ⟨_, rfl, ms⟩)))))))))
    refine w_asg (w_cb (w_cons (w_c (w_cons (w_op (w_op (w_var rfl (w_call (w_cons (w_var rfl (w_cons (w_c (w_nil ⟨p, 3, rfl, ms.st, by decide, by decide, fun v G k s _ _ => w_I0 (w_c (w_I0 (w_nil (w_max2 (w_name (hRk _ _ ⟨_, rfl, ?_⟩))))))⟩)))))))))))))
    refine { ms.draw k s with n1 := ?_ }
    split <;> omega
  rintro σ' G1 ⟨n7, rfl, m1⟩
  -- kind 4
  with_reducible refine w_seq ?_
  refine w_ifCut (Mid := fun σ' G => ∃ s8, σ' = [some (.ref a), some (.ref p), some (.int i), some (.int j), some (.ref y.1), some (.int kd), none, some (.int n7), some (.int s8), some sv, some bv, none, none] ∧ MS H3 G p y.2 n7 s8 sv bv y.2.ps y.2.b) ?_ ?_
  rotate_left
  · intro Rk hRk
    refine w_ifS (w_test (w_op (w_var rfl (w_c (w_eqI (w_exb (w_ite (fun c4 => ?_) (fun _ => w_next (hRk _ _ ⟨_, rfl, m1⟩)))))))))
    refine w_asg (w_cb (w_cons (w_c (w_cons (w_op (w_op (w_var rfl (w_call (w_cons (w_var rfl (w_cons (w_c (w_nil ⟨p, 7, rfl, m1.st, by decide, by decide, fun v G k s _ _ => w_I0 (w_c (w_I0 (w_nil (w_max2 (w_name (hRk _ _ ⟨_, rfl, ?_⟩))))))⟩)))))))))))))
    exact { m1.draw k s with }
  rintro σ' G2 ⟨s8, rfl, m2⟩
  -- kind 5
  with_reducible refine w_seq ?_
  refine w_ifCut (Mid := fun σ' G => ∃ sv9 PS, σ' = [some (.ref a), some (.ref p), some (.int i), some (.int j), some (.ref y.1), some (.int kd), none, some (.int n7), some (.int s8), some sv9, some bv, none, none] ∧ MS H3 G p y.2 n7 s8 sv9 bv PS y.2.b) ?_ ?_
  rotate_left
  · intro Rk hRk
    refine w_ifS (w_test (w_op (w_var rfl (w_c (w_eqI (w_exb (w_ite (fun c4 => ?_) (fun _ => w_next (hRk _ _ ⟨_, _, rfl, m2⟩)))))))))
    have m2sv := m2.sv
    cases m2sv with
    | @tup ta xs _ _ hta hxs =>
      have hxl : xs.length = y.2.ps.length := by rw [hxs.len, List.length_map]
      have npt : ta ≠ p := by
        obtain ⟨x1, x2, e, _⟩ := m2.st
        exact ne_kind hta e fun z => by cases z
      refine w_asg (w_cb (w_cons (w_lc (w_iTup (w_var rfl ⟨ta, rfl, ⟨_, SqT.of hta⟩, fun D hD => ?_⟩)))))
      have nD : D ≠ p := m2.st.ne hD
      refine lc_it (walk_tup (xs := xs)) (fun k G' => Fm Any G2 G' ∧ Kp p G2 G' ∧ Stm G' p ∧ ∃ (ts : List V) (PS : List (Str × Int)), G' D = some (.lst ts) ∧ ts.length ≤ k ∧ DnAll Any G' ts (PS.map pairD) ∧ PS.map (·.1) = (y.2.ps.take k).map (·.1)) ?_ ?_ ?_ ?_
      · exact ⟨Fm.same (Same.upd (Same.refl G2) hD), Kp.upd Kp.refl hD, m2.st.up hD, [], [], upd_same, Nat.le_refl _, .nil, rfl⟩
      · intro k G' _ e
        exact SqT.of (e.1.1 _ _ hta)
      · rintro k x G' G'' hk ⟨fm, kp, st, ts, PS, eD, hts, dts, ePS⟩ ⟨rfl, hx⟩
        obtain ⟨pr, t5, epr, rfl, et5⟩ := pairs_at hxs k x hx
        have et5' := fm.1 _ _ et5
        have hkl : k < 100 := by
          have := hy.2.len
          omega
        refine ⟨t5, _, rfl, SqT.of et5', rfl, gc (w_name (gc (w_name (gn ⟨rfl, w_yes (iteT_ ?_)⟩))))⟩
        refine w_tupV (w_cons (w_var rfl (w_cons (w_op (w_var rfl (w_call (w_cons (w_var rfl (w_cons (w_c (w_nil ⟨p, 3, rfl, st, by decide, by decide, fun v G6 k6 s6 _ _ => w_I0 (w_nil ⟨sz (by simp), ?_⟩)⟩)))))))))))
        refine w_new fun t6 G7 n7' s7 e7 => ⟨ts, s7 _ _ (k6 _ _ nD eD), ?_, ?_, ?_, ?_, ts ++ [.ref t6], PS ++ [(pr.1, pr.2 + v)], upd_same, ?_, ?_, ?_⟩
        · exact Nat.lt_of_le_of_lt (show ts.length ≤ 100 by omega) (by decide)
        all_goals have eD7 := s7 _ _ (k6 _ _ nD eD)
        all_goals have tkD : Fm Any G7 (upd G7 D (.lst (ts ++ [V.ref t6]))) := Fm.kpL Kp.refl.updp eD7
        · exact ((fm.trans (Fm.stm k6 st)).trans (Fm.same s7)).trans tkD
        · exact fun b o n e => by
            rw [upd_ne (ne_of_none e hD)]
            exact s7 _ _ (k6 _ _ n (kp _ _ n e))
        · exact stm_kp (s6.same s7) Kp.refl.updp nD.symm
        · rw [List.length_append, List.length_singleton]
          omega
        · rw [List.map_append]
          exact DnAll.app (dnall_tk tkD.1 (plainAll_of fun d hd => by obtain ⟨_, _, rfl⟩ := List.mem_map.mp hd; rfl) ((dnall_tk (Fm.stm (ok := Any) k6 st).1 (plainAll_of fun d hd => by obtain ⟨_, _, rfl⟩ := List.mem_map.mp hd; rfl) dts).same s7)) (.cons (.tup trivial (tkD.1 _ _ e7) (.cons (.str _) (.cons (.int _) .nil))) .nil)
        · rw [List.map_append, ePS, List.take_add_one, epr, Option.toList_some, List.map_append]
          rfl
      · rintro G' ⟨fm, kp, st, ts, PS, eD, hts, dts, ePS⟩
        rw [hxl, List.take_length] at ePS
        refine w_nil (w_tupleOfL (SqL.of eD) fun l hl' => ?_)
        obtain ⟨G8, eG8, s8', e8⟩ := newT (o := .tup ts) hl'
        rw [← eG8]
        refine w_name (hRk _ _ ⟨.ref l, PS, rfl, ?_⟩)
        exact ⟨(m2.fm.trans fm).trans (Fm.same s8'), (m2.kp.trans kp).trans (Same.kp s8'), st.same s8', m2.n1, .tup trivial e8 (dts.same s8'), ePS, (dn_tk fm.1 m2.pb m2.bv).same s8', m2.lb, m2.pb⟩
  rintro σ' G3 ⟨sv9, PS, rfl, m3⟩
  -- kind 6
  with_reducible refine w_seq ?_
  refine w_ifCut (Mid := fun σ' G => ∃ bv10 B, σ' = [some (.ref a), some (.ref p), some (.int i), some (.int j), some (.ref y.1), some (.int kd), none, some (.int n7), some (.int s8), some sv9, some bv10, none, none] ∧ MS H3 G p y.2 n7 s8 sv9 bv10 PS B) ?_ ?_
  rotate_left
  · intro Rk hRk
    refine w_ifS (w_test (w_op (w_var rfl (w_c (w_eqI (w_exb (w_ite (fun c4 => ?_) (fun _ => w_next (hRk _ _ ⟨_, _, rfl, m3⟩)))))))))
    refine w_asg (w_tupV (w_cons (w_c (w_cons (w_c (w_nil ⟨sz (by simp), w_new fun t G4 _ s4 e4 => w_name (hRk _ _ ⟨.ref t, .tuple [.str (Str.ofString "say"), .str (Str.ofString "another")], rfl, ?_⟩)⟩))))))
    exact { m3.same s4 with bv := .tup trivial e4 (.cons (.str _) (.cons (.str _) .nil)), lb := say_lay (ascii_of "another"), pb := rfl }
  rintro σ' G4 ⟨bv10, B, rfl, m4⟩
  have ha4 := m4.kp _ _ nap ha3
  have ok4 := ok3.fm m4.fm
  have hyx4 := m4.fm.2.1 _ _ _ _ hyx
  with_reducible refine w_ret ?_
  refine w_op (w_op (w_sl (w_var rfl (w_noPart (w_part (w_var rfl (w_exi (w_slLV (SqL.of ha4) fun t1 G5 _ s5 e5 => ?_))))))))
  rw [cutV_to (by rw [lsV_len]; omega), lsV_take] at e5
  refine w_lstV (w_cons (w_make (w_cons (w_fldV rfl (s5 _ _ hyx4) LC.cl LC.n_author lfs_author (w_cons (w_var rfl (w_cons (w_var rfl (w_cons (w_var rfl (w_cons (w_var rfl (w_nil fun x dx' hx hdx ndx => ?_)))))))))))))
  have m5 := m4.same s5
  have wL := m5.wf hy.2
  refine ⟨x, dx', y.2.a, n7, s8, PS, sv9, bv10, rfl, upd_same, dn_made2 m5.sv hx hdx _, wL.nd, Nat.le_trans wL.len (by decide), fun G6 d6 hd6 k6 e6 ed6 => ⟨rfl, ?_⟩⟩
  have s6 : Same G5 G6 := same_made2 hx hdx k6
  have aL : LtAt Any C G6 x ⟨y.2.a, n7, s8, PS, B⟩ := ⟨dx', d6, sv9, bv10, e6, trivial, ed6, m5.sv.same s6, m5.bv.same s6⟩
  refine w_nil ⟨sz (by simp), w_new fun t2 G7 _ s7 e7 => ?_⟩
  refine w_catV (s7 _ _ (s6 _ _ e5)) e7 (by rw [lsV_len, List.length_take, List.length_singleton]; omega) fun t3 G8 _ s8' e8 => ?_
  have s58 := ((s5.trans s6).trans s7).trans s8'
  refine w_sl (w_var rfl (w_part (w_op (w_var rfl (w_c (w_I0 (w_exi (w_noPart (w_slLV (SqL.of (s58 _ _ ha4)) fun t4 G9 _ s9 e9 => ?_)))))))))
  rw [show (i : Int) + 1 = ((i + 1 : Nat) : Int) by omega, cutV_from (by rw [lsV_len]; omega), lsV_drop] at e9
  refine w_catV (s9 _ _ e8) e9 (by rw [List.length_append, lsV_len, lsV_len, List.length_take, List.length_drop, List.length_singleton]; omega) fun t5 G10 _ s10 e10 => ?_
  rw [show [V.ref x] = lsV [(x, (⟨y.2.a, n7, s8, PS, B⟩ : Lt))] from rfl, ← lsV_app, ← lsV_app] at e10
  have sA := (s58.trans s9).trans s10
  have sB := ((s7.trans s8').trans s9).trans s10
  refine q t5 _ G10 ((kp3.trans m4.kp).trans (Same.kp sA)) (m4.st.same sA) e10 (fun o ho => ?_) ?_
  · have old : ∀ o ∈ ls, LtAt Any C G10 o.1 o.2 ∧ Wf o.2 := fun o ho => (ok4.same sA) o ho
    rcases List.mem_append.mp ho with ho | ho
    · rcases List.mem_append.mp ho with ho | ho
      · exact old o (List.mem_of_mem_take ho)
      · rw [List.mem_singleton.mp ho]
        exact ⟨aL.same sB, wL⟩
    · exact old o (List.mem_of_mem_drop ho)
  · rw [List.length_append, List.length_append, List.length_take, List.length_drop, List.length_singleton]
    omega
end

/-! ### what the laws of exams share -/
theorem word_ascii {hs : List (List Lt)} {i j : Nat} {w : Str} (h : wordOf hs i j = some w) : ascii w = true := by
  have hf : ∀ {ls : List Lt} {L : Lt} {w : Str}, fault ls L = some w → ascii w = true := fun {ls L w} h => by
    unfold fault at h
    split at h
    · rw [← Option.some.inj h]; decide
    split at h
    · rw [← Option.some.inj h]; decide
    split at h
    · rw [← Option.some.inj h]; decide
    split at h
    · rw [← Option.some.inj h]; decide
    · exact nomatch h
  unfold wordOf at h
  split at h
  · exact nomatch h
  · split at h
    · rename_i e
      rw [← Option.some.inj h]
      exact hf e
    · split at h
      · rw [← Option.some.inj h]; decide
      · exact nomatch h
theorem lay_due {hs : List (List Lt)} {i : Nat} : ∀ d ∈ dueTo hs i, Lay 1 d := fun d hd => by
  obtain ⟨k, _, h⟩ := List.mem_flatMap.mp hd
  obtain ⟨j, _, h⟩ := List.mem_flatMap.mp h
  unfold cell at h
  split at h
  · rename_i w hw
    rw [List.mem_singleton.mp h]
    exact lay3 (lay_str (word_ascii hw)) lay_int lay_int
  · exact nomatch h
theorem shaped_due (hs : List (List Lt)) : SeqAt.shaped (.list (dueL hs)) = true := (lay_list lay_due).shaped
/-- beginnings of one list without faults -/
theorem due_ok {hs : List (List Lt)} {Ls : List Lt} (h : HistOk Ls) (wf : ∀ o ∈ Ls, Wf o) (pre : ∀ row ∈ hs, ∃ n, row = Ls.take n) : dueL hs = [] := by
  have rowpre : ∀ k, ∃ n, rowAt hs k = Ls.take n := fun k => by
    unfold rowAt
    rw [List.getD_eq_getElem?_getD]
    cases e : hs[k]? with
    | none => exact ⟨0, rfl⟩
    | some row => exact pre row (List.mem_of_getElem? e)
  have hw : ∀ i j, wordOf hs i j = none := fun i j => by
    unfold wordOf
    cases e : (rowAt hs i)[j]? with
    | none => rfl
    | some L =>
      obtain ⟨n, en⟩ := rowpre i
      have e' := e
      rw [en, List.getElem?_take] at e
      split at e
      · rename_i hjn
        dsimp only
        rw [en, List.take_take, Nat.min_eq_left (Nat.le_of_lt hjn), h j L e]
        dsimp only
        rw [if_neg]
        unfold unlikeB
        rw [List.any_eq_true]
        rintro ⟨row, hr, z⟩
        obtain ⟨m, rfl⟩ := pre row (List.mem_of_mem_take hr)
        cases e2 : (Ls.take m)[j]? with
        | none => rw [e2] at z; exact nomatch z
        | some M =>
          rw [e2] at z
          rw [List.getElem?_take] at e2
          split at e2
          · have : M = L := Option.some.inj (e2.symm.trans e)
            subst this
            have := SeqAt.eqv_refl (valD M) (wf M (List.mem_of_getElem? e)).lay.1
            have z : (!PyData.eqv (valD M) (valD M)) = true := z
            rw [this] at z
            exact nomatch z
          · exact nomatch e2
      · exact nomatch e
  unfold dueL dueTo
  rw [List.flatMap_eq_nil_iff]
  intro k _
  unfold rowTo
  rw [List.flatMap_eq_nil_iff]
  intro j _
  unfold cell
  rw [hw]
section
variable {K : PySem.W.Frag} {C : Addr} {vs : List V} {H : Hp} {Q : VK} {E : XK} {σ : L2.St}
end

/-! ### the law on exams of one history -/
def spLaw (K : PySem.W.Frag) : Sp := fun vs H Q _ => ∃ (a : Addr) (ns : List Int), vs = [.ref a] ∧ SqL K H a (ns.map V.int) ∧ ns.length ≤ 63 ∧ ∀ H', Q (.bl true) H'
section
variable {K : PySem.W.Frag} {C CR : Addr} {vs : List V} {H : Hp} {Q : VK} {E : XK}
/-- law: slots 0:script 1:cell 2:stream 3:people 4:letters 5:turn 6:given 7:told 8:letter -/
def t_law (K : PySem.W.Frag) (C_Letter : Addr) (C_Reading : Addr) : TS := (tSeq (tAsg (tC (.int 0)) (gName 1))
  (tSeq (tIfS (tTest (tOp qGt (tCB (qLenSeq K) (tCons (tVar 0) tNil)) (tC (.int 0)))) (tAsg (tOp (rIxL K) (tVar 0) (tC (.int 0))) (gName 1)) tNext)
  (tSeq (tAsg (tCall (spStream K) [] C8.E0 (tCons (tVar 1) (tCons (tC (.int 0)) tNil))) (gName 2))
  (tSeq (tAsg (tCall (spPeople K) [] C8.E0 (tCons (tVar 2) (tCons (tC (.int 1)) tNil))) (gName 3))
  (tSeq (tAsg (tCall (spHistory K C_Letter) [] C8.E0 (tCons (tVar 0) (tCons (tVar 3) tNil))) (gName 4))
  (tSeq (tIfS (tTest (tOp (rNeD K) (tCall (spExam K C_Letter) [] C8.E0 (tCons (tLst (tCons (tVar 4) tNil)) tNil)) (tLst tNil))) (tRet (tC (.bl false))) tNext)
  (tSeq (tFor (iRng1 (tCons (tCall (spNext K) [] C8.E0 (tCons (tVar 2) (tCons (tC (.int 4)) tNil))) tNil)) (gName 5) (tAsg (tCall (spSpoilt K C_Letter) [] C8.E0 (tCons (tVar 4) (tCons (tVar 2) tNil))) (gName 4)))
  (tSeq (tAsg (tCB (qListOf K) (tCons (tVar 4) tNil)) (gName 6))
  (tSeq (tFor (iRng1 (tCons (tC (.int 2)) tNil)) (gName 5) (tSeq (tAsg (tCall (spExam K C_Letter) [] C8.E0 (tCons (tLst (tCons (tVar 6) tNil)) tNil)) (gName 7))
  (tSeq (tIfS (tOr (tNot (tB (tCB (rIsi K) (tCons (tVar 7) (tCons (tC (.ty "list")) tNil))))) (tTest (tOp (rNeD K) (tVar 7) (tCall (spLawDue K C_Letter) [] C8.E0 (tCons (tLst (tCons (tVar 4) tNil)) tNil))))) (tRet (tC (.bl false))) tNext)
  (tDrop (tBM K "list" rAppend (tVar 7) (tCons (tC (.str "x")) tNil))))))
  (tRet (tAndV (tOp (rEqD K) (tLc (iList K (tVar 6)) (gName 8) tYes (tMeth C_Letter "value" (spValue K C_Letter) [] C8.E0 (tVar 8) tNil) [8]) (tLc (iList K (tVar 4)) (gName 8) tYes (tMeth C_Letter "value" (spValue K C_Letter) [] C8.E0 (tVar 8) tNil) [8])) (tOp (rEqD K) (tCall (spExam K C_Letter) [] C8.E0 (tCons (tLst tNil) tNil)) (tLst tNil)))))))))))))
theorem l_law (h : spLaw K vs H Q E) : vs.length = 1 := by obtain ⟨a, ns, rfl, _⟩ := h; rfl
theorem r_law (LC : IsC_Letter K C) (LR : IsC_Reading K CR) (h : spLaw K vs H Q E) : t_law K C CR { nx := fun _ H' => Q .non H', rt := Q } (start ["script", "cell", "stream", "people", "letters", "turn", "given", "told", "letter"] vs) H := by
  obtain ⟨a, ns, rfl, hS, hn, q⟩ := h
  unfold t_law
  refine w_seq (w_asg (w_c (w_name ?_)))
  with_reducible refine w_seq ?_
  refine w_ifCut (Mid := fun σ' G => ∃ z, σ' = [some (.ref a), some (.int z), none, none, none, none, none, none, none] ∧ G = H) ?_ ?_
  rotate_left
  · intro Rk hRk
    refine w_ifS (w_test (w_op (w_cb (w_cons (w_var rfl (w_nil (w_lenL hS (w_c (w_I0 (w_exb (w_ite (fun c => ?_) (fun c => w_next (hRk _ _ ⟨_, rfl, rfl⟩)))))))))))))
    rw [List.length_map] at c
    refine w_asg (w_op (w_var rfl (w_c (w_ixL (v := .int ns[0]) hS (atI_nat (j := 0) (by rw [List.getElem?_map, List.getElem?_eq_getElem (by omega)]; rfl)) (w_name (hRk _ _ ⟨_, rfl, rfl⟩))))))
  rintro σ' G ⟨z, rfl, rfl⟩
  with_reducible refine w_seq ?_
  refine w_asg (w_call (w_cons (w_var rfl (w_cons (w_c (w_nil ⟨_, _, rfl, fun p G1 p0 s1 st1 => w_name ?_⟩))))))
  with_reducible refine w_seq ?_
  refine w_asg (w_call (w_cons (w_var rfl (w_cons (w_c (w_nil ⟨p, 1, rfl, st1, by decide, by decide, fun pa ps G2 pa0 k2 st2 hpa hps h1 h8 => w_name ?_⟩))))))
  have sG2 : Same G G2 := Same.kp0 s1 k2 p0
  with_reducible refine w_seq ?_
  refine w_asg (w_call (w_cons (w_var rfl (w_cons (w_var rfl (w_nil ⟨a, ns, pa, ps, rfl, sG2.seq hS, hn, hpa, fun x hx => names8_ascii x (hps x hx), by omega, h8, fun pl ls G3 pl0 s3 hpl hok hH hl => w_name ?_⟩))))))
  have st3 := st2.same s3
  -- nothing is found
  with_reducible refine w_seq ?_
  refine w_ifS (w_test (w_op (w_call (w_cons (w_lstV (w_cons (w_var rfl (w_nil ⟨sz (by simp), w_new fun h G4 h0 s4 eh => w_nil ⟨h, [(pl, ls)], rfl, ⟨eh, fun zz hz => ?_, by simp⟩, fun r ws G5 r0 s5 er dws => ?_⟩⟩))))))))
  · rw [List.mem_singleton.mp hz]
    exact ⟨s4 _ _ hpl, hok.same s4, by show ls.length ≤ 100; omega⟩
  refine w_lstV (w_nil ⟨sz (by simp), w_new fun r2 G6 _ s6 er2 => ?_⟩)
  have hdue : dueL (hsL [(pl, ls)]) = [] := due_ok hH (fun o ho => by
    obtain ⟨y, hy, rfl⟩ := List.mem_map.mp ho
    exact (hok y hy).2) fun row hr => ⟨(ls.map (·.2)).length, by rw [List.take_length]; exact List.mem_singleton.mp hr⟩
  rw [hdue] at dws
  refine w_neDs (ok := Any) (ok2 := Any) (d := .list []) (.lst trivial (s6 _ _ er) (dws.same s6)) (.lst trivial er2 .nil) rfl (w_exb (ite_f (by decide) (w_next ?_)))
  have s36 := (s4.trans s5).trans s6
  have hpl6 := s36 _ _ hpl
  have hok6 := hok.same s36
  have st6 := st3.same s36
  clear dws er er2 eh
  -- the changes
  with_reducible refine w_seq ?_
  refine w_for (w_iRng1 (w_cons (w_call (w_cons (w_var rfl (w_cons (w_c (w_nil ⟨p, 4, rfl, st6, by decide, by decide, fun m G7 k7 st7 m0 m1 => w_nil ?_⟩))))))))
  have hpl7 := k7 _ _ (stm_ne st6 hpl6) hpl6
  have hok7 := hok6.fm (Fm.stm k7 st6)
  refine w_rng (by omega) (by omega) (fun i σ G => ∃ y5 pl ls, σ = [some (.ref a), some (.int z), some (.ref p), some (.ref pa), some (.ref pl), y5, none, none, none] ∧ Stm G p ∧ G pl = some (.lst (lsV ls)) ∧ LsOk Any C G ls ∧ ls.length ≤ 41 + i) ⟨_, pl, ls, rfl, st7, hpl7, hok7, by omega⟩ ?_ ?_
  · rintro i σ G8 hi ⟨y5, pl, ls, rfl, st, e, ok, len⟩
    refine w_name ?_
    with_reducible refine w_asg ?_
    refine w_call (w_cons (w_var rfl (w_cons (w_var rfl (w_nil ⟨pl, p, ls, rfl, st, e, ok, by omega, fun pl' ls' G9 k9 st9 e9 ok9 l9 => w_name ⟨_, pl', ls', rfl, st9, e9, ok9, by omega⟩⟩)))))
  clear hpl7 hok7 st7 hpl6 hok6 st6 hpl hok hH hl st3 hdue
  rintro σ G8 ⟨y5, pl, ls, rfl, st, e, ok, len⟩
  have hl100 : ls.length ≤ 100 := by omega
  -- the copy
  with_reducible refine w_seq ?_
  refine w_asg (w_cb (w_cons (w_var rfl (w_nil (w_listOfV (.inl (SqL.of e)) fun g G9 g0 s9 eg => w_name ?_)))))
  with_reducible refine w_seq ?_
  refine w_for (w_iRng1 (w_cons (w_c (w_nil ?_))))
  refine w_rng (by decide) (by decide) (fun i σ G => (∃ y5 y7, σ = [some (.ref a), some (.int z), some (.ref p), some (.ref pa), some (.ref pl), y5, some (.ref g), y7, none]) ∧ G pl = some (.lst (lsV ls)) ∧ G g = some (.lst (lsV ls)) ∧ LsOk Any C G ls) ⟨⟨_, _, rfl⟩, s9 _ _ e, eg, ok.same s9⟩ ?_ ?_
  · clear st e ok eg
    rintro i σ G hi ⟨⟨y5, y7, rfl⟩, e, eg, ok⟩
    refine w_name ?_
    with_reducible refine w_seq ?_
    refine w_asg (w_call (w_cons (w_lstV (w_cons (w_var rfl (w_nil ⟨sz (by simp), w_new fun h G1 h0 s1 eh => w_nil ⟨h, [(g, ls)], rfl, ⟨eh, fun zz hz => ?_, by simp⟩, fun r ws G2 r0 s2 er dws => w_name ?_⟩⟩))))))
    · rw [List.mem_singleton.mp hz]
      exact ⟨s1 _ _ eg, ok.same s1, hl100⟩
    have s12 := s1.trans s2
    with_reducible refine w_seq ?_
    refine w_ifS (w_or (w_not (w_B (w_cb (w_cons (w_var rfl (w_cons (w_c (w_nil (w_isi (Dn.tyX (ok := Any) (.lst trivial er dws)) (kit_list _) (w_exb (w_nt ?_))))))))))))
    refine w_test (w_op (w_var rfl (w_call (w_cons (w_lstV (w_cons (w_var rfl (w_nil ⟨sz (by simp), w_new fun h' G3 h0' s3 eh' => w_nil ⟨h', [(pl, ls)], rfl, ⟨eh', fun zz hz => ?_, by simp⟩, fun r' ws' G4 r0' s4 er' dws' => ?_⟩⟩))))))))
    · rw [List.mem_singleton.mp hz]
      exact ⟨s3 _ _ (s12 _ _ e), ok.same (s12.trans s3), hl100⟩
    have s34 := s3.trans s4
    refine w_neDs (ok := Any) (ok2 := Any) (d := .list (dueL (hsL [(pl, ls)]))) (.lst trivial (s34 _ _ er) (dws.same s34)) (.lst trivial er' dws') (shaped_due _) (w_exb (ite_f (by decide) (w_next ?_)))
    have hwl : ws.length ≤ 100000 := by
      rw [dws.len]
      have := dueTo_len (hs := hsL [(g, ls)]) (fun row hr => by
        rw [show row = ls.map (·.2) from List.mem_singleton.mp hr, List.length_map]
        omega) 1
      exact Nat.le_trans this (by decide)
    with_reducible refine w_drop ?_
    refine w_bm (w_var rfl (w_tyL (s34 _ _ er) (w_cons (w_c (w_nil (w_appV (s34 _ _ er) hwl fun G5 k5 e5 => ?_))))))
    have nr : ∀ {b : Addr} {o : HO}, G b = some o → G5 b = some o := fun {b o} eb => k5 _ _ (ne_of_none (s1 _ _ eb) r0) (s34 _ _ (s12 _ _ eb))
    exact ⟨⟨_, _, rfl⟩, nr e, nr eg, (ok.same (s12.trans s34)).fm (Fm.kpL k5 (s34 _ _ er))⟩
  · clear st e ok eg
    rintro σ G ⟨⟨y5, y7, rfl⟩, e, eg, ok⟩
    with_reducible refine w_ret ?_
    refine w_andV (w_op (w_lc (w_iList (w_var rfl ⟨g, rfl, ⟨_, SqL.of eg⟩, lcVals eg ok (by omega) (fun _ => rfl) (fun _ => rfl) fun D1 ts1 G1 _ s1 e1 d1 => ?_⟩))))
    refine w_lc (w_iList (w_var rfl ⟨pl, rfl, ⟨_, SqL.of (s1 _ _ e)⟩, lcVals (s1 _ _ e) (ok.same s1) (by omega) (fun _ => rfl) (fun _ => rfl) fun D2 ts2 G2 _ s2 e2 d2 => ?_⟩))
    refine w_eqDs (ok := Any) (ok2 := Any) (d := .list (ls.map fun y => valD y.2)) (.lst trivial (s2 _ _ e1) (d1.same s2)) (.lst trivial e2 d2) (lay_vals fun y hy => (ok y hy).2) (w_exb (ite_t rfl ?_))
    refine w_op (w_call (w_cons (w_lstV (w_nil ⟨sz (by simp), w_new fun h G3 h0 s3 eh => w_nil ⟨h, [], rfl, ⟨eh, fun zz hz => (nomatch hz), by simp⟩, fun r ws G4 r0 s4 er dws => ?_⟩⟩))))
    refine w_lstV (w_nil ⟨sz (by simp), w_new fun r2 G6 _ s6 er2 => ?_⟩)
    exact w_eqDs (ok := Any) (ok2 := Any) (d := .list []) (.lst trivial (s6 _ _ er) (dws.same s6)) (.lst trivial er2 .nil) rfl (q _)
end

section
variable {P : Program} {w : World} {K : PySem.W.Frag} {mg : Str → Option Value} {base : Heap} {C_Reading : Addr} {C_Letter : Addr}
def topS (i : Nat) : Stmt := PySem.Challenge.pw_lettersonce_k60_exam_of_one_history.main.body.getD i (.Pass ⟨0, 0, 0, 0⟩)
def inC (s : Stmt) (j : Nat) : Stmt := (C8.clsBody s).getD j (.Pass ⟨0, 0, 0, 0⟩)
abbrev s_Reading___init__ : Stmt := inC (topS 2) 0
theorem sc_Reading___init__ : FnScope ["self"] ["self"] (C8.fnScope s_Reading___init__) := C8.fnScope_by (by decide +kernel)
theorem c_Reading___init__ {f : Addr} {fd : FuncData} (M : Mk K C_Reading f) (hm : mg "Reading" = some (.ref C_Reading)) (F : C8.Fun K "__init__" "Reading.__init__" s_Reading___init__ f fd) (b : Binds K fd ["self"] [])
  (LC_Reading : IsC_Reading K C_Reading) :
  C8.Mak P w K mg base 1 "Reading" C_Reading (spRInit K C_Reading) [] :=
  C8.mak0 M hm F b .nil sc_Reading___init__ (fun vs H Q E h => l_Reading___init__ h) (fun cdv A outer s H vs Q E hr h => ⟨t_Reading___init__ K C_Reading,
  (pss_cons (ps_fld (pv 0) pe_dnewT rfl)
  (pss_cons (ps_fld (pv 0) pe_non rfl)
  (pss_cons (ps_fld (pv 0) pe_dnewK rfl)
  (pss_cons (ps_fld (pv 0) pe_dnewK rfl)
  (pss_cons (ps_fld (pv 0) pe_dnewK rfl)
  (pss_one (ps_fld (pv 0) pe_int rfl))))))), r_Reading___init__ LC_Reading h⟩)
abbrev s_Reading__is_seen : Stmt := inC (topS 2) 3
theorem sc_Reading__is_seen : FnScope ["self", "letter", "name"] ["self", "letter"] (C8.fnScope s_Reading__is_seen) := C8.fnScope_by (by decide +kernel)
theorem c_Reading__is_seen {f : Addr} {fd : FuncData} (me : Meth K C_Reading "_is_seen" f) (F : C8.Fun K "_is_seen" "Reading._is_seen" s_Reading__is_seen f fd) (b : Binds K fd ["self", "letter"] [])
  (LC_Letter : IsC_Letter K C_Letter) (LC_Reading : IsC_Reading K C_Reading) :
  C8.Met P w K mg base 1 C_Reading "_is_seen" (spRSeen K C_Letter C_Reading) [] :=
  C8.met0 LC_Reading.cl me F b sc_Reading__is_seen (fun vs H Q E h => l_Reading__is_seen h) (fun cdv A outer s H vs Q E hr h => ⟨t_Reading__is_seen K C_Letter C_Reading,
  (pss_cons (ps_set (i := 2) sc_Reading__is_seen.nd rfl (Or.inl rfl) (pe_fld (pv 1) rfl))
  (pss_cons (ps_if (PW.pt (pw_and (pt_cmp (pc_din (Wp.hu1 hr) (pv 2) (pe_fld (pv 0) rfl))) (pw_and1 (pt_cmpR op_ge (pe_dget (Wp.hu1 hr) (pe_fld (pv 0) rfl) (pv 2) (fun _ _ => rfl)) (pe_fld (pv 1) rfl) (nomark _))))) (pss_one (ps_ret pe_bl)) pss_nil)
  (pss_one (ps_ret (pe_and (pe_cmpR op_lt (pe_dget2 (Wp.hu1 hr) (pe_fld (pv 0) rfl) (pv 2) pe_int ⟨rfl, rfl, rfl, rfl⟩) (pe_fld (pv 0) rfl) (nomark _)) (pe_one (pe_cmpR op_le (pe_fld (pv 1) rfl) pe_int (nomark _)))))))), r_Reading__is_seen LC_Letter LC_Reading h⟩)
abbrev s_Letter___init__ : Stmt := inC (topS 6) 0
theorem sc_Letter___init__ : FnScope ["self", "author", "number", "stamp", "seen", "body", "name", "count"] ["self", "author", "number", "stamp", "seen", "body"] (C8.fnScope s_Letter___init__) := C8.fnScope_by (by decide +kernel)
theorem c_Letter___init__ {f : Addr} {fd : FuncData} (M : Mk K C_Letter f) (hm : mg "Letter" = some (.ref C_Letter)) (F : C8.Fun K "__init__" "Letter.__init__" s_Letter___init__ f fd) (b : Binds K fd ["self", "author", "number", "stamp", "seen", "body"] [])
  (LC_Letter : IsC_Letter K C_Letter) :
  C8.Mak P w K mg base 1 "Letter" C_Letter (spInit K C_Letter) [] :=
  C8.mak0 M hm F b .nil sc_Letter___init__ (fun vs H Q E h => l_Letter___init__ h) (fun cdv A outer s H vs Q E hr h => ⟨t_Letter___init__ K C_Letter,
  (pss_cons (ps_fld (pv 0) (pv 1) rfl)
  (pss_cons (ps_fld (pv 0) (pv 2) rfl)
  (pss_cons (ps_fld (pv 0) (pv 3) rfl)
  (pss_cons (ps_fld (pv 0) (pv 4) rfl)
  (pss_cons (ps_fld (pv 0) (pv 5) rfl)
  (pss_one (ps_fld (pv 0) (pe_dc (own := [("name", 6), ("count", 7)]) (g := (gTup K 2 (gCons (gName 6) (gCons (gName 7) gNil)))) (tt := tYes) (by rfl) sc_Letter___init__.nd (pi_tup (pv 4)) (blkOk_by (own := [("name", 6), ("count", 7)]) (N := ["self", "author", "number", "stamp", "seen", "body", "name", "count"]) (sc := C8.fnScope s_Letter___init__) (by decide +kernel)) (fun _ _ _ _ _ => (pg_tup rfl (pgs_cons (pg_name (i := 6) sc_Letter___init__.nd rfl (Or.inl rfl)) (pgs_cons (pg_name (i := 7) sc_Letter___init__.nd rfl (Or.inl rfl)) pgs_nil)))) (fun _ _ _ _ _ => pts_nil) (fun _ _ _ _ _ => (pv 6)) (fun _ _ _ _ _ => (pv 7))) rfl))))))), r_Letter___init__ LC_Letter h⟩)
abbrev s_Letter_ref : Stmt := inC (topS 6) 1
theorem sc_Letter_ref : FnScope ["self"] ["self"] (C8.fnScope s_Letter_ref) := C8.fnScope_by (by decide +kernel)
theorem c_Letter_ref {f : Addr} {fd : FuncData} {p : Addr} (hp : PropOf K C_Letter "ref" p f) (F : C8.Fun K "ref" "Letter.ref" s_Letter_ref f fd) (b : Binds K fd ["self"] [])
  (LC_Letter : IsC_Letter K C_Letter) :
  Wp.Prp P w K mg base 1 C_Letter "ref" (spRefP K C_Letter) :=
  Wp.prp0 LC_Letter.cl hp F b sc_Letter_ref (fun vs H Q E h => l_Letter_ref h) (fun cdv A outer s H vs Q E hr h => ⟨t_Letter_ref K C_Letter,
  (pss_one (ps_ret (pe_tup (pa_cons (pe_fld (pv 0) rfl) (pa_cons (pe_fld (pv 0) rfl) pa_nil))))), r_Letter_ref LC_Letter h⟩)
abbrev s_Letter_key : Stmt := inC (topS 6) 2
theorem sc_Letter_key : FnScope ["self"] ["self"] (C8.fnScope s_Letter_key) := C8.fnScope_by (by decide +kernel)
theorem c_Letter_key {f : Addr} {fd : FuncData} {p : Addr} (hp : PropOf K C_Letter "key" p f) (F : C8.Fun K "key" "Letter.key" s_Letter_key f fd) (b : Binds K fd ["self"] [])
  (LC_Letter : IsC_Letter K C_Letter) :
  Wp.Prp P w K mg base 1 C_Letter "key" (spKeyP K C_Letter) :=
  Wp.prp0 LC_Letter.cl hp F b sc_Letter_key (fun vs H Q E h => l_Letter_key h) (fun cdv A outer s H vs Q E hr h => ⟨t_Letter_key K C_Letter,
  (pss_one (ps_ret (pe_tup (pa_cons (pe_fld (pv 0) rfl) (pa_cons (pe_fld (pv 0) rfl) pa_nil))))), r_Letter_key LC_Letter h⟩)
abbrev s_Letter_count : Stmt := inC (topS 6) 3
theorem sc_Letter_count : FnScope ["self", "name"] ["self", "name"] (C8.fnScope s_Letter_count) := C8.fnScope_by (by decide +kernel)
theorem c_Letter_count {f : Addr} {fd : FuncData} (me : Meth K C_Letter "count" f) (F : C8.Fun K "count" "Letter.count" s_Letter_count f fd) (b : Binds K fd ["self", "name"] [])
  (LC_Letter : IsC_Letter K C_Letter) :
  C8.Met P w K mg base 1 C_Letter "count" (spCount K C_Letter) [] :=
  C8.met0 LC_Letter.cl me F b sc_Letter_count (fun vs H Q E h => l_Letter_count h) (fun cdv A outer s H vs Q E hr h => ⟨t_Letter_count K C_Letter,
  (pss_one (ps_ret (pe_dget2 (Wp.hu1 hr) (pe_fld (pv 0) rfl) (pv 1) pe_int ⟨rfl, rfl, rfl, rfl⟩))), r_Letter_count LC_Letter h⟩)
abbrev s_Letter_value : Stmt := inC (topS 6) 5
theorem sc_Letter_value : FnScope ["self"] ["self"] (C8.fnScope s_Letter_value) := C8.fnScope_by (by decide +kernel)
theorem c_Letter_value {f : Addr} {fd : FuncData} (me : Meth K C_Letter "value" f) (F : C8.Fun K "value" "Letter.value" s_Letter_value f fd) (b : Binds K fd ["self"] [])
  (LC_Letter : IsC_Letter K C_Letter) :
  C8.Met P w K mg base 1 C_Letter "value" (spValue K C_Letter) [] :=
  C8.met0 LC_Letter.cl me F b sc_Letter_value (fun vs H Q E h => l_Letter_value h) (fun cdv A outer s H vs Q E hr h => ⟨t_Letter_value K C_Letter,
  (pss_one (ps_ret (pe_tup (pa_cons (pe_fld (pv 0) rfl) (pa_cons (pe_fld (pv 0) rfl) (pa_cons (pe_fld (pv 0) rfl) (pa_cons (pe_fld (pv 0) rfl) (pa_cons (pe_fld (pv 0) rfl) pa_nil)))))))), r_Letter_value LC_Letter h⟩)
abbrev s__law_stream : Stmt := topS 8
theorem sc__law_stream : FnScope ["cell", "k", "digits"] ["cell", "k"] (C8.fnScope s__law_stream) := C8.fnScope_by (by decide +kernel)
theorem c__law_stream {f : Addr} {fd : FuncData} (F : C8.Def K mg "_law_stream" s__law_stream f fd) (b : Binds K fd ["cell", "k"] [])
  (n_int : mg "int" = none) :
  C8.Cal P w K mg base 1 "_law_stream" (spStream K) [] :=
  C8.cal0 F b .nil sc__law_stream (fun vs H Q E h => l__law_stream h) (fun cdv A outer s H vs Q E hr h => ⟨t__law_stream K,
  (pss_cons (ps_set (i := 2) sc__law_stream.nd rfl (Or.inl rfl) pe_int)
  (pss_cons (ps_if (pt_cmpR op_ge (pv 0) (pe_op op_pow pe_int pe_int) (nomark _)) (pss_one (ps_set (i := 2) sc__law_stream.nd rfl (Or.inl rfl) (pv 0))) pss_nil)
  (pss_one (ps_ret (pe_lst (pa_cons (pv 2) (pa_cons (pe_op op_mod (pe_callTy call_int1 (by rfl) n_int (by decide +kernel) (pa_cons (pe_op op_add (pe_op op_add (pe_op op_mul (pv 0) pe_int) (pe_op op_mul (pv 1) pe_int)) pe_int) pa_nil)) pe_int) pa_nil))))))), r__law_stream h⟩)
abbrev s__law_next : Stmt := topS 9
theorem sc__law_next : FnScope ["stream", "size", "drawn"] ["stream", "size"] (C8.fnScope s__law_next) := C8.fnScope_by (by decide +kernel)
theorem c__law_next {f : Addr} {fd : FuncData} (F : C8.Def K mg "_law_next" s__law_next f fd) (b : Binds K fd ["stream", "size"] [])
  (n_int : mg "int" = none) :
  C8.Cal P w K mg base 1 "_law_next" (spNext K) [] :=
  C8.cal0 F b .nil sc__law_next (fun vs H Q E h => l__law_next h) (fun cdv A outer s H vs Q E hr h => ⟨t__law_next K,
  (pss_cons (ps_if (pt_cmpR op_gt (pe_ix ix_list (pv 0) pe_int (fun _ _ => rfl)) pe_int (nomark _)) (pss_cons (ps_set (i := 2) sc__law_next.nd rfl (Or.inl rfl) (pe_op op_mod (pe_callTy call_int1 (by rfl) n_int (by decide +kernel) (pa_cons (pe_ix ix_list (pv 0) pe_int (fun _ _ => rfl)) pa_nil)) (pv 1)))
  (pss_cons (ps_asg (pe_op op_fdiv (pe_ix ix_list (pv 0) pe_int (fun _ _ => rfl)) (pv 1)) (pg_sub (pv 0) pe_int set_list))
  (pss_one (ps_ret (pv 2))))) pss_nil)
  (pss_cons (ps_asg (pe_op op_mod (pe_callTy call_int1 (by rfl) n_int (by decide +kernel) (pa_cons (pe_op op_add (pe_op op_mul (pe_ix ix_list (pv 0) pe_int (fun _ _ => rfl)) pe_int) pe_int) pa_nil)) pe_int) (pg_sub (pv 0) pe_int set_list))
  (pss_one (ps_ret (pe_op op_mod (pe_callTy call_int1 (by rfl) n_int (by decide +kernel) (pa_cons (pe_op op_fdiv (pe_op op_mod (pe_callTy call_int1 (by rfl) n_int (by decide +kernel) (pa_cons (pe_op op_add (pe_op op_mul (pe_ix ix_list (pv 0) pe_int (fun _ _ => rfl)) pe_int) pe_int) pa_nil)) pe_int) pe_int) pa_nil)) (pv 1)))))), r__law_next h⟩)
abbrev s__is_unlike : Stmt := topS 4
theorem sc__is_unlike : FnScope ["letter", "values", "value"] ["letter", "values"] (C8.fnScope s__is_unlike) := C8.fnScope_by (by decide +kernel)
theorem c__is_unlike {f : Addr} {fd : FuncData} (F : C8.Def K mg "_is_unlike" s__is_unlike f fd) (b : Binds K fd ["letter", "values"] [])
  (LC_Letter : IsC_Letter K C_Letter) (c_Letter_value : C8.Met P w K mg base 1 C_Letter "value" (spValue K C_Letter) []) (n_any : mg "any" = none) :
  C8.Cal P w K mg base 2 "_is_unlike" (spUnlike K C_Letter) [] :=
  C8.cal0 F b .nil sc__is_unlike (fun vs H Q E h => l__is_unlike h) (fun cdv A outer s H vs Q E hr h => ⟨t__is_unlike K C_Letter,
  (pss_one (ps_ret (pe_callB (cr_any rfl) (by rfl) n_any (by decide +kernel) (pa_cons (pe_lc (own := [("value", 2)]) (g := (gName 2)) (tt := tYes) (by rfl) sc__is_unlike.nd (pi_list (pv 1)) (blkOk_by (own := [("value", 2)]) (N := ["letter", "values", "value"]) (sc := C8.fnScope s__is_unlike) (by decide +kernel)) (fun _ _ _ _ _ => (pg_name (i := 2) sc__is_unlike.nd rfl (Or.inl rfl))) (fun _ _ _ _ _ => pts_nil) (fun _ _ _ _ _ => (pe_cmpR (op_neD hr.units) (pv 2) (C8.pe_mt0 c_Letter_value hr (by decide) (pv 0)) (nomark _)))) pa_nil)))), r__is_unlike LC_Letter h⟩)
abbrev s__law_people : Stmt := topS 10
theorem sc__law_people : FnScope ["stream", "least", "names", "start", "step", "many", "k"] ["stream", "least"] (C8.fnScope s__law_people) := C8.fnScope_by (by decide +kernel)
theorem c__law_people {f : Addr} {fd : FuncData} (F : C8.Def K mg "_law_people" s__law_people f fd) (b : Binds K fd ["stream", "least"] [])
  (c__law_next : C8.Cal P w K mg base 1 "_law_next" (spNext K) []) (n_range : mg "range" = none) :
  C8.Cal P w K mg base 2 "_law_people" (spPeople K) [] :=
  C8.cal0 F b .nil sc__law_people (fun vs H Q E h => l__law_people h) (fun cdv A outer s H vs Q E hr h => ⟨t__law_people K,
  (pss_cons (ps_set (i := 2) sc__law_people.nd rfl (Or.inr rfl) (pe_lst (pa_cons pe_str (pa_cons pe_str (pa_cons pe_str (pa_cons pe_str (pa_cons pe_str (pa_cons pe_str (pa_cons pe_str (pa_cons pe_str pa_nil))))))))))
  (pss_cons (ps_set (i := 3) sc__law_people.nd rfl (Or.inr rfl) (C8.pe_c c__law_next hr (by decide) (by rfl) (pa_cons (pv 0) (pa_cons pe_int pa_nil))))
  (pss_cons (ps_set (i := 4) sc__law_people.nd rfl (Or.inr rfl) (pe_op op_add pe_int (pe_op op_mul pe_int (C8.pe_c c__law_next hr (by decide) (by rfl) (pa_cons (pv 0) (pa_cons pe_int pa_nil))))))
  (pss_cons (ps_set (i := 5) sc__law_people.nd rfl (Or.inl rfl) (pe_op op_add (pv 1) (C8.pe_c c__law_next hr (by decide) (by rfl) (pa_cons (pv 0) (pa_cons (pe_op op_sub pe_int (pv 1)) pa_nil)))))
  (pss_cons (ps_if (pt_cmpR op_eq (C8.pe_c c__law_next hr (by decide) (by rfl) (pa_cons (pv 0) (pa_cons pe_int pa_nil))) pe_int (nomark _)) (pss_one (ps_set (i := 5) sc__law_people.nd rfl (Or.inl rfl) (pe_op op_add pe_int (C8.pe_c c__law_next hr (by decide) (by rfl) (pa_cons (pv 0) (pa_cons pe_int pa_nil)))))) pss_nil)
  (pss_one (ps_ret (pe_lc (own := [("k", 6)]) (g := (gName 6)) (tt := tYes) (by rfl) sc__law_people.nd (pi_range1 (by rfl) n_range (pa_cons (pv 5) pa_nil)) (blkOk_by (own := [("k", 6)]) (N := ["stream", "least", "names", "start", "step", "many", "k"]) (sc := C8.fnScope s__law_people) (by decide +kernel)) (fun _ _ _ _ _ => (pg_name (i := 6) sc__law_people.nd rfl (Or.inl rfl))) (fun _ _ _ _ _ => pts_nil) (fun _ _ _ _ _ => (pe_ix ix_list (pv 2) (pe_op op_mod (pe_op op_add (pv 3) (pe_op op_mul (pv 4) (pv 6))) pe_int) (fun _ _ => rfl))))))))))), r__law_people h⟩)
abbrev s_Reading_fault_of : Stmt := inC (topS 2) 1
theorem sc_Reading_fault_of : FnScope ["self", "letter"] ["self", "letter"] (C8.fnScope s_Reading_fault_of) := C8.fnScope_by (by decide +kernel)
theorem c_Reading_fault_of {f : Addr} {fd : FuncData} (me : Meth K C_Reading "fault_of" f) (F : C8.Fun K "fault_of" "Reading.fault_of" s_Reading_fault_of f fd) (b : Binds K fd ["self", "letter"] [])
  (LC_Letter : IsC_Letter K C_Letter) (LC_Reading : IsC_Reading K C_Reading) (c_Letter_ref : Wp.Prp P w K mg base 1 C_Letter "ref" (spRefP K C_Letter)) (c_Letter_key : Wp.Prp P w K mg base 1 C_Letter "key" (spKeyP K C_Letter)) (c_Reading__is_seen : C8.Met P w K mg base 1 C_Reading "_is_seen" (spRSeen K C_Letter C_Reading) []) :
  C8.Met P w K mg base 3 C_Reading "fault_of" (spFault K C_Letter C_Reading) [] :=
  C8.met0 LC_Reading.cl me F b sc_Reading_fault_of (fun vs H Q E h => l_Reading_fault_of h) (fun cdv A outer s H vs Q E hr h => ⟨t_Reading_fault_of K C_Letter C_Reading,
  (pss_cons (ps_if (pt_cmp (pc_din (Wp.hu1 hr) (Wp.pe_pp c_Letter_ref hr (by decide) (pv 1) rfl) (pe_fld (pv 0) rfl))) (pss_one (ps_ret pe_str)) pss_nil)
  (pss_cons (ps_if (pt_cmpR op_ne (pe_fld (pv 1) rfl) (pe_op op_add (pe_dget2 (Wp.hu1 hr) (pe_fld (pv 0) rfl) (pe_fld (pv 1) rfl) pe_int ⟨rfl, rfl, rfl, rfl⟩) pe_int) (nomark _)) (pss_one (ps_ret pe_str)) pss_nil)
  (pss_cons (ps_if (PW.pt (pw_and (pt_cmpR op_notN (pe_fld (pv 0) rfl) pe_non (nomark _)) (pw_and1 (pt_cmpR (Wp.op_leD (Wp.hu65 hr)) (Wp.pe_pp c_Letter_key hr (by decide) (pv 1) rfl) (pe_fld (pv 0) rfl) (nomark _))))) (pss_one (ps_ret pe_str)) pss_nil)
  (pss_cons (ps_if (pt_val (C8.pe_mt c_Reading__is_seen hr (by decide) (pv 0) (pa_cons (pv 1) pa_nil))) (pss_one (ps_ret pe_str)) pss_nil)
  (pss_one (ps_ret pe_non)))))), r_Reading_fault_of LC_Letter LC_Reading h⟩)
abbrev s_Reading_take : Stmt := inC (topS 2) 2
theorem sc_Reading_take : FnScope ["self", "letter", "name", "count"] ["self", "letter"] (C8.fnScope s_Reading_take) := C8.fnScope_by (by decide +kernel)
theorem c_Reading_take {f : Addr} {fd : FuncData} (me : Meth K C_Reading "take" f) (F : C8.Fun K "take" "Reading.take" s_Reading_take f fd) (b : Binds K fd ["self", "letter"] [])
  (LC_Reading : IsC_Reading K C_Reading) (LC_Letter : IsC_Letter K C_Letter) (c_Letter_ref : Wp.Prp P w K mg base 1 C_Letter "ref" (spRefP K C_Letter)) (c_Letter_key : Wp.Prp P w K mg base 1 C_Letter "key" (spKeyP K C_Letter)) (n_max : mg "max" = none) :
  C8.Met P w K mg base 3 C_Reading "take" (spTake K C_Letter C_Reading) [] :=
  C8.met0 LC_Reading.cl me F b sc_Reading_take (fun vs H Q E h => l_Reading_take h) (fun cdv A outer s H vs Q E hr h => ⟨t_Reading_take K C_Reading C_Letter,
  (pss_cons (ps_dput (Wp.hu1 hr) (pe_fld (pv 0) rfl) (Wp.pe_pp c_Letter_ref hr (by decide) (pv 1) rfl) pe_bl rfl)
  (pss_cons (ps_fld (pv 0) (Wp.pe_pp c_Letter_key hr (by decide) (pv 1) rfl) rfl)
  (pss_cons (ps_dput (Wp.hu1 hr) (pe_fld (pv 0) rfl) (pe_fld (pv 1) rfl) (pe_fld (pv 1) rfl) rfl)
  (pss_cons (ps_for PassesOwn.never rfl (pi_tup (pe_fld (pv 1) rfl)) (pg_tup rfl (pgs_cons (pg_name (i := 2) sc_Reading_take.nd rfl (Or.inl rfl)) (pgs_cons (pg_name (i := 3) sc_Reading_take.nd rfl (Or.inl rfl)) pgs_nil))) (pss_cons (ps_dput (Wp.hu1 hr) (pe_fld (pv 0) rfl) (pv 2) (pe_callB (call_max2 rfl) (by rfl) n_max (by decide +kernel) (pa_cons (pv 3) (pa_cons (pe_dget2 (Wp.hu1 hr) (pe_fld (pv 0) rfl) (pv 2) (pv 3) ⟨rfl, rfl, rfl, rfl⟩) pa_nil))) rfl)
  (pss_one (ps_dput (Wp.hu1 hr) (pe_fld (pv 0) rfl) (pv 2) (pe_op op_add (pe_dget2 (Wp.hu1 hr) (pe_fld (pv 0) rfl) (pv 2) pe_int ⟨rfl, rfl, rfl, rfl⟩) pe_int) rfl))))
  (pss_one (ps_fldaug (pv 0) pe_int in_add)))))), r_Reading_take LC_Reading LC_Letter h⟩)
abbrev s__law_history : Stmt := topS 11
theorem sc__law_history : FnScope ["script", "people", "letters", "counts", "k", "stream", "author", "known", "name", "seen"] ["script", "people"] (C8.fnScope s__law_history) := C8.fnScope_by (by decide +kernel)
theorem c__law_history {f : Addr} {fd : FuncData} (F : C8.Def K mg "_law_history" s__law_history f fd) (b : Binds K fd ["script", "people"] [])
  (LC_Letter : IsC_Letter K C_Letter) (c__law_stream : C8.Cal P w K mg base 1 "_law_stream" (spStream K) []) (c__law_next : C8.Cal P w K mg base 1 "_law_next" (spNext K) []) (c_Letter___init__ : C8.Mak P w K mg base 1 "Letter" C_Letter (spInit K C_Letter) []) (n_range : mg "range" = none) (n_min : mg "min" = none) (n_len : mg "len" = none) (n_tuple : mg "tuple" = none) (n_sorted : mg "sorted" = none) (n_str : mg "str" = none) :
  C8.Cal P w K mg base 3 "_law_history" (spHistory K C_Letter) [] :=
  C8.cal0 F b .nil sc__law_history (fun vs H Q E h => l__law_history h) (fun cdv A outer s H vs Q E hr h => ⟨t__law_history K C_Letter,
  (pss_cons (ps_set (i := 2) sc__law_history.nd rfl (Or.inl rfl) (pe_lst pa_nil))
  (pss_cons (ps_set (i := 3) sc__law_history.nd rfl (Or.inl rfl) pe_dnewK)
  (pss_cons (ps_for PassesOwn.never rfl (pi_range2 (by rfl) n_range (pa_cons pe_int (pa_cons (pe_callB (call_min2 rfl) (by rfl) n_min (by decide +kernel) (pa_cons (pe_callB call_len_seq (by rfl) n_len (by decide +kernel) (pa_cons (pv 0) pa_nil)) (pa_cons pe_int pa_nil))) pa_nil))) (pg_name (i := 4) sc__law_history.nd rfl (Or.inl rfl)) (pss_cons (ps_set (i := 5) sc__law_history.nd rfl (Or.inl rfl) (C8.pe_c c__law_stream hr (by decide) (by rfl) (pa_cons (pe_ix ix_list (pv 0) (pv 4) (fun _ _ => rfl)) (pa_cons (pv 4) pa_nil))))
  (pss_cons (ps_set (i := 6) sc__law_history.nd rfl (Or.inl rfl) (pe_ix ix_list (pv 1) (C8.pe_c c__law_next hr (by decide) (by rfl) (pa_cons (pv 5) (pa_cons (pe_callB call_len_seq (by rfl) n_len (by decide +kernel) (pa_cons (pv 1) pa_nil)) pa_nil))) (fun _ _ => rfl)))
  (pss_cons (ps_dput (Wp.hu1 hr) (pv 3) (pv 6) (pe_op op_add (pe_dget2 (Wp.hu1 hr) (pv 3) (pv 6) pe_int ⟨rfl, rfl, rfl, rfl⟩) pe_int) rfl)
  (pss_cons (ps_set (i := 7) sc__law_history.nd rfl (Or.inr rfl) pe_dnewK)
  (pss_cons (ps_lock (ps_for PassesOwn.never rfl (pi_keys (pv 3)) (pg_name (i := 8) sc__law_history.nd rfl (Or.inl rfl)) (pss_cons (ps_dput (Wp.hu1 hr) (pv 7) (pv 8) (pe_dget (Wp.hu1 hr) (pv 3) (pv 8) (fun _ _ => rfl)) rfl)
  (pss_one (ps_if (PW.pt (pw_and (pt_cmpR op_ne (pv 8) (pv 6) (nomark _)) (pw_and1 (pt_cmpR op_eq (C8.pe_c c__law_next hr (by decide) (by rfl) (pa_cons (pv 5) (pa_cons pe_int pa_nil))) pe_int (nomark _))))) (pss_one (ps_dput (Wp.hu1 hr) (pv 7) (pv 8) (C8.pe_c c__law_next hr (by decide) (by rfl) (pa_cons (pv 5) (pa_cons (pe_op op_add (pe_dget (Wp.hu1 hr) (pv 3) (pv 8) (fun _ _ => rfl)) pe_int) pa_nil))) rfl)) pss_nil)))))
  (pss_cons (ps_set (i := 9) sc__law_history.nd rfl (Or.inl rfl) (pe_callTy call_tuple_of (by rfl) n_tuple (by decide +kernel) (pa_cons (pe_lc (own := [("name", 8)]) (g := (gName 8)) (tt := (tTest (tOp qGt (tDGet (tVar 7) (tVar 8)) (tC (.int 0))))) (by rfl) sc__law_history.nd (pi_list (pe_callB (call_sortedD rfl) (by rfl) n_sorted (by decide +kernel) (pa_cons (pv 7) pa_nil))) (blkOk_by (own := [("name", 8)]) (N := ["script", "people", "letters", "counts", "k", "stream", "author", "known", "name", "seen"]) (sc := C8.fnScope s__law_history) (by decide +kernel)) (fun _ _ _ _ _ => (pg_name (i := 8) sc__law_history.nd rfl (Or.inl rfl))) (fun _ _ _ _ _ => (pts_one (pt_cmpR op_gt (pe_dget (Wp.hu1 hr) (pv 7) (pv 8) (fun _ _ => rfl)) pe_int (nomark _)))) (fun _ _ _ _ _ => (pe_tup (pa_cons (pv 8) (pa_cons (pe_dget (Wp.hu1 hr) (pv 7) (pv 8) (fun _ _ => rfl)) pa_nil))))) pa_nil)))
  (pss_one (ps_expr (pe_bm PySem.F.plainAttrs_list PySem.F.slot_list_append PySem.F.type_list_append mt_append (pv 2) (pa_cons (C8.pe_mk c_Letter___init__ hr (by decide) (by rfl) (pa_cons (pv 6) (pa_cons (pe_dget (Wp.hu1 hr) (pv 3) (pv 6) (fun _ _ => rfl)) (pa_cons (pe_op op_add (pe_op op_mul pe_int (pv 4)) (C8.pe_c c__law_next hr (by decide) (by rfl) (pa_cons (pv 5) (pa_cons pe_int pa_nil)))) (pa_cons (pv 9) (pa_cons (pe_tup (pa_cons pe_str (pa_cons (pe_op op_add_str pe_str (pe_callTy call_str_int (by rfl) n_str (by decide +kernel) (pa_cons (pv 4) pa_nil))) pa_nil))) pa_nil)))))) pa_nil)))))))))))
  (pss_one (ps_ret (pv 2)))))), r__law_history LC_Letter h⟩)
abbrev s__law_word : Stmt := topS 12
theorem sc__law_word : FnScope ["histories", "index", "place", "letters", "letter", "ahead", "other", "last", "others"] ["histories", "index", "place"] (C8.fnScope s__law_word) := C8.fnScope_by (by decide +kernel)
theorem c__law_word {f : Addr} {fd : FuncData} (F : C8.Def K mg "_law_word" s__law_word f fd) (b : Binds K fd ["histories", "index", "place"] [])
  (LC_Letter : IsC_Letter K C_Letter) (c_Letter_ref : Wp.Prp P w K mg base 1 C_Letter "ref" (spRefP K C_Letter)) (c_Letter_count : C8.Met P w K mg base 1 C_Letter "count" (spCount K C_Letter) []) (c_Letter_value : C8.Met P w K mg base 1 C_Letter "value" (spValue K C_Letter) []) (n_len : mg "len" = none) :
  C8.Cal P w K mg base 3 "_law_word" (spLawWord K C_Letter) [] :=
  C8.cal0 F b .nil sc__law_word (fun vs H Q E h => l__law_word h) (fun cdv A outer s H vs Q E hr h => ⟨t__law_word K C_Letter,
  (pss_cons (ps_set (i := 3) sc__law_word.nd rfl (Or.inl rfl) (pe_ix ix_list (pv 0) (pv 1) (fun _ _ => rfl)))
  (pss_cons (ps_set (i := 4) sc__law_word.nd rfl (Or.inr rfl) (pe_ix ix_list (pv 3) (pv 2) (fun _ _ => rfl)))
  (pss_cons (ps_set (i := 5) sc__law_word.nd rfl (Or.inl rfl) (pe_slice sl_list (pv 3) po_none (po_some (pv 2))))
  (pss_cons (ps_if (pt_cmpR op_gt (pe_callB call_len_seq (by rfl) n_len (by decide +kernel) (pa_cons (pe_lc (own := [("other", 6)]) (g := (gName 6)) (tt := (tTest (tOp (rEqD K) (tProp C_Letter (spRefP K C_Letter) [] C8.E0 (tVar 6)) (tProp C_Letter (spRefP K C_Letter) [] C8.E0 (tVar 4))))) (by rfl) sc__law_word.nd (pi_list (pv 5)) (blkOk_by (own := [("other", 6)]) (N := ["histories", "index", "place", "letters", "letter", "ahead", "other", "last", "others"]) (sc := C8.fnScope s__law_word) (by decide +kernel)) (fun _ _ _ _ _ => (pg_name (i := 6) sc__law_word.nd rfl (Or.inl rfl))) (fun _ _ _ _ _ => (pts_one (pt_cmpR (op_eqD hr.units) (Wp.pe_pp c_Letter_ref hr (by decide) (pv 6) rfl) (Wp.pe_pp c_Letter_ref hr (by decide) (pv 4) rfl) (nomark _)))) (fun _ _ _ _ _ => (pv 6))) pa_nil)) pe_int (nomark _)) (pss_one (ps_ret pe_str)) pss_nil)
  (pss_cons (ps_set (i := 7) sc__law_word.nd rfl (Or.inl rfl) pe_int)
  (pss_cons (ps_for PassesOwn.never rfl (pi_list (pv 5)) (pg_name (i := 6) sc__law_word.nd rfl (Or.inl rfl)) (pss_one (ps_if (pt_cmpR op_eq (pe_fld (pv 6) rfl) (pe_fld (pv 4) rfl) (nomark _)) (pss_one (ps_set (i := 7) sc__law_word.nd rfl (Or.inl rfl) (pe_fld (pv 6) rfl))) pss_nil)))
  (pss_cons (ps_if (pt_cmpR op_ne (pe_fld (pv 4) rfl) (pe_op op_add (pv 7) pe_int) (nomark _)) (pss_one (ps_ret pe_str)) pss_nil)
  (pss_cons (ps_if (PW.pt (pw_and (pt_cmpR op_gt (pv 2) pe_int (nomark _)) (pw_and1 (pt_cmpR (Wp.op_geD (Wp.hu65 hr)) (pe_tup (pa_cons (pe_fld (pe_ix ix_list (pv 5) (pe_un un_neg pe_int) (fun _ _ => rfl)) rfl) (pa_cons (pe_fld (pe_ix ix_list (pv 5) (pe_un un_neg pe_int) (fun _ _ => rfl)) rfl) pa_nil))) (pe_tup (pa_cons (pe_fld (pv 4) rfl) (pa_cons (pe_fld (pv 4) rfl) pa_nil))) (nomark _))))) (pss_one (ps_ret pe_str)) pss_nil)
  (pss_cons (ps_if (pt_cmpR op_gt (pe_callB call_len_seq (by rfl) n_len (by decide +kernel) (pa_cons (pe_lc (own := [("other", 6)]) (g := (gName 6)) (tt := (tTest (tOp qGe (tMeth C_Letter "count" (spCount K C_Letter) [] C8.E0 (tVar 6) (tCons (tFld K (tVar 4) "author") tNil)) (tFld K (tVar 4) "number")))) (by rfl) sc__law_word.nd (pi_list (pv 5)) (blkOk_by (own := [("other", 6)]) (N := ["histories", "index", "place", "letters", "letter", "ahead", "other", "last", "others"]) (sc := C8.fnScope s__law_word) (by decide +kernel)) (fun _ _ _ _ _ => (pg_name (i := 6) sc__law_word.nd rfl (Or.inl rfl))) (fun _ _ _ _ _ => (pts_one (pt_cmpR op_ge (C8.pe_mt c_Letter_count hr (by decide) (pv 6) (pa_cons (pe_fld (pv 4) rfl) pa_nil)) (pe_fld (pv 4) rfl) (nomark _)))) (fun _ _ _ _ _ => (pv 6))) pa_nil)) pe_int (nomark _)) (pss_one (ps_ret pe_str)) pss_nil)
  (pss_cons (ps_for PassesOwn.never rfl (pi_list (pe_slice sl_list (pv 0) po_none (po_some (pv 1)))) (pg_name (i := 8) sc__law_word.nd rfl (Or.inl rfl)) (pss_one (ps_if (PW.pt (pw_and (pt_cmpR op_lt (pv 2) (pe_callB call_len_seq (by rfl) n_len (by decide +kernel) (pa_cons (pv 8) pa_nil)) (nomark _)) (pw_and1 (pt_cmpR (op_neD hr.units) (C8.pe_mt0 c_Letter_value hr (by decide) (pe_ix ix_list (pv 8) (pv 2) (fun _ _ => rfl))) (C8.pe_mt0 c_Letter_value hr (by decide) (pv 4)) (nomark _))))) (pss_one (ps_ret pe_str)) pss_nil)))
  (pss_one (ps_ret pe_str)))))))))))), r__law_word LC_Letter h⟩)
abbrev s__law_spoilt : Stmt := topS 14
theorem sc__law_spoilt : FnScope ["letters", "stream", "place", "other", "letter", "kind", "changed", "number", "stamp", "seen", "body", "name", "count"] ["letters", "stream"] (C8.fnScope s__law_spoilt) := C8.fnScope_by (by decide +kernel)
theorem c__law_spoilt {f : Addr} {fd : FuncData} (F : C8.Def K mg "_law_spoilt" s__law_spoilt f fd) (b : Binds K fd ["letters", "stream"] [])
  (LC_Letter : IsC_Letter K C_Letter) (c__law_next : C8.Cal P w K mg base 1 "_law_next" (spNext K) []) (c_Letter___init__ : C8.Mak P w K mg base 1 "Letter" C_Letter (spInit K C_Letter) []) (n_len : mg "len" = none) (n_list : mg "list" = none) (n_max : mg "max" = none) (n_tuple : mg "tuple" = none) :
  C8.Cal P w K mg base 3 "_law_spoilt" (spSpoilt K C_Letter) [] :=
  C8.cal0 F b .nil sc__law_spoilt (fun vs H Q E h => l__law_spoilt h) (fun cdv A outer s H vs Q E hr h => ⟨t__law_spoilt K C_Letter,
  (pss_cons (ps_if (pt_cmpR op_eq (pe_callB call_len_seq (by rfl) n_len (by decide +kernel) (pa_cons (pv 0) pa_nil)) pe_int (nomark _)) (pss_one (ps_ret (pv 0))) pss_nil)
  (pss_cons (ps_set (i := 2) sc__law_spoilt.nd rfl (Or.inl rfl) (C8.pe_c c__law_next hr (by decide) (by rfl) (pa_cons (pv 1) (pa_cons (pe_callB call_len_seq (by rfl) n_len (by decide +kernel) (pa_cons (pv 0) pa_nil)) pa_nil))))
  (pss_cons (ps_set (i := 3) sc__law_spoilt.nd rfl (Or.inl rfl) (C8.pe_c c__law_next hr (by decide) (by rfl) (pa_cons (pv 1) (pa_cons (pe_callB call_len_seq (by rfl) n_len (by decide +kernel) (pa_cons (pv 0) pa_nil)) pa_nil))))
  (pss_cons (ps_set (i := 4) sc__law_spoilt.nd rfl (Or.inl rfl) (pe_ix ix_list (pv 0) (pv 2) (fun _ _ => rfl)))
  (pss_cons (ps_set (i := 5) sc__law_spoilt.nd rfl (Or.inl rfl) (C8.pe_c c__law_next hr (by decide) (by rfl) (pa_cons (pv 1) (pa_cons pe_int pa_nil))))
  (pss_cons (ps_if (pt_cmpR op_eq (pv 5) pe_int (nomark _)) (pss_one (ps_ret (pe_op op_cat (pe_slice sl_list (pv 0) po_none (po_some (pv 2))) (pe_slice sl_list (pv 0) (po_some (pe_op op_add (pv 2) pe_int)) po_none)))) pss_nil)
  (pss_cons (ps_if (pt_cmpR op_eq (pv 5) pe_int (nomark _)) (pss_one (ps_ret (pe_op op_cat (pe_op op_cat (pe_slice sl_list (pv 0) po_none (po_some (pv 3))) (pe_lst (pa_cons (pv 4) pa_nil))) (pe_slice sl_list (pv 0) (po_some (pv 3)) po_none)))) pss_nil)
  (pss_cons (ps_if (pt_cmpR op_eq (pv 5) pe_int (nomark _)) (pss_cons (ps_set (i := 6) sc__law_spoilt.nd rfl (Or.inl rfl) (pe_callTy call_list_of (by rfl) n_list (by decide +kernel) (pa_cons (pv 0) pa_nil)))
  (pss_cons (ps_asg (pe_ix ix_list (pv 0) (pv 3) (fun _ _ => rfl)) (pg_sub (pv 6) (pv 2) set_list))
  (pss_cons (ps_asg (pv 4) (pg_sub (pv 6) (pv 3) set_list))
  (pss_one (ps_ret (pv 6)))))) pss_nil)
  (pss_cons (ps_set (i := 7) sc__law_spoilt.nd rfl (Or.inl rfl) (pe_fld (pv 4) rfl))
  (pss_cons (ps_set (i := 8) sc__law_spoilt.nd rfl (Or.inl rfl) (pe_fld (pv 4) rfl))
  (pss_cons (ps_set (i := 9) sc__law_spoilt.nd rfl (Or.inl rfl) (pe_fld (pv 4) rfl))
  (pss_cons (ps_set (i := 10) sc__law_spoilt.nd rfl (Or.inl rfl) (pe_fld (pv 4) rfl))
  (pss_cons (ps_if (pt_cmpR op_eq (pv 5) pe_int (nomark _)) (pss_one (ps_set (i := 7) sc__law_spoilt.nd rfl (Or.inl rfl) (pe_callB (call_max2 rfl) (by rfl) n_max (by decide +kernel) (pa_cons pe_int (pa_cons (pe_op op_sub (pe_op op_add (pv 7) (C8.pe_c c__law_next hr (by decide) (by rfl) (pa_cons (pv 1) (pa_cons pe_int pa_nil)))) pe_int) pa_nil))))) pss_nil)
  (pss_cons (ps_if (pt_cmpR op_eq (pv 5) pe_int (nomark _)) (pss_one (ps_set (i := 8) sc__law_spoilt.nd rfl (Or.inl rfl) (pe_callB (call_max2 rfl) (by rfl) n_max (by decide +kernel) (pa_cons pe_int (pa_cons (pe_op op_sub (pe_op op_add (pv 8) (C8.pe_c c__law_next hr (by decide) (by rfl) (pa_cons (pv 1) (pa_cons pe_int pa_nil)))) pe_int) pa_nil))))) pss_nil)
  (pss_cons (ps_if (pt_cmpR op_eq (pv 5) pe_int (nomark _)) (pss_one (ps_set (i := 9) sc__law_spoilt.nd rfl (Or.inl rfl) (pe_callTy call_tuple_of (by rfl) n_tuple (by decide +kernel) (pa_cons (pe_lc (own := [("name", 11), ("count", 12)]) (g := (gTup K 2 (gCons (gName 11) (gCons (gName 12) gNil)))) (tt := tYes) (by rfl) sc__law_spoilt.nd (pi_tup (pv 9)) (blkOk_by (own := [("name", 11), ("count", 12)]) (N := ["letters", "stream", "place", "other", "letter", "kind", "changed", "number", "stamp", "seen", "body", "name", "count"]) (sc := C8.fnScope s__law_spoilt) (by decide +kernel)) (fun _ _ _ _ _ => (pg_tup rfl (pgs_cons (pg_name (i := 11) sc__law_spoilt.nd rfl (Or.inl rfl)) (pgs_cons (pg_name (i := 12) sc__law_spoilt.nd rfl (Or.inl rfl)) pgs_nil)))) (fun _ _ _ _ _ => pts_nil) (fun _ _ _ _ _ => (pe_tup (pa_cons (pv 11) (pa_cons (pe_op op_add (pv 12) (C8.pe_c c__law_next hr (by decide) (by rfl) (pa_cons (pv 1) (pa_cons pe_int pa_nil)))) pa_nil))))) pa_nil)))) pss_nil)
  (pss_cons (ps_if (pt_cmpR op_eq (pv 5) pe_int (nomark _)) (pss_one (ps_set (i := 10) sc__law_spoilt.nd rfl (Or.inl rfl) (pe_tup (pa_cons pe_str (pa_cons pe_str pa_nil))))) pss_nil)
  (pss_one (ps_ret (pe_op op_cat (pe_op op_cat (pe_slice sl_list (pv 0) po_none (po_some (pv 2))) (pe_lst (pa_cons (C8.pe_mk c_Letter___init__ hr (by decide) (by rfl) (pa_cons (pe_fld (pv 4) rfl) (pa_cons (pv 7) (pa_cons (pv 8) (pa_cons (pv 9) (pa_cons (pv 10) pa_nil)))))) pa_nil))) (pe_slice sl_list (pv 0) (po_some (pe_op op_add (pv 2) pe_int)) po_none)))))))))))))))))))), r__law_spoilt LC_Letter h⟩)
abbrev s_exam : Stmt := topS 3
theorem sc_exam : FnScope ["histories", "findings", "values", "index", "letters", "reading", "place", "letter", "word"] ["histories"] (C8.fnScope s_exam) := C8.fnScope_by (by decide +kernel)
theorem c_exam {f : Addr} {fd : FuncData} (F : C8.Def K mg "exam" s_exam f fd) (b : Binds K fd ["histories"] [])
  (LC_Reading : IsC_Reading K C_Reading) (LC_Letter : IsC_Letter K C_Letter) (c_Reading___init__ : C8.Mak P w K mg base 1 "Reading" C_Reading (spRInit K C_Reading) []) (c_Reading_fault_of : C8.Met P w K mg base 3 C_Reading "fault_of" (spFault K C_Letter C_Reading) []) (c__is_unlike : C8.Cal P w K mg base 2 "_is_unlike" (spUnlike K C_Letter) []) (c_Letter_value : C8.Met P w K mg base 1 C_Letter "value" (spValue K C_Letter) []) (c_Reading_take : C8.Met P w K mg base 3 C_Reading "take" (spTake K C_Letter C_Reading) []) (n_enumerate : mg "enumerate" = none) (n_len : mg "len" = none) :
  C8.Cal P w K mg base 4 "exam" (spExam K C_Letter) [] :=
  C8.cal0 F b .nil sc_exam (fun vs H Q E h => l_exam h) (fun cdv A outer s H vs Q E hr h => ⟨t_exam K C_Reading C_Letter,
  (pss_cons (ps_set (i := 1) sc_exam.nd rfl (Or.inl rfl) (pe_lst pa_nil))
  (pss_cons (ps_set (i := 2) sc_exam.nd rfl (Or.inl rfl) (pe_lst pa_nil))
  (pss_cons (ps_for PassesOwn.never rfl (pi_enum (by rfl) n_enumerate (pa_cons (pv 0) pa_nil)) (pg_tup rfl (pgs_cons (pg_name (i := 3) sc_exam.nd rfl (Or.inl rfl)) (pgs_cons (pg_name (i := 4) sc_exam.nd rfl (Or.inl rfl)) pgs_nil))) (pss_cons (ps_set (i := 5) sc_exam.nd rfl (Or.inl rfl) (Wp.pe_mk0 c_Reading___init__ hr (by decide) (by rfl)))
  (pss_one (ps_for PassesOwn.never rfl (pi_enum (by rfl) n_enumerate (pa_cons (pv 4) pa_nil)) (pg_tup rfl (pgs_cons (pg_name (i := 6) sc_exam.nd rfl (Or.inl rfl)) (pgs_cons (pg_name (i := 7) sc_exam.nd rfl (Or.inl rfl)) pgs_nil))) (pss_cons (ps_if (pt_cmpR op_eq (pv 6) (pe_callB call_len_seq (by rfl) n_len (by decide +kernel) (pa_cons (pv 2) pa_nil)) (nomark _)) (pss_one (ps_expr (pe_bm PySem.F.plainAttrs_list PySem.F.slot_list_append PySem.F.type_list_append mt_append (pv 2) (pa_cons (pe_lst pa_nil) pa_nil)))) pss_nil)
  (pss_cons (ps_set (i := 8) sc_exam.nd rfl (Or.inl rfl) (C8.pe_mt c_Reading_fault_of hr (by decide) (pv 5) (pa_cons (pv 7) pa_nil)))
  (pss_cons (ps_if (PW.pt (pw_and (pt_cmpR op_isN (pv 8) pe_non (nomark _)) (pw_and1 (pt_val (C8.pe_c c__is_unlike hr (by decide) (by rfl) (pa_cons (pv 7) (pa_cons (pe_ix ix_list (pv 2) (pv 6) (fun _ _ => rfl)) pa_nil))))))) (pss_one (ps_set (i := 8) sc_exam.nd rfl (Or.inl rfl) pe_str)) pss_nil)
  (pss_cons (ps_if (pt_cmpR op_notN (pv 8) pe_non (nomark _)) (pss_one (ps_expr (pe_bm PySem.F.plainAttrs_list PySem.F.slot_list_append PySem.F.type_list_append mt_append (pv 1) (pa_cons (pe_tup (pa_cons (pv 8) (pa_cons (pv 3) (pa_cons (pv 6) pa_nil)))) pa_nil)))) pss_nil)
  (pss_cons (ps_if (pt_cmpR (Wp.op_notInLD (Wp.hu65 hr)) (C8.pe_mt0 c_Letter_value hr (by decide) (pv 7)) (pe_ix ix_list (pv 2) (pv 6) (fun _ _ => rfl)) (by rfl)) (pss_one (ps_expr (pe_bm PySem.F.plainAttrs_list PySem.F.slot_list_append PySem.F.type_list_append mt_append (pe_ix ix_list (pv 2) (pv 6) (fun _ _ => rfl)) (pa_cons (C8.pe_mt0 c_Letter_value hr (by decide) (pv 7)) pa_nil)))) pss_nil)
  (pss_one (ps_expr (C8.pe_mt c_Reading_take hr (by decide) (pv 5) (pa_cons (pv 7) pa_nil)))))))))))))
  (pss_one (ps_ret (pv 1)))))), r_exam LC_Reading LC_Letter h⟩)
abbrev s__law_due : Stmt := topS 13
theorem sc__law_due : FnScope ["histories", "due", "index", "place", "word"] ["histories"] (C8.fnScope s__law_due) := C8.fnScope_by (by decide +kernel)
theorem c__law_due {f : Addr} {fd : FuncData} (F : C8.Def K mg "_law_due" s__law_due f fd) (b : Binds K fd ["histories"] [])
  (LC_Letter : IsC_Letter K C_Letter) (c__law_word : C8.Cal P w K mg base 3 "_law_word" (spLawWord K C_Letter) []) (n_range : mg "range" = none) (n_len : mg "len" = none) :
  C8.Cal P w K mg base 4 "_law_due" (spLawDue K C_Letter) [] :=
  C8.cal0 F b .nil sc__law_due (fun vs H Q E h => l__law_due h) (fun cdv A outer s H vs Q E hr h => ⟨t__law_due K C_Letter,
  (pss_cons (ps_set (i := 1) sc__law_due.nd rfl (Or.inl rfl) (pe_lst pa_nil))
  (pss_cons (ps_for PassesOwn.never rfl (pi_range1 (by rfl) n_range (pa_cons (pe_callB call_len_seq (by rfl) n_len (by decide +kernel) (pa_cons (pv 0) pa_nil)) pa_nil)) (pg_name (i := 2) sc__law_due.nd rfl (Or.inl rfl)) (pss_one (ps_for PassesOwn.never rfl (pi_range1 (by rfl) n_range (pa_cons (pe_callB call_len_seq (by rfl) n_len (by decide +kernel) (pa_cons (pe_ix ix_list (pv 0) (pv 2) (fun _ _ => rfl)) pa_nil)) pa_nil)) (pg_name (i := 3) sc__law_due.nd rfl (Or.inl rfl)) (pss_cons (ps_set (i := 4) sc__law_due.nd rfl (Or.inl rfl) (C8.pe_c c__law_word hr (by decide) (by rfl) (pa_cons (pv 0) (pa_cons (pv 2) (pa_cons (pv 3) pa_nil)))))
  (pss_one (ps_if (pt_cmpR op_ne (pv 4) pe_str (nomark _)) (pss_one (ps_expr (pe_bm PySem.F.plainAttrs_list PySem.F.slot_list_append PySem.F.type_list_append mt_append (pv 1) (pa_cons (pe_tup (pa_cons (pv 4) (pa_cons (pv 2) (pa_cons (pv 3) pa_nil)))) pa_nil)))) pss_nil))))))
  (pss_one (ps_ret (pv 1))))), r__law_due LC_Letter h⟩)
abbrev s_law : Stmt := topS 15
theorem sc_law : FnScope ["script", "cell", "stream", "people", "letters", "turn", "given", "told", "letter"] ["script"] (C8.fnScope s_law) := C8.fnScope_by (by decide +kernel)
theorem f_law {f : Addr} {fd : FuncData} (F : C8.Fun K "law" "law" s_law f fd)
  (LC_Letter : IsC_Letter K C_Letter) (LC_Reading : IsC_Reading K C_Reading) (c__law_stream : C8.Cal P w K mg base 1 "_law_stream" (spStream K) []) (c__law_people : C8.Cal P w K mg base 2 "_law_people" (spPeople K) []) (c__law_history : C8.Cal P w K mg base 3 "_law_history" (spHistory K C_Letter) []) (c_exam : C8.Cal P w K mg base 4 "exam" (spExam K C_Letter) []) (c__law_next : C8.Cal P w K mg base 1 "_law_next" (spNext K) []) (c__law_spoilt : C8.Cal P w K mg base 3 "_law_spoilt" (spSpoilt K C_Letter) []) (c__law_due : C8.Cal P w K mg base 4 "_law_due" (spLawDue K C_Letter) []) (c_Letter_value : C8.Met P w K mg base 1 C_Letter "value" (spValue K C_Letter) []) (n_len : mg "len" = none) (n_range : mg "range" = none) (n_list : mg "list" = none) (n_isinstance : mg "isinstance" = none) :
  FnOk P w K mg base C8.CX0 5 f fd ["script"] (spLaw K) :=
  C8.fn0 F sc_law (fun vs H Q E h => l_law h) (fun cdv A outer s H vs Q E hr h => ⟨t_law K C_Letter C_Reading,
  (pss_cons (ps_set (i := 1) sc_law.nd rfl (Or.inl rfl) pe_int)
  (pss_cons (ps_if (pt_cmpR op_gt (pe_callB call_len_seq (by rfl) n_len (by decide +kernel) (pa_cons (pv 0) pa_nil)) pe_int (nomark _)) (pss_one (ps_set (i := 1) sc_law.nd rfl (Or.inl rfl) (pe_ix ix_list (pv 0) pe_int (fun _ _ => rfl)))) pss_nil)
  (pss_cons (ps_set (i := 2) sc_law.nd rfl (Or.inl rfl) (C8.pe_c c__law_stream hr (by decide) (by rfl) (pa_cons (pv 1) (pa_cons pe_int pa_nil))))
  (pss_cons (ps_set (i := 3) sc_law.nd rfl (Or.inl rfl) (C8.pe_c c__law_people hr (by decide) (by rfl) (pa_cons (pv 2) (pa_cons pe_int pa_nil))))
  (pss_cons (ps_set (i := 4) sc_law.nd rfl (Or.inl rfl) (C8.pe_c c__law_history hr (by decide) (by rfl) (pa_cons (pv 0) (pa_cons (pv 3) pa_nil))))
  (pss_cons (ps_if (pt_cmpR (op_neD hr.units) (C8.pe_c c_exam hr (by decide) (by rfl) (pa_cons (pe_lst (pa_cons (pv 4) pa_nil)) pa_nil)) (pe_lst pa_nil) (nomark _)) (pss_one (ps_ret pe_bl)) pss_nil)
  (pss_cons (ps_for PassesOwn.never rfl (pi_range1 (by rfl) n_range (pa_cons (C8.pe_c c__law_next hr (by decide) (by rfl) (pa_cons (pv 2) (pa_cons pe_int pa_nil))) pa_nil)) (pg_name (i := 5) sc_law.nd rfl (Or.inl rfl)) (pss_one (ps_set (i := 4) sc_law.nd rfl (Or.inl rfl) (C8.pe_c c__law_spoilt hr (by decide) (by rfl) (pa_cons (pv 4) (pa_cons (pv 2) pa_nil))))))
  (pss_cons (ps_set (i := 6) sc_law.nd rfl (Or.inl rfl) (pe_callTy call_list_of (by rfl) n_list (by decide +kernel) (pa_cons (pv 4) pa_nil)))
  (pss_cons (ps_for PassesOwn.never rfl (pi_range1 (by rfl) n_range (pa_cons pe_int pa_nil)) (pg_name (i := 5) sc_law.nd rfl (Or.inl rfl)) (pss_cons (ps_set (i := 7) sc_law.nd rfl (Or.inl rfl) (C8.pe_c c_exam hr (by decide) (by rfl) (pa_cons (pe_lst (pa_cons (pv 6) pa_nil)) pa_nil)))
  (pss_cons (ps_if (PW.pt (pw_or (pt_not (pt_val (pe_callB call_isi (by rfl) n_isinstance (by decide +kernel) (pa_cons (pv 7) (pa_cons (pe_bltn (v := .ty "list") (by rfl) n_list PyProof.Rows.boot_list rfl) pa_nil))))) (pw_or1 (pt_cmpR (op_neD hr.units) (pv 7) (C8.pe_c c__law_due hr (by decide) (by rfl) (pa_cons (pe_lst (pa_cons (pv 4) pa_nil)) pa_nil)) (nomark _))))) (pss_one (ps_ret pe_bl)) pss_nil)
  (pss_one (ps_expr (pe_bm PySem.F.plainAttrs_list PySem.F.slot_list_append PySem.F.type_list_append mt_append (pv 7) (pa_cons pe_str pa_nil)))))))
  (pss_one (ps_ret (pe_and (pe_cmpR (op_eqD hr.units) (pe_lc (own := [("letter", 8)]) (g := (gName 8)) (tt := tYes) (by rfl) sc_law.nd (pi_list (pv 6)) (blkOk_by (own := [("letter", 8)]) (N := ["script", "cell", "stream", "people", "letters", "turn", "given", "told", "letter"]) (sc := C8.fnScope s_law) (by decide +kernel)) (fun _ _ _ _ _ => (pg_name (i := 8) sc_law.nd rfl (Or.inl rfl))) (fun _ _ _ _ _ => pts_nil) (fun _ _ _ _ _ => (C8.pe_mt0 c_Letter_value hr (by decide) (pv 8)))) (pe_lc (own := [("letter", 8)]) (g := (gName 8)) (tt := tYes) (by rfl) sc_law.nd (pi_list (pv 4)) (blkOk_by (own := [("letter", 8)]) (N := ["script", "cell", "stream", "people", "letters", "turn", "given", "told", "letter"]) (sc := C8.fnScope s_law) (by decide +kernel)) (fun _ _ _ _ _ => (pg_name (i := 8) sc_law.nd rfl (Or.inl rfl))) (fun _ _ _ _ _ => pts_nil) (fun _ _ _ _ _ => (C8.pe_mt0 c_Letter_value hr (by decide) (pv 8)))) (nomark _)) (pe_one (pe_cmpR (op_eqD hr.units) (C8.pe_c c_exam hr (by decide) (by rfl) (pa_cons (pe_lst pa_nil) pa_nil)) (pe_lst pa_nil) (nomark _))))))))))))))), r_law LC_Letter LC_Reading h⟩)
end
theorem all_mk {l : PySem.W.OpenLaw} {w : World} {K : PySem.W.Frag} {h : Heap} {mg : Str → Option Value} {fa f0 f1 f2 f3 f4 f5 f6 f7 f8 f9 f10 f11 f12 f13 f14 f15 f16 f17 f18 C_Reading C_Letter p3 p4 : Addr} (X : K.In h) (G : h.Ns mainGlobals mg) (hfa : mg "law" = some (.ref fa))
    {od0 an0 od1 an1 od2 an2 od3 an3 od4 an4 od5 an5 od6 an6 od7 an7 od8 an8 od9 an9 od10 an10 od11 an11 od12 an12 od13 an13 od14 an14 od15 an15 od16 an16 od17 an17 od18 an18 : Option Addr} {sl0 sl1 sl2 sl3 sl4 sl5 sl6 sl7 sl8 sl9 sl10 sl11 sl12 sl13 sl14 sl15 sl16 sl17 sl18 : Array (Option Value)} {oc0 kV0 dc0 pm0 cd0 ct0 oc1 kV1 dc1 pm1 cd1 ct1 oc2 kV2 dc2 pm2 cd2 ct2 oc3 kV3 dc3 pm3 cd3 ct3 oc4 kV4 dc4 pm4 cd4 ct4 oc5 kV5 dc5 pm5 cd5 ct5 oc6 kV6 dc6 pm6 cd6 ct6 oc7 kV7 dc7 pm7 cd7 ct7 oc8 kV8 dc8 pm8 cd8 ct8 oc9 kV9 dc9 pm9 cd9 ct9 oc10 kV10 dc10 pm10 cd10 ct10 oc11 kV11 dc11 pm11 cd11 ct11 oc12 kV12 dc12 pm12 cd12 ct12 oc13 kV13 dc13 pm13 cd13 ct13 oc14 kV14 dc14 pm14 cd14 ct14 oc15 kV15 dc15 pm15 cd15 ct15 oc16 kV16 dc16 pm16 cd16 ct16 oc17 kV17 dc17 pm17 cd17 ct17 oc18 kV18 dc18 pm18 cd18 ct18 : Value} {rest3 rest4 : List Value}
    (aC_Reading : PySem.W.nsIn K mainGlobals "Reading" = some (some (.ref C_Reading))) (pg_Reading : PySem.W.plainGet K C_Reading Str.empty = true) (hd_Reading : PySem.W.hasDictIn K C_Reading = true) (po_Reading : PySem.W.plainOver K C_Reading = true) (sa_Reading : PySem.W.findIn K (.ref C_Reading) "__setattr__" = some (some (.builtin "object.__setattr__"))) (mk_Reading : PySem.W.makesIn K C_Reading = true) (kc_Reading : PySem.W.keepIn K (.ref C_Reading) = true)
    (nf_Reading_refs : PySem.W.findIn K (.ref C_Reading) "_refs" = some none)
    (nf_Reading_key : PySem.W.findIn K (.ref C_Reading) "_key" = some none)
    (nf_Reading_numbers : PySem.W.findIn K (.ref C_Reading) "_numbers" = some none)
    (nf_Reading_greatest : PySem.W.findIn K (.ref C_Reading) "_greatest" = some none)
    (nf_Reading_many_with : PySem.W.findIn K (.ref C_Reading) "_many_with" = some none)
    (nf_Reading_many : PySem.W.findIn K (.ref C_Reading) "_many" = some none)
    (aC_Letter : PySem.W.nsIn K mainGlobals "Letter" = some (some (.ref C_Letter))) (pg_Letter : PySem.W.plainGet K C_Letter Str.empty = true) (hd_Letter : PySem.W.hasDictIn K C_Letter = true) (po_Letter : PySem.W.plainOver K C_Letter = true) (sa_Letter : PySem.W.findIn K (.ref C_Letter) "__setattr__" = some (some (.builtin "object.__setattr__"))) (mk_Letter : PySem.W.makesIn K C_Letter = true) (kc_Letter : PySem.W.keepIn K (.ref C_Letter) = true)
    (nf_Letter_author : PySem.W.findIn K (.ref C_Letter) "author" = some none)
    (nf_Letter_number : PySem.W.findIn K (.ref C_Letter) "number" = some none)
    (nf_Letter_stamp : PySem.W.findIn K (.ref C_Letter) "stamp" = some none)
    (nf_Letter_seen : PySem.W.findIn K (.ref C_Letter) "seen" = some none)
    (nf_Letter_body : PySem.W.findIn K (.ref C_Letter) "body" = some none)
    (nf_Letter_counts : PySem.W.findIn K (.ref C_Letter) "_counts" = some none)
    (a0 : PySem.W.findIn K (.ref C_Reading) "__init__" = some (some (.ref f0))) (i0 : PySem.W.isFn K (.ref f0) = true) (l0 : K.lookup f0 = some ⟨oc0, od0, .func (PySem.W.fnOf "__init__" "Reading.__init__" (C8.fnArgs s_Reading___init__) (C8.fnBody s_Reading___init__) (C8.fnScope s_Reading___init__) .none kV0 dc0 pm0 an0 cd0 ct0), sl0⟩) (c0 : PySem.W.codeIn K cd0 "Reading.__init__" = true) (k0 : PySem.W.keepIn K (.ref f0) = true)
    (a1 : PySem.W.findIn K (.ref C_Reading) "_is_seen" = some (some (.ref f1))) (i1 : PySem.W.isFn K (.ref f1) = true) (l1 : K.lookup f1 = some ⟨oc1, od1, .func (PySem.W.fnOf "_is_seen" "Reading._is_seen" (C8.fnArgs s_Reading__is_seen) (C8.fnBody s_Reading__is_seen) (C8.fnScope s_Reading__is_seen) .none kV1 dc1 pm1 an1 cd1 ct1), sl1⟩) (c1 : PySem.W.codeIn K cd1 "Reading._is_seen" = true) (k1 : PySem.W.keepIn K (.ref f1) = true)
    (a2 : PySem.W.findIn K (.ref C_Letter) "__init__" = some (some (.ref f2))) (i2 : PySem.W.isFn K (.ref f2) = true) (l2 : K.lookup f2 = some ⟨oc2, od2, .func (PySem.W.fnOf "__init__" "Letter.__init__" (C8.fnArgs s_Letter___init__) (C8.fnBody s_Letter___init__) (C8.fnScope s_Letter___init__) .none kV2 dc2 pm2 an2 cd2 ct2), sl2⟩) (c2 : PySem.W.codeIn K cd2 "Letter.__init__" = true) (k2 : PySem.W.keepIn K (.ref f2) = true)
    (a3 : PySem.W.findIn K (.ref C_Letter) "ref" = some (some (.ref p3))) (g3 : PySem.W.specialIn K (.ref p3) "__get__" = some (some (.builtin "property.__get__"))) (t3_ : PySem.W.takesIn K (.ref p3) = some true) (r3 : PySem.W.recIn K p3 "property" = some (.ref f3 :: rest3)) (l3 : K.lookup f3 = some ⟨oc3, od3, .func (PySem.W.fnOf "ref" "Letter.ref" (C8.fnArgs s_Letter_ref) (C8.fnBody s_Letter_ref) (C8.fnScope s_Letter_ref) .none kV3 dc3 pm3 an3 cd3 ct3), sl3⟩) (c3 : PySem.W.codeIn K cd3 "Letter.ref" = true)
    (a4 : PySem.W.findIn K (.ref C_Letter) "key" = some (some (.ref p4))) (g4 : PySem.W.specialIn K (.ref p4) "__get__" = some (some (.builtin "property.__get__"))) (t4_ : PySem.W.takesIn K (.ref p4) = some true) (r4 : PySem.W.recIn K p4 "property" = some (.ref f4 :: rest4)) (l4 : K.lookup f4 = some ⟨oc4, od4, .func (PySem.W.fnOf "key" "Letter.key" (C8.fnArgs s_Letter_key) (C8.fnBody s_Letter_key) (C8.fnScope s_Letter_key) .none kV4 dc4 pm4 an4 cd4 ct4), sl4⟩) (c4 : PySem.W.codeIn K cd4 "Letter.key" = true)
    (a5 : PySem.W.findIn K (.ref C_Letter) "count" = some (some (.ref f5))) (i5 : PySem.W.isFn K (.ref f5) = true) (l5 : K.lookup f5 = some ⟨oc5, od5, .func (PySem.W.fnOf "count" "Letter.count" (C8.fnArgs s_Letter_count) (C8.fnBody s_Letter_count) (C8.fnScope s_Letter_count) .none kV5 dc5 pm5 an5 cd5 ct5), sl5⟩) (c5 : PySem.W.codeIn K cd5 "Letter.count" = true) (k5 : PySem.W.keepIn K (.ref f5) = true)
    (a6 : PySem.W.findIn K (.ref C_Letter) "value" = some (some (.ref f6))) (i6 : PySem.W.isFn K (.ref f6) = true) (l6 : K.lookup f6 = some ⟨oc6, od6, .func (PySem.W.fnOf "value" "Letter.value" (C8.fnArgs s_Letter_value) (C8.fnBody s_Letter_value) (C8.fnScope s_Letter_value) .none kV6 dc6 pm6 an6 cd6 ct6), sl6⟩) (c6 : PySem.W.codeIn K cd6 "Letter.value" = true) (k6 : PySem.W.keepIn K (.ref f6) = true)
    (a7 : PySem.W.nsIn K mainGlobals "_law_stream" = some (some (.ref f7))) (l7 : K.lookup f7 = some ⟨oc7, od7, .func (PySem.W.fnOf "_law_stream" "_law_stream" (C8.fnArgs s__law_stream) (C8.fnBody s__law_stream) (C8.fnScope s__law_stream) .none kV7 dc7 pm7 an7 cd7 ct7), sl7⟩) (c7 : PySem.W.codeIn K cd7 "_law_stream" = true) (k7 : PySem.W.keepIn K (.ref f7) = true)
    (a8 : PySem.W.nsIn K mainGlobals "_law_next" = some (some (.ref f8))) (l8 : K.lookup f8 = some ⟨oc8, od8, .func (PySem.W.fnOf "_law_next" "_law_next" (C8.fnArgs s__law_next) (C8.fnBody s__law_next) (C8.fnScope s__law_next) .none kV8 dc8 pm8 an8 cd8 ct8), sl8⟩) (c8 : PySem.W.codeIn K cd8 "_law_next" = true) (k8 : PySem.W.keepIn K (.ref f8) = true)
    (a9 : PySem.W.nsIn K mainGlobals "_is_unlike" = some (some (.ref f9))) (l9 : K.lookup f9 = some ⟨oc9, od9, .func (PySem.W.fnOf "_is_unlike" "_is_unlike" (C8.fnArgs s__is_unlike) (C8.fnBody s__is_unlike) (C8.fnScope s__is_unlike) .none kV9 dc9 pm9 an9 cd9 ct9), sl9⟩) (c9 : PySem.W.codeIn K cd9 "_is_unlike" = true) (k9 : PySem.W.keepIn K (.ref f9) = true)
    (a10 : PySem.W.nsIn K mainGlobals "_law_people" = some (some (.ref f10))) (l10 : K.lookup f10 = some ⟨oc10, od10, .func (PySem.W.fnOf "_law_people" "_law_people" (C8.fnArgs s__law_people) (C8.fnBody s__law_people) (C8.fnScope s__law_people) .none kV10 dc10 pm10 an10 cd10 ct10), sl10⟩) (c10 : PySem.W.codeIn K cd10 "_law_people" = true) (k10 : PySem.W.keepIn K (.ref f10) = true)
    (a11 : PySem.W.findIn K (.ref C_Reading) "fault_of" = some (some (.ref f11))) (i11 : PySem.W.isFn K (.ref f11) = true) (l11 : K.lookup f11 = some ⟨oc11, od11, .func (PySem.W.fnOf "fault_of" "Reading.fault_of" (C8.fnArgs s_Reading_fault_of) (C8.fnBody s_Reading_fault_of) (C8.fnScope s_Reading_fault_of) .none kV11 dc11 pm11 an11 cd11 ct11), sl11⟩) (c11 : PySem.W.codeIn K cd11 "Reading.fault_of" = true) (k11 : PySem.W.keepIn K (.ref f11) = true)
    (a12 : PySem.W.findIn K (.ref C_Reading) "take" = some (some (.ref f12))) (i12 : PySem.W.isFn K (.ref f12) = true) (l12 : K.lookup f12 = some ⟨oc12, od12, .func (PySem.W.fnOf "take" "Reading.take" (C8.fnArgs s_Reading_take) (C8.fnBody s_Reading_take) (C8.fnScope s_Reading_take) .none kV12 dc12 pm12 an12 cd12 ct12), sl12⟩) (c12 : PySem.W.codeIn K cd12 "Reading.take" = true) (k12 : PySem.W.keepIn K (.ref f12) = true)
    (a13 : PySem.W.nsIn K mainGlobals "_law_history" = some (some (.ref f13))) (l13 : K.lookup f13 = some ⟨oc13, od13, .func (PySem.W.fnOf "_law_history" "_law_history" (C8.fnArgs s__law_history) (C8.fnBody s__law_history) (C8.fnScope s__law_history) .none kV13 dc13 pm13 an13 cd13 ct13), sl13⟩) (c13 : PySem.W.codeIn K cd13 "_law_history" = true) (k13 : PySem.W.keepIn K (.ref f13) = true)
    (a14 : PySem.W.nsIn K mainGlobals "_law_word" = some (some (.ref f14))) (l14 : K.lookup f14 = some ⟨oc14, od14, .func (PySem.W.fnOf "_law_word" "_law_word" (C8.fnArgs s__law_word) (C8.fnBody s__law_word) (C8.fnScope s__law_word) .none kV14 dc14 pm14 an14 cd14 ct14), sl14⟩) (c14 : PySem.W.codeIn K cd14 "_law_word" = true) (k14 : PySem.W.keepIn K (.ref f14) = true)
    (a15 : PySem.W.nsIn K mainGlobals "_law_spoilt" = some (some (.ref f15))) (l15 : K.lookup f15 = some ⟨oc15, od15, .func (PySem.W.fnOf "_law_spoilt" "_law_spoilt" (C8.fnArgs s__law_spoilt) (C8.fnBody s__law_spoilt) (C8.fnScope s__law_spoilt) .none kV15 dc15 pm15 an15 cd15 ct15), sl15⟩) (c15 : PySem.W.codeIn K cd15 "_law_spoilt" = true) (k15 : PySem.W.keepIn K (.ref f15) = true)
    (a16 : PySem.W.nsIn K mainGlobals "exam" = some (some (.ref f16))) (l16 : K.lookup f16 = some ⟨oc16, od16, .func (PySem.W.fnOf "exam" "exam" (C8.fnArgs s_exam) (C8.fnBody s_exam) (C8.fnScope s_exam) .none kV16 dc16 pm16 an16 cd16 ct16), sl16⟩) (c16 : PySem.W.codeIn K cd16 "exam" = true) (k16 : PySem.W.keepIn K (.ref f16) = true)
    (a17 : PySem.W.nsIn K mainGlobals "_law_due" = some (some (.ref f17))) (l17 : K.lookup f17 = some ⟨oc17, od17, .func (PySem.W.fnOf "_law_due" "_law_due" (C8.fnArgs s__law_due) (C8.fnBody s__law_due) (C8.fnScope s__law_due) .none kV17 dc17 pm17 an17 cd17 ct17), sl17⟩) (c17 : PySem.W.codeIn K cd17 "_law_due" = true) (k17 : PySem.W.keepIn K (.ref f17) = true)
    (a18 : PySem.W.nsIn K mainGlobals "law" = some (some (.ref f18))) (l18 : K.lookup f18 = some ⟨oc18, od18, .func (PySem.W.fnOf "law" "law" (C8.fnArgs s_law) (C8.fnBody s_law) (C8.fnScope s_law) .none kV18 dc18 pm18 an18 cd18 ct18), sl18⟩) (c18 : PySem.W.codeIn K cd18 "law" = true) (k18 : PySem.W.keepIn K (.ref f18) = true)
    (z0 : PySem.W.nsIn K mainGlobals "int" = some none)
    (z1 : PySem.W.nsIn K mainGlobals "any" = some none)
    (z2 : PySem.W.nsIn K mainGlobals "range" = some none)
    (z3 : PySem.W.nsIn K mainGlobals "max" = some none)
    (z4 : PySem.W.nsIn K mainGlobals "min" = some none)
    (z5 : PySem.W.nsIn K mainGlobals "len" = some none)
    (z6 : PySem.W.nsIn K mainGlobals "tuple" = some none)
    (z7 : PySem.W.nsIn K mainGlobals "sorted" = some none)
    (z8 : PySem.W.nsIn K mainGlobals "str" = some none)
    (z9 : PySem.W.nsIn K mainGlobals "list" = some none)
    (z10 : PySem.W.nsIn K mainGlobals "enumerate" = some none)
    (z11 : PySem.W.nsIn K mainGlobals "isinstance" = some none)
    : ∃ fd : FuncData, (∀ (s : Shared) (v : Value), BindsTo s fd ⟨[v], []⟩ [("script", v)]) ∧ ∀ base : Heap, K.In base → base.Ns mainGlobals mg → FnOk l.prog w K mg base C8.CX0 5 fa fd ["script"] (spLaw K) := by
  have e := hfa.symm.trans (PySem.W.mg_of X G a18)
  cases e
  have n_int : mg "int" = none := PySem.W.mg_none_of X G z0
  have n_any : mg "any" = none := PySem.W.mg_none_of X G z1
  have n_range : mg "range" = none := PySem.W.mg_none_of X G z2
  have n_max : mg "max" = none := PySem.W.mg_none_of X G z3
  have n_min : mg "min" = none := PySem.W.mg_none_of X G z4
  have n_len : mg "len" = none := PySem.W.mg_none_of X G z5
  have n_tuple : mg "tuple" = none := PySem.W.mg_none_of X G z6
  have n_sorted : mg "sorted" = none := PySem.W.mg_none_of X G z7
  have n_str : mg "str" = none := PySem.W.mg_none_of X G z8
  have n_list : mg "list" = none := PySem.W.mg_none_of X G z9
  have n_enumerate : mg "enumerate" = none := PySem.W.mg_none_of X G z10
  have n_isinstance : mg "isinstance" = none := PySem.W.mg_none_of X G z11
  have LC_Reading : IsC_Reading K C_Reading := ⟨⟨pg_Reading, hd_Reading, po_Reading, sa_Reading⟩, nf_Reading_refs, nf_Reading_key, nf_Reading_numbers, nf_Reading_greatest, nf_Reading_many_with, nf_Reading_many⟩
  have LC_Letter : IsC_Letter K C_Letter := ⟨⟨pg_Letter, hd_Letter, po_Letter, sa_Letter⟩, nf_Letter_author, nf_Letter_number, nf_Letter_stamp, nf_Letter_seen, nf_Letter_body, nf_Letter_counts⟩
  have F0 : C8.Fun K "__init__" "Reading.__init__" s_Reading___init__ _ _ := ⟨⟨_, _, _, _, _, _, _, _, _, _, rfl, l0, c0⟩⟩
  have F1 : C8.Fun K "_is_seen" "Reading._is_seen" s_Reading__is_seen _ _ := ⟨⟨_, _, _, _, _, _, _, _, _, _, rfl, l1, c1⟩⟩
  have F2 : C8.Fun K "__init__" "Letter.__init__" s_Letter___init__ _ _ := ⟨⟨_, _, _, _, _, _, _, _, _, _, rfl, l2, c2⟩⟩
  have F3 : C8.Fun K "ref" "Letter.ref" s_Letter_ref _ _ := ⟨⟨_, _, _, _, _, _, _, _, _, _, rfl, l3, c3⟩⟩
  have F4 : C8.Fun K "key" "Letter.key" s_Letter_key _ _ := ⟨⟨_, _, _, _, _, _, _, _, _, _, rfl, l4, c4⟩⟩
  have F5 : C8.Fun K "count" "Letter.count" s_Letter_count _ _ := ⟨⟨_, _, _, _, _, _, _, _, _, _, rfl, l5, c5⟩⟩
  have F6 : C8.Fun K "value" "Letter.value" s_Letter_value _ _ := ⟨⟨_, _, _, _, _, _, _, _, _, _, rfl, l6, c6⟩⟩
  have F7 : C8.Fun K "_law_stream" "_law_stream" s__law_stream _ _ := ⟨⟨_, _, _, _, _, _, _, _, _, _, rfl, l7, c7⟩⟩
  have F8 : C8.Fun K "_law_next" "_law_next" s__law_next _ _ := ⟨⟨_, _, _, _, _, _, _, _, _, _, rfl, l8, c8⟩⟩
  have F9 : C8.Fun K "_is_unlike" "_is_unlike" s__is_unlike _ _ := ⟨⟨_, _, _, _, _, _, _, _, _, _, rfl, l9, c9⟩⟩
  have F10 : C8.Fun K "_law_people" "_law_people" s__law_people _ _ := ⟨⟨_, _, _, _, _, _, _, _, _, _, rfl, l10, c10⟩⟩
  have F11 : C8.Fun K "fault_of" "Reading.fault_of" s_Reading_fault_of _ _ := ⟨⟨_, _, _, _, _, _, _, _, _, _, rfl, l11, c11⟩⟩
  have F12 : C8.Fun K "take" "Reading.take" s_Reading_take _ _ := ⟨⟨_, _, _, _, _, _, _, _, _, _, rfl, l12, c12⟩⟩
  have F13 : C8.Fun K "_law_history" "_law_history" s__law_history _ _ := ⟨⟨_, _, _, _, _, _, _, _, _, _, rfl, l13, c13⟩⟩
  have F14 : C8.Fun K "_law_word" "_law_word" s__law_word _ _ := ⟨⟨_, _, _, _, _, _, _, _, _, _, rfl, l14, c14⟩⟩
  have F15 : C8.Fun K "_law_spoilt" "_law_spoilt" s__law_spoilt _ _ := ⟨⟨_, _, _, _, _, _, _, _, _, _, rfl, l15, c15⟩⟩
  have F16 : C8.Fun K "exam" "exam" s_exam _ _ := ⟨⟨_, _, _, _, _, _, _, _, _, _, rfl, l16, c16⟩⟩
  have F17 : C8.Fun K "_law_due" "_law_due" s__law_due _ _ := ⟨⟨_, _, _, _, _, _, _, _, _, _, rfl, l17, c17⟩⟩
  have F18 : C8.Fun K "law" "law" s_law _ _ := ⟨⟨_, _, _, _, _, _, _, _, _, _, rfl, l18, c18⟩⟩
  refine ⟨PySem.W.fnOf "law" "law" (C8.fnArgs s_law) (C8.fnBody s_law) (C8.fnScope s_law) .none kV18 dc18 pm18 an18 cd18 ct18, fun s v => .of_eq rfl, fun base _ _ => ?_⟩
  have c_Reading___init__ := c_Reading___init__ (P := l.prog) (w := w) (base := base) ⟨mk_Reading, a0, i0, kc_Reading⟩ (PySem.W.mg_of X G aC_Reading) F0 (F0.binds rfl fun _ _ _ _ _ _ us hl => match us, hl with | [_], _ => rfl) LC_Reading
  have c_Reading__is_seen := c_Reading__is_seen (P := l.prog) (w := w) (mg := mg) (base := base) ⟨a1, i1, k1⟩ F1 (F1.binds rfl fun _ _ _ _ _ _ us hl => match us, hl with | [_, _], _ => rfl) LC_Letter LC_Reading
  have c_Letter___init__ := c_Letter___init__ (P := l.prog) (w := w) (base := base) ⟨mk_Letter, a2, i2, kc_Letter⟩ (PySem.W.mg_of X G aC_Letter) F2 (F2.binds rfl fun _ _ _ _ _ _ us hl => match us, hl with | [_, _, _, _, _, _], _ => rfl) LC_Letter
  have c_Letter_ref := c_Letter_ref (P := l.prog) (w := w) (mg := mg) (base := base) ⟨a3, g3, t3_, ⟨_, r3⟩⟩ F3 (F3.binds rfl fun _ _ _ _ _ _ us hl => match us, hl with | [_], _ => rfl) LC_Letter
  have c_Letter_key := c_Letter_key (P := l.prog) (w := w) (mg := mg) (base := base) ⟨a4, g4, t4_, ⟨_, r4⟩⟩ F4 (F4.binds rfl fun _ _ _ _ _ _ us hl => match us, hl with | [_], _ => rfl) LC_Letter
  have c_Letter_count := c_Letter_count (P := l.prog) (w := w) (mg := mg) (base := base) ⟨a5, i5, k5⟩ F5 (F5.binds rfl fun _ _ _ _ _ _ us hl => match us, hl with | [_, _], _ => rfl) LC_Letter
  have c_Letter_value := c_Letter_value (P := l.prog) (w := w) (mg := mg) (base := base) ⟨a6, i6, k6⟩ F6 (F6.binds rfl fun _ _ _ _ _ _ us hl => match us, hl with | [_], _ => rfl) LC_Letter
  have c__law_stream := c__law_stream (P := l.prog) (w := w) (base := base) ⟨F7, PySem.W.mg_of X G a7, k7⟩ (F7.binds rfl fun _ _ _ _ _ _ us hl => match us, hl with | [_, _], _ => rfl) n_int
  have c__law_next := c__law_next (P := l.prog) (w := w) (base := base) ⟨F8, PySem.W.mg_of X G a8, k8⟩ (F8.binds rfl fun _ _ _ _ _ _ us hl => match us, hl with | [_, _], _ => rfl) n_int
  have c__is_unlike := c__is_unlike (P := l.prog) (w := w) (base := base) ⟨F9, PySem.W.mg_of X G a9, k9⟩ (F9.binds rfl fun _ _ _ _ _ _ us hl => match us, hl with | [_, _], _ => rfl) LC_Letter c_Letter_value n_any
  have c__law_people := c__law_people (P := l.prog) (w := w) (base := base) ⟨F10, PySem.W.mg_of X G a10, k10⟩ (F10.binds rfl fun _ _ _ _ _ _ us hl => match us, hl with | [_, _], _ => rfl) c__law_next n_range
  have c_Reading_fault_of := c_Reading_fault_of (P := l.prog) (w := w) (mg := mg) (base := base) ⟨a11, i11, k11⟩ F11 (F11.binds rfl fun _ _ _ _ _ _ us hl => match us, hl with | [_, _], _ => rfl) LC_Letter LC_Reading c_Letter_ref c_Letter_key c_Reading__is_seen
  have c_Reading_take := c_Reading_take (P := l.prog) (w := w) (mg := mg) (base := base) ⟨a12, i12, k12⟩ F12 (F12.binds rfl fun _ _ _ _ _ _ us hl => match us, hl with | [_, _], _ => rfl) LC_Reading LC_Letter c_Letter_ref c_Letter_key n_max
  have c__law_history := c__law_history (P := l.prog) (w := w) (base := base) ⟨F13, PySem.W.mg_of X G a13, k13⟩ (F13.binds rfl fun _ _ _ _ _ _ us hl => match us, hl with | [_, _], _ => rfl) LC_Letter c__law_stream c__law_next c_Letter___init__ n_range n_min n_len n_tuple n_sorted n_str
  have c__law_word := c__law_word (P := l.prog) (w := w) (base := base) ⟨F14, PySem.W.mg_of X G a14, k14⟩ (F14.binds rfl fun _ _ _ _ _ _ us hl => match us, hl with | [_, _, _], _ => rfl) LC_Letter c_Letter_ref c_Letter_count c_Letter_value n_len
  have c__law_spoilt := c__law_spoilt (P := l.prog) (w := w) (base := base) ⟨F15, PySem.W.mg_of X G a15, k15⟩ (F15.binds rfl fun _ _ _ _ _ _ us hl => match us, hl with | [_, _], _ => rfl) LC_Letter c__law_next c_Letter___init__ n_len n_list n_max n_tuple
  have c_exam := c_exam (P := l.prog) (w := w) (base := base) ⟨F16, PySem.W.mg_of X G a16, k16⟩ (F16.binds rfl fun _ _ _ _ _ _ us hl => match us, hl with | [_], _ => rfl) LC_Reading LC_Letter c_Reading___init__ c_Reading_fault_of c__is_unlike c_Letter_value c_Reading_take n_enumerate n_len
  have c__law_due := c__law_due (P := l.prog) (w := w) (base := base) ⟨F17, PySem.W.mg_of X G a17, k17⟩ (F17.binds rfl fun _ _ _ _ _ _ us hl => match us, hl with | [_], _ => rfl) LC_Letter c__law_word n_range n_len
  exact f_law F18 LC_Letter LC_Reading c__law_stream c__law_people c__law_history c_exam c__law_next c__law_spoilt c__law_due c_Letter_value n_len n_range n_list n_isinstance
end T
open PySem PySem.W PyProof.Rows
set_option maxHeartbeats 0 in
theorem PySem.Challenge.cw_lettersonce_k60_exam_of_one_history_holds : PySem.Challenge.rw_lettersonce_k60_exam_of_one_history.Holds := by
  w_on; o_law; k_head; (case hw => w_witness2)
  k_fill
  refine L2.walk_of (l := PySem.Challenge.rw_lettersonce_k60_exam_of_one_history) (n := 63) (k := 5) (x := "script") (CX := fun _ => C8.CX0) (sp := fun w => T.spLaw _) rfl (by decide) rfl ⟨rfl, by decide, by decide⟩ (fun w h Y => PySem.W.kIn_of Y) ?F (fun _ _ a ns hl _ hS => ⟨a, ns, rfl, hS, hl, fun _ => rfl⟩) (fun _ _ _ _ _ h => h)
  case F =>
    intro w mg fa h KX G hmg
    refine' T.all_mk KX G hmg ?aC_Reading ?pg_Reading ?hd_Reading ?po_Reading ?sa_Reading ?mk_Reading ?kc_Reading ?nf_Reading_refs ?nf_Reading_key ?nf_Reading_numbers ?nf_Reading_greatest ?nf_Reading_many_with ?nf_Reading_many ?aC_Letter ?pg_Letter ?hd_Letter ?po_Letter ?sa_Letter ?mk_Letter ?kc_Letter ?nf_Letter_author ?nf_Letter_number ?nf_Letter_stamp ?nf_Letter_seen ?nf_Letter_body ?nf_Letter_counts ?a0 ?i0 ?l0 ?c0 ?k0 ?a1 ?i1 ?l1 ?c1 ?k1 ?a2 ?i2 ?l2 ?c2 ?k2 ?a3 ?g3 ?t3_ ?r3 ?l3 ?c3 ?a4 ?g4 ?t4_ ?r4 ?l4 ?c4 ?a5 ?i5 ?l5 ?c5 ?k5 ?a6 ?i6 ?l6 ?c6 ?k6 ?a7 ?l7 ?c7 ?k7 ?a8 ?l8 ?c8 ?k8 ?a9 ?l9 ?c9 ?k9 ?a10 ?l10 ?c10 ?k10 ?a11 ?i11 ?l11 ?c11 ?k11 ?a12 ?i12 ?l12 ?c12 ?k12 ?a13 ?l13 ?c13 ?k13 ?a14 ?l14 ?c14 ?k14 ?a15 ?l15 ?c15 ?k15 ?a16 ?l16 ?c16 ?k16 ?a17 ?l17 ?c17 ?k17 ?a18 ?l18 ?c18 ?k18 ?z0 ?z1 ?z2 ?z3 ?z4 ?z5 ?z6 ?z7 ?z8 ?z9 ?z10 ?z11
    (case aC_Reading => k_is); (case pg_Reading => k_is); (case hd_Reading => k_is); (case po_Reading => k_is); (case sa_Reading => k_is); (case mk_Reading => k_is); (case kc_Reading => k_is); (case nf_Reading_refs => k_is); (case nf_Reading_key => k_is); (case nf_Reading_numbers => k_is); (case nf_Reading_greatest => k_is); (case nf_Reading_many_with => k_is); (case nf_Reading_many => k_is); (case aC_Letter => k_is); (case pg_Letter => k_is); (case hd_Letter => k_is); (case po_Letter => k_is); (case sa_Letter => k_is); (case mk_Letter => k_is); (case kc_Letter => k_is); (case nf_Letter_author => k_is); (case nf_Letter_number => k_is); (case nf_Letter_stamp => k_is); (case nf_Letter_seen => k_is); (case nf_Letter_body => k_is); (case nf_Letter_counts => k_is); (case a0 => k_is); (case i0 => k_is); (case l0 => k_is); (case c0 => k_is); (case k0 => k_is); (case a1 => k_is); (case i1 => k_is); (case l1 => k_is); (case c1 => k_is); (case k1 => k_is); (case a2 => k_is); (case i2 => k_is); (case l2 => k_is); (case c2 => k_is); (case k2 => k_is); (case a3 => k_is); (case g3 => k_is); (case t3_ => k_is); (case r3 => k_is); (case l3 => k_is); (case c3 => k_is); (case a4 => k_is); (case g4 => k_is); (case t4_ => k_is); (case r4 => k_is); (case l4 => k_is); (case c4 => k_is); (case a5 => k_is); (case i5 => k_is); (case l5 => k_is); (case c5 => k_is); (case k5 => k_is); (case a6 => k_is); (case i6 => k_is); (case l6 => k_is); (case c6 => k_is); (case k6 => k_is); (case a7 => k_is); (case l7 => k_is); (case c7 => k_is); (case k7 => k_is); (case a8 => k_is); (case l8 => k_is); (case c8 => k_is); (case k8 => k_is); (case a9 => k_is); (case l9 => k_is); (case c9 => k_is); (case k9 => k_is); (case a10 => k_is); (case l10 => k_is); (case c10 => k_is); (case k10 => k_is); (case a11 => k_is); (case i11 => k_is); (case l11 => k_is); (case c11 => k_is); (case k11 => k_is); (case a12 => k_is); (case i12 => k_is); (case l12 => k_is); (case c12 => k_is); (case k12 => k_is); (case a13 => k_is); (case l13 => k_is); (case c13 => k_is); (case k13 => k_is); (case a14 => k_is); (case l14 => k_is); (case c14 => k_is); (case k14 => k_is); (case a15 => k_is); (case l15 => k_is); (case c15 => k_is); (case k15 => k_is); (case a16 => k_is); (case l16 => k_is); (case c16 => k_is); (case k16 => k_is); (case a17 => k_is); (case l17 => k_is); (case c17 => k_is); (case k17 => k_is); (case a18 => k_is); (case l18 => k_is); (case c18 => k_is); (case k18 => k_is); (case z0 => k_is); (case z1 => k_is); (case z2 => k_is); (case z3 => k_is); (case z4 => k_is); (case z5 => k_is); (case z6 => k_is); (case z7 => k_is); (case z8 => k_is); (case z9 => k_is); (case z10 => k_is); (case z11 => k_is)
