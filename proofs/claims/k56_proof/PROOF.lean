import PyProof.Rows.All
import Wide.All
import OpenK.AllK
import Wide.FinOn
import HandS.ForMost
import HandS.IsInst
import HandS.More
import PyProof.TypeEq
import PyProof.InstEq
import HandS.Codes
import HandS.TupLe
import HandS.Walk
import HandS.StrMore
import PyProof.StrBlock2
import HandS.Property
import HandS.DictComp
import HandS.HeadHook3
import HandS.Zip
import HandS.FStr
import HandS.TupAny
import PyProof.FitsInt
import KE.DataCmp
import PySem.Challenge.RW_lettersonce_k56_unread_letters
set_option Elab.async false
set_option linter.all false
set_option maxRecDepth 100000
set_option maxHeartbeats 4000000
namespace TyNe
open PySem PySem.Spec PyProof.Rows L2 PySem.TypeEq Builtin

theorem slot_type_ne : Slot "type" (cmpInfo .NotEq).2.1 "object.__ne__" :=
  .of (owner := "object") (n := "__ne__") (by rw [typeLookup_type, builtinLookup_eq_fast]; kernel_rfl) (by decide +kernel) (by decide +kernel) (by decide +kernel)
    (by first | exact .inl (by decide +kernel) | exact .inr (by decide +kernel)) (by rw [isSubtype_type]; kernel_rfl)
theorem slot_type_ne_refl : Slot "type" (cmpInfo .NotEq).2.2 "object.__ne__" :=
  .of (owner := "object") (n := "__ne__") (by rw [typeLookup_type, builtinLookup_eq_fast]; kernel_rfl) (by decide +kernel) (by decide +kernel) (by decide +kernel)
    (by first | exact .inl (by decide +kernel) | exact .inr (by decide +kernel)) (by rw [isSubtype_type]; kernel_rfl)
theorem slot_type_eq' : Slot "type" "__eq__" "object.__eq__" := slot_type_eq
section
variable {prog : Program} {w : World} {A : Around} {E : Value → Shared → Prop} {s : Shared}
theorem ne_entry_same {X : String} (hX : ∀ s' : Shared, s'.TypeIs (.type X) "type") {Q : Fin → Shared → Prop} (h : Q (.done (.ret (.bool false))) s) :
    wpAny (model prog w) A (Builtin.«object.__ne__» ⟨[.type X, .type X], []⟩) Q E s := by
  unfold Builtin.«object.__ne__»
  repeat (first
    | with_reducible refine wpAny_cRoomFor_or (.inl rfl) ?_
    | (refine wpAny_bind (m := callSpecialIfBound? (.type X) (Str.ofString "__eq__") [.type X]) (wpAny_callSpecialIfBound?_slot (hX s) slot_type_eq'
        (call_gives slot_type_eq' (hX s) F.entry_object_eq (F.args_object_eq_2 _ _) (object_eq_same rfl (by simp)) ?_)))
    | wp_step)
  show wpAny _ A _ Q E s
  repeat (first | exact h | exact wpAny_pure h | (refine wpAny_bind (m := truthy (.bool _)) (wpAny_truthy_bool ?_)) | wp_step)
theorem ne_entry_other {X Y : String} (hX : ∀ s' : Shared, s'.TypeIs (.type X) "type") (hne : (Value.type X == Value.type Y) = false) {Q : Fin → Shared → Prop} (h : Q (.done (.ret .notImplemented)) s) :
    wpAny (model prog w) A (Builtin.«object.__ne__» ⟨[.type X, .type Y], []⟩) Q E s := by
  unfold Builtin.«object.__ne__»
  repeat (first
    | with_reducible refine wpAny_cRoomFor_or (.inl rfl) ?_
    | (refine wpAny_bind (m := callSpecialIfBound? (.type X) (Str.ofString "__eq__") [.type Y]) (wpAny_callSpecialIfBound?_slot (hX s) slot_type_eq'
        (call_gives slot_type_eq' (hX s) F.entry_object_eq (F.args_object_eq_2 _ _) (object_eq_other rfl hne) ?_)))
    | wp_step)
  show wpAny _ A _ Q E s
  repeat (first | exact h | exact wpAny_pure h | wp_step)
theorem call_ne_same {X : String} (hX : ∀ s' : Shared, s'.TypeIs (.type X) "type") {Q : Value → Shared → Prop} (h : Q (.bool false) s) :
    wpAny (model prog w) A (call (.builtin "object.__ne__") [.type X, .type X]) Q E s :=
  wpAny_call_entry slot_type_ne (hX s) F.cmpEntry_ne (ne_entry_same hX ⟨_, rfl, h⟩) (F.cmpArgs_ne _ _)
theorem call_ne_other {X Y : String} (hX : ∀ s' : Shared, s'.TypeIs (.type X) "type") (hne : (Value.type X == Value.type Y) = false) {Q : Value → Shared → Prop} (h : Q .notImplemented s) :
    wpAny (model prog w) A (call (.builtin "object.__ne__") [.type X, .type Y]) Q E s :=
  wpAny_call_entry slot_type_ne (hX s) F.cmpEntry_ne (ne_entry_other hX hne ⟨_, rfl, h⟩) (F.cmpArgs_ne _ _)
theorem ne_type_same {Q : Value → Shared → Prop} {X : String} (hX : ∀ s' : Shared, s'.TypeIs (.type X) "type") (h : Q (.bool false) s) : wpAny (model prog w) A (compareOp .NotEq (.type X) (.type X)) Q E s := by
  show wpAny _ A (richCompare .NotEq _ _) Q E s
  exact wpAny_richCompare_same (T := "type") (hX s) (hX s) slot_type_ne (call_ne_same hX ⟨(by intro e; cases e), h⟩)
theorem rich_ne_decline {M : Model} {a b : Value} {T id : String} {k : Bool} {Q : Value → Shared → Prop} (ha : ∀ s' : Shared, s'.TypeIs a T) (hb : ∀ s' : Shared, s'.TypeIs b T)
    (h1 : Slot T (cmpInfo .NotEq).2.1 id) (h2 : Slot T (cmpInfo .NotEq).2.2 id) (hv : [a, b].any Value.onHeap = false) (hk : isSame a b = pure k)
    (hc : wpAny M A (call (.builtin id) [a, b]) (fun v s₁ => v = .notImplemented ∧ wpAny M A (call (.builtin id) [b, a]) (fun v s₂ => v = .notImplemented ∧ Q (.bool (!k)) s₂) E s₁) E s) :
    wpAny M A (richCompare .NotEq a b) Q E s := by
  rcases hi : cmpInfo CmpOp.NotEq with ⟨sym, f, r⟩
  rw [hi] at h1 h2
  simp only [richCompare, hi, (ha s).oneThing_none]
  try with_reducible refine wpAny_holding ?_
  refine wpAny_bind (wpAny_cRoomFor_or (.inl hv) ?_)
  refine wpAny_bind (wpAny_typeOf (ha s) (wpAny_bind (wpAny_typeOf (hb s) ?_)))
  simp only [bne_self_eq_false, Bool.false_eq_true, if_false, pure_bind, Bool.not_false, if_true]
  refine wpAny_bind (m := tryCompare a _ b) (wpAny_tryCompare_declines (ha s) h1 (wpAny_mono hc (fun v s₁ h₁ => ⟨h₁.1, ?_⟩) fun _ _ x => x))
  refine wpAny_bind (m := tryCompare b _ a) (wpAny_tryCompare_declines (hb s₁) h2 (wpAny_mono h₁.2 (fun v s₂ h₂ => ⟨h₂.1, ?_⟩) fun _ _ x => x))
  refine wpAny_bind (wpAny_rule (wpAny_bind (wpAny_of_eq hk (wpAny_pure h₂.2))))
theorem ne_type_other {Q : Value → Shared → Prop} {X Y : String} (hX : ∀ s' : Shared, s'.TypeIs (.type X) "type") (hY : ∀ s' : Shared, s'.TypeIs (.type Y) "type") (hne : (Value.type X == Value.type Y) = false) (h : Q (.bool true) s) : wpAny (model prog w) A (compareOp .NotEq (.type X) (.type Y)) Q E s := by
  have hne' : (Value.type Y == Value.type X) = false := by
    rw [Bool.eq_false_iff] at hne ⊢
    intro e
    exact hne (by rw [beq_iff_eq] at e ⊢; exact e.symm)
  show wpAny _ A (richCompare .NotEq _ _) Q E s
  exact rich_ne_decline (T := "type") (k := false) hX hY slot_type_ne slot_type_ne_refl rfl (by rw [isSame_plain rfl, hne])
    (call_ne_other hX hne ⟨rfl, call_ne_other hY hne' ⟨rfl, h⟩⟩)
end
/-- the types whose own type is plainly `type` -/
def Ty9 (a : String) : Prop := ∀ s' : Shared, s'.TypeIs (.type a) "type"
section
variable {X : Cx}
def rEqTy : R2 := fun x y H Q => ∃ a b, x = .ty a ∧ y = .ty b ∧ Ty9 a ∧ Ty9 b ∧ Q (.bl (decide (a = b))) H
def rNeTy : R2 := fun x y H Q => ∃ a b, x = .ty a ∧ y = .ty b ∧ Ty9 a ∧ Ty9 b ∧ Q (.bl (!decide (a = b))) H
theorem op_eqTy : OpR X (compareOp .Eq) rEqTy := by
  intro pins s σ H x y v u Q I rx ry h
  obtain ⟨a, b, rfl, rfl, ta, tb, q⟩ := h
  cases (show v = Value.type a from rx)
  cases (show u = Value.type b from ry)
  by_cases e : a = b
  · subst e
    exact eq_type_same ta (fin_bl I q (by simp))
  · exact eq_type_other ta tb (by rw [ty_beq]; exact decide_eq_false e) (fin_bl I q (by simp [e]))
theorem op_neTy : OpR X (compareOp .NotEq) rNeTy := by
  intro pins s σ H x y v u Q I rx ry h
  obtain ⟨a, b, rfl, rfl, ta, tb, q⟩ := h
  cases (show v = Value.type a from rx)
  cases (show u = Value.type b from ry)
  by_cases e : a = b
  · subst e
    exact ne_type_same ta (fin_bl I q (by simp))
  · exact ne_type_other ta tb (by rw [ty_beq]; exact decide_eq_false e) (fin_bl I q (by simp [e]))
end
end TyNe

namespace Wp
open PySem PySem.Spec PyProof.Rows L2 TyNe

/-! ### the rules' readings under short names -/
abbrev qAdd : R2 := rI0 fun i j => .int (i + j)
abbrev qSub : R2 := rI0 fun i j => .int (i - j)
abbrev qMul : R2 := rI CMul fun i j => .int (i * j)
abbrev qFdiv : R2 := rI CDiv fun i j => .int (i / j)
abbrev qMod : R2 := rI (fun _ j => 0 < j) fun i j => .int (i % j)
abbrev qPow : R2 := rI CPow fun i j => .int (i ^ j.toNat)
abbrev qNeg : V → Hp → VK → Prop := rU fun i => .int (-i)
abbrev qLt : R2 := rI0 fun i j => .bl (decide (i < j))
abbrev qLe : R2 := rI0 fun i j => .bl (decide (i ≤ j))
abbrev qGt : R2 := rI0 fun i j => .bl (decide (j < i))
abbrev qGe : R2 := rI0 fun i j => .bl (decide (j ≤ i))
abbrev qAddS : R2 := fun x y H Q => ∃ i j, x = .str i ∧ y = .str j ∧ i.length + j.length ≤ sizeLine ∧ Q (.str (i ++ j)) H
abbrev qInSign : R2 := fun x y H Q => ∃ (c : Nat) (z : Str), x = .str ⟨#[c]⟩ ∧ y = .str z ∧ Q (.bl (decide (c ∈ z.cps.toList))) H
abbrev qNinSign : R2 := fun x y H Q => ∃ (c : Nat) (z : Str), x = .str ⟨#[c]⟩ ∧ y = .str z ∧ Q (.bl (!decide (c ∈ z.cps.toList))) H
abbrev qLtS : R2 := fun x y H Q => ∃ i j, x = .str i ∧ y = .str j ∧ Q (.bl (decide (i.cps.toList < j.cps.toList))) H
abbrev qLeS : R2 := fun x y H Q => ∃ i j, x = .str i ∧ y = .str j ∧ Q (.bl (!decide (j.cps.toList < i.cps.toList))) H
abbrev qGtS : R2 := fun x y H Q => ∃ i j, x = .str i ∧ y = .str j ∧ Q (.bl (decide (j.cps.toList < i.cps.toList))) H
abbrev qGeS : R2 := fun x y H Q => ∃ i j, x = .str i ∧ y = .str j ∧ Q (.bl (!decide (i.cps.toList < j.cps.toList))) H
abbrev qIsBl : R2 := fun x y H Q => ∃ a b, x = .bl a ∧ y = .bl b ∧ Q (.bl (decide (a = b))) H
abbrev qLenStr : List V → Hp → VK → Prop := fun xs H Q => ∃ z, xs = [.str z] ∧ z.length ≤ sizeLine ∧ Q (.int z.length) H
abbrev qLenSeq (K : PySem.W.Frag) : List V → Hp → VK → Prop := fun xs H Q => ∃ p ys, xs = [.ref p] ∧ (SqL K H p ys ∨ SqT K H p ys) ∧ Q (.int ys.length) H
abbrev qInt1 : List V → Hp → VK → Prop := fun xs H Q => (∃ i, xs = [.int i] ∧ Q (.int i) H) ∨ ∃ k, xs = [.bl k] ∧ Q (.int (if k then 1 else 0)) H
abbrev qStrInt : List V → Hp → VK → Prop := fun xs H Q => ∃ i : Int, xs = [.int i] ∧ i.natAbs.log2 < 1920 ∧ Q (.str (toString i)) H
abbrev qTupleOf (K : PySem.W.Frag) : List V → Hp → VK → Prop := fun xs H Q => ∃ p ys, xs = [.ref p] ∧ ((SqL K H p ys ∧ ∀ l, H l = none → Q (.ref l) (upd H l (.tup ys))) ∨ (SqT K H p ys ∧ Q (.ref p) H))
abbrev qListOf (K : PySem.W.Frag) : List V → Hp → VK → Prop := fun xs H Q => ∃ p ys, xs = [.ref p] ∧ (SqL K H p ys ∨ SqT K H p ys) ∧ ∀ l, H l = none → Q (.ref l) (upd H l (.lst ys))
abbrev qIsN : R2 := fun x y H Q => y = .non ∧ Q (.bl (decide (x = .non))) H
abbrev qNotN : R2 := fun x y H Q => y = .non ∧ Q (.bl (!decide (x = .non))) H
abbrev qMax2 : List V → Hp → VK → Prop := fun xs H Q => ∃ i j, xs = [.int i, .int j] ∧ Q (.int (if j > i then j else i)) H
abbrev qMin2 : List V → Hp → VK → Prop := fun xs H Q => ∃ i j, xs = [.int i, .int j] ∧ Q (.int (if j < i then j else i)) H

/-! ### heaps -/
/-- what was tracked stands as it stood, but p -/
def Kp (p : Addr) (H H' : Hp) : Prop := ∀ b o, b ≠ p → H b = some o → H' b = some o
theorem Same.kp {p : Addr} {H H' : Hp} (h : Same H H') : Kp p H H' := fun b o _ e => h b o e
theorem Kp.refl {p : Addr} {H : Hp} : Kp p H H := fun _ _ _ e => e
theorem Kp.trans {p : Addr} {H H1 H2 : Hp} (a : Kp p H H1) (b : Kp p H1 H2) : Kp p H H2 := fun c o n e => b c o n (a c o n e)
theorem Kp.get {p : Addr} {H H' : Hp} (h : Kp p H H') {b : Addr} {o : HO} (n : b ≠ p) (e : H b = some o) : H' b = some o := h b o n e
theorem Kp.updp {p : Addr} {H H' : Hp} {o : HO} (h : Kp p H H') : Kp p H (upd H' p o) := fun b u n e => by
  rw [upd_ne n]
  exact h b u n e
theorem Kp.upd {p a : Addr} {H H' : Hp} {o : HO} (h : Kp p H H') (n : H a = none) : Kp p H (upd H' a o) := fun b u m e => by
  rw [upd_ne (ne_of_none e n)]
  exact h b u m e
theorem Same.upd {a : Addr} {H H' : Hp} {o : HO} (h : Same H H') (n : H a = none) : Same H (L2.upd H' a o) := fun b u e => by
  rw [upd_ne (ne_of_none e n)]
  exact h b u e
theorem Kp.same {p : Addr} {H H' : Hp} (h : Kp p H H') (n : H p = none) : Same H H' := fun b o e => h b o (ne_of_none e n) e
theorem Kp.free {p a : Addr} {H H' : Hp} (h : Kp p H H') (n : a ≠ p) (e : H' a = none) : H a = none := by
  cases q : H a with
  | none => rfl
  | some o => rw [h a o n q] at e; cases e
/-- a stream -/
def Stm (H : Hp) (p : Addr) : Prop := ∃ a b : Int, H p = some (.lst [.int a, .int b]) ∧ 0 ≤ a ∧ 0 ≤ b
theorem Stm.ne {H : Hp} {p a : Addr} (h : Stm H p) (e : H a = none) : a ≠ p := by
  obtain ⟨x, y, h, _⟩ := h
  exact (ne_of_none h e).symm
theorem Stm.same {H H' : Hp} {p : Addr} (h : Stm H p) (s : Same H H') : Stm H' p := by
  obtain ⟨x, y, h, r⟩ := h
  exact ⟨x, y, s _ _ h, r⟩
theorem Stm.up {H : Hp} {p a : Addr} {o : HO} (h : Stm H p) (e : H a = none) : Stm (L2.upd H a o) p := by
  obtain ⟨x, y, h, r⟩ := h
  exact ⟨x, y, by rw [upd_ne (ne_of_none h e)]; exact h, r⟩

/-! ### steps, in the order of the reading -/
section
variable {K : PySem.W.Frag} {σ : L2.St} {H : Hp} {Q : VK} {v : V} {ta tb tc te : TE} {tt uu : TT} {r r' : R2} {D : Ends} {t u : TS}
theorem w_var {i : Nat} (h : σ[i]? = some (some v)) (q : Q v H) : tVar i σ H Q := ⟨v, h, q⟩
theorem w_c (q : Q v H) : tC v σ H Q := q
theorem w_op (q : ta σ H fun x H1 => tb σ H1 fun y H2 => r x y H2 Q) : tOp r ta tb σ H Q := q
theorem w_un {r : V → Hp → VK → Prop} (q : ta σ H fun x H1 => r x H1 Q) : tUn r ta σ H Q := q
theorem w_I0 {g : Int → Int → V} {i j : Int} (q : Q (g i j) H) : rI0 g (.int i) (.int j) H Q := ⟨i, j, rfl, rfl, q⟩
theorem w_I {C : Int → Int → Prop} {g : Int → Int → V} {i j : Int} (c : C i j) (q : Q (g i j) H) : rI C g (.int i) (.int j) H Q := ⟨i, j, rfl, rfl, c, q⟩
theorem w_U {g : Int → V} {i : Int} (q : Q (g i) H) : rU g (.int i) H Q := ⟨i, rfl, q⟩
theorem w_eqI {i j : Int} (q : Q (.bl (decide (i = j))) H) : rEq (.int i) (.int j) H Q := ⟨rfl, by
  have e : decide (V.int i = V.int j) = decide (i = j) := by rw [decide_eq_decide]; exact ⟨fun z => V.int.inj z, fun z => by rw [z]⟩
  rw [e]; exact q⟩
theorem w_neI {i j : Int} (q : Q (.bl (decide (i ≠ j))) H) : rNe (.int i) (.int j) H Q := ⟨rfl, by
  have e : (!decide (V.int i = V.int j)) = decide (i ≠ j) := by rw [decide_not]; congr 1; rw [decide_eq_decide]; exact ⟨fun z => V.int.inj z, fun z => by rw [z]⟩
  rw [e]; exact q⟩
theorem w_eqS {i j : Str} (q : Q (.bl (decide (i = j))) H) : rEq (.str i) (.str j) H Q := ⟨rfl, by
  have e : decide (V.str i = V.str j) = decide (i = j) := by rw [decide_eq_decide]; exact ⟨fun z => V.str.inj z, fun z => by rw [z]⟩
  rw [e]; exact q⟩
theorem w_neS {i j : Str} (q : Q (.bl (decide (i ≠ j))) H) : rNe (.str i) (.str j) H Q := ⟨rfl, by
  have e : (!decide (V.str i = V.str j)) = decide (i ≠ j) := by rw [decide_not]; congr 1; rw [decide_eq_decide]; exact ⟨fun z => V.str.inj z, fun z => by rw [z]⟩
  rw [e]; exact q⟩
theorem w_eqB {i j : Bool} (q : Q (.bl (decide (i = j))) H) : rEq (.bl i) (.bl j) H Q := ⟨rfl, by
  have e : decide (V.bl i = V.bl j) = decide (i = j) := by rw [decide_eq_decide]; exact ⟨fun z => V.bl.inj z, fun z => by rw [z]⟩
  rw [e]; exact q⟩
theorem w_eqTy {a b : String} (ha : Ty9 a) (hb : Ty9 b) (q : Q (.bl (decide (a = b))) H) : rEqTy (.ty a) (.ty b) H Q := ⟨a, b, rfl, rfl, ha, hb, q⟩
theorem w_neTy {a b : String} (ha : Ty9 a) (hb : Ty9 b) (q : Q (.bl (decide (a ≠ b))) H) : rNeTy (.ty a) (.ty b) H Q := ⟨a, b, rfl, rfl, ha, hb, by rw [← decide_not]; exact q⟩
theorem w_addS {i j : Str} (h : i.length + j.length ≤ sizeLine) (q : Q (.str (i ++ j)) H) : qAddS (.str i) (.str j) H Q := ⟨i, j, rfl, rfl, h, q⟩
theorem w_inSign {c : Nat} {z : Str} (q : Q (.bl (decide (c ∈ z.cps.toList))) H) : qInSign (.str ⟨#[c]⟩) (.str z) H Q := ⟨c, z, rfl, rfl, q⟩
theorem w_ninSign {c : Nat} {z : Str} (q : Q (.bl (!decide (c ∈ z.cps.toList))) H) : qNinSign (.str ⟨#[c]⟩) (.str z) H Q := ⟨c, z, rfl, rfl, q⟩
theorem w_ixL {p : Addr} {xs : List V} {i : Int} (h : SqL K H p xs) (ha : atI xs i = some v) (q : Q v H) : rIxL K (.ref p) (.int i) H Q := ⟨p, xs, i, v, rfl, rfl, h, ha, q⟩
theorem w_ixT {p : Addr} {xs : List V} {i : Int} (h : SqT K H p xs) (ha : atI xs i = some v) (q : Q v H) : rIxT K (.ref p) (.int i) H Q := ⟨p, xs, i, v, rfl, rfl, h, ha, q⟩
theorem w_ixS {z : Str} {i : Int} {c : Nat} (h : z.length ≤ sizeLine) (ha : atI z.cps.toList i = some c) (q : Q (.str ⟨#[c]⟩) H) : rIxS (.str z) (.int i) H Q := ⟨z, i, c, rfl, rfl, h, ha, q⟩
theorem w_nil {R : List V → Hp → Prop} (q : R [] H) : tNil σ H R := q
theorem w_cons {tr : TA} {R : List V → Hp → Prop} (q : ta σ H fun x H1 => tr σ H1 fun xs H2 => R (x :: xs) H2) : tCons ta tr σ H R := q
theorem w_tup {tr : TA} (q : tr σ H fun xs H1 => xs.length ≤ sizeLine ∧ ∀ p, H1 p = none → Q (.ref p) (upd H1 p (.tup xs))) : tTup tr σ H Q := q
theorem w_lst {tr : TA} (q : tr σ H fun xs H1 => xs.length ≤ sizeLine ∧ ∀ p, H1 p = none → Q (.ref p) (upd H1 p (.lst xs))) : tLst tr σ H Q := q
theorem w_cb {r : List V → Hp → VK → Prop} {tr : TA} (q : tr σ H fun vs H1 => r vs H1 Q) : tCB r tr σ H Q := q
theorem w_lenStr {z : Str} (h : z.length ≤ sizeLine) (q : Q (.int z.length) H) : qLenStr [.str z] H Q := ⟨z, rfl, h, q⟩
theorem w_lenL {p : Addr} {xs : List V} (h : SqL K H p xs) (q : Q (.int xs.length) H) : qLenSeq K [.ref p] H Q := ⟨p, xs, rfl, .inl h, q⟩
theorem w_lenT {p : Addr} {xs : List V} (h : SqT K H p xs) (q : Q (.int xs.length) H) : qLenSeq K [.ref p] H Q := ⟨p, xs, rfl, .inr h, q⟩
theorem w_int1 {i : Int} (q : Q (.int i) H) : qInt1 [.int i] H Q := .inl ⟨i, rfl, q⟩
theorem w_int1b {c : Prop} [Decidable c] (q : Q (.int (if c then 1 else 0)) H) : qInt1 [.bl (decide c)] H Q := .inr ⟨_, rfl, by
  by_cases h : c
  · simp only [h, decide_true, if_true] at q ⊢; exact q
  · simp only [h, decide_false, if_false, Bool.false_eq_true] at q ⊢; exact q⟩
theorem w_strInt {i : Int} (h0 : 0 ≤ i) (h1 : i ≤ 100000000000000000000) (q : Q (.str (toString i)) H) : qStrInt [.int i] H Q := ⟨i, rfl, by
  have h2 : i.natAbs ≤ 100000000000000000000 := by omega
  have h3 : i.natAbs.log2 < 67 := by
    by_cases h : i.natAbs = 0
    · rw [h]; decide
    · exact (Nat.log2_lt h).mpr (Nat.lt_of_le_of_lt h2 (by decide))
  omega, q⟩
theorem w_tupleOfL {p : Addr} {ys : List V} (h : SqL K H p ys) (q : ∀ l, H l = none → Q (.ref l) (upd H l (.tup ys))) : qTupleOf K [.ref p] H Q := ⟨p, ys, rfl, .inl ⟨h, q⟩⟩
theorem w_tupleOfT {p : Addr} {ys : List V} (h : SqT K H p ys) (q : Q (.ref p) H) : qTupleOf K [.ref p] H Q := ⟨p, ys, rfl, .inr ⟨h, q⟩⟩
theorem w_listOf {p : Addr} {ys : List V} (h : SqL K H p ys ∨ SqT K H p ys) (q : ∀ l, H l = none → Q (.ref l) (upd H l (.lst ys))) : qListOf K [.ref p] H Q := ⟨p, ys, rfl, h, q⟩
theorem w_isN (q : Q (.bl (decide (v = .non))) H) : qIsN v .non H Q := ⟨rfl, q⟩
theorem w_notN (q : Q (.bl (!decide (v = .non))) H) : qNotN v .non H Q := ⟨rfl, q⟩
theorem w_bm {T : String} {r : V → List V → Hp → VK → Prop} {tr : TA} (q : te σ H fun x H1 => tyV K T x H1 ∧ tr σ H1 fun xs H2 => r x xs H2 Q) : tBM K T r te tr σ H Q := q
theorem w_tyL {p : Addr} {xs : List V} {A : Prop} (h : H p = some (.lst xs)) (q : A) : tyV K "list" (.ref p) H ∧ A := ⟨.inl ⟨rfl, xs, SqL.of h⟩, q⟩
theorem w_app {p : Addr} {xs : List V} (h : H p = some (.lst xs)) (z : xs.length < sizeLine) (q : Q .non (upd H p (.lst (xs ++ [v])))) : rAppend (.ref p) [v] H Q := ⟨p, xs, v, rfl, rfl, h, z, q⟩
theorem w_inL {neg : Bool} {p : Addr} {xs : List V} (h : SqL K H p xs) (f : flatV v = true) (fs : xs.all flatV = true) (q : Q (.bl (if neg then !inV v xs else inV v xs)) H) : rIn K neg v (.ref p) H Q := ⟨p, xs, rfl, .inl h, f, fs, q⟩
theorem w_inT {neg : Bool} {p : Addr} {xs : List V} (h : SqT K H p xs) (f : flatV v = true) (fs : xs.all flatV = true) (q : Q (.bl (if neg then !inV v xs else inV v xs)) H) : rIn K neg v (.ref p) H Q := ⟨p, xs, rfl, .inr h, f, fs, q⟩
theorem inV_strs (z : Str) (ys : List Str) : inV (.str z) (ys.map V.str) = decide (z ∈ ys) := by
  unfold inV
  rw [List.any_map, Bool.eq_iff_iff, List.any_eq_true, decide_eq_true_eq]
  constructor
  · rintro ⟨y, hy, e⟩
    have e' : (y == z) = true := e
    rw [beq_iff_eq] at e'
    exact e' ▸ hy
  · intro h
    refine ⟨z, h, ?_⟩
    show (z == z) = true
    exact beq_self_eq_true z
theorem flat_strs (ys : List Str) : (ys.map V.str).all flatV = true := by
  rw [List.all_map, List.all_eq_true]
  intro y _
  rfl
theorem w_max2 {i j : Int} (q : Q (.int (if j > i then j else i)) H) : qMax2 [.int i, .int j] H Q := ⟨i, j, rfl, q⟩
theorem w_min2 {i j : Int} (q : Q (.int (if j < i then j else i)) H) : qMin2 [.int i, .int j] H Q := ⟨i, j, rfl, q⟩
theorem w_test {R : Bool → Hp → Prop} (q : te σ H fun x H' => ∃ k, x = .bl k ∧ R k H') : tTest te σ H R := q
theorem w_B {R : Bool → Hp → Prop} (q : te σ H fun x H' => ∃ k, x = .bl k ∧ R k H') : tB te σ H R := q
theorem w_exb {b : Bool} {R : Bool → Prop} (q : R b) : ∃ k, V.bl b = .bl k ∧ R k := ⟨b, rfl, q⟩
theorem w_and {R : Bool → Hp → Prop} (q : tt σ H fun c H1 => if c = true then uu σ H1 R else R false H1) : tAnd tt uu σ H R := q
theorem w_or {R : Bool → Hp → Prop} (q : tt σ H fun c H1 => if c = true then R true H1 else uu σ H1 R) : tOr tt uu σ H R := q
theorem w_not {R : Bool → Hp → Prop} (q : tt σ H fun c H1 => R (!c) H1) : tNot tt σ H R := q
theorem w_andV (q : ta σ H fun x H1 => ∃ c, x = .bl c ∧ if c = true then tb σ H1 Q else Q (.bl false) H1) : tAndV ta tb σ H Q := q
theorem w_orV (q : ta σ H fun x H1 => ∃ c, x = .bl c ∧ if c = true then Q (.bl true) H1 else tb σ H1 Q) : tOrV ta tb σ H Q := q
theorem w_notV (q : ta σ H fun x H1 => ∃ c, x = .bl c ∧ Q (.bl (!c)) H1) : tNotV ta σ H Q := q
theorem w_if (q : tt σ H fun c H1 => if c = true then ta σ H1 Q else tb σ H1 Q) : tIf tt ta tb σ H Q := q
theorem w_chain (q : ta σ H fun x H1 => tb σ H1 fun y H2 => r x y H2 fun z H3 => ∃ k, z = .bl k ∧ (if k = true then tc σ H3 fun w' H4 => r' y w' H4 Q else Q (.bl false) H3)) : tChain r r' ta tb tc σ H Q := q
theorem w_ifS (q : tt σ H fun b H1 => if b = true then t D σ H1 else u D σ H1) : tIfS tt t u D σ H := q
theorem w_ifCut {Mid : L2.St → Hp → Prop} (k : ∀ σ' H', Mid σ' H' → D.nx σ' H') (q : ∀ R : L2.St → Hp → Prop, (∀ σ' H', Mid σ' H' → R σ' H') → tIfS tt t u { D with nx := R } σ H) : tIfS tt t u D σ H := q _ k
theorem cmul_l {i j : Int} (h0 : -1000000000000 ≤ i) (h1 : i ≤ 1000000000000) : CMul i j := .inl ⟨by omega, by omega⟩
theorem cmul_r {i j : Int} (h0 : -1000000000000 ≤ j) (h1 : j ≤ 1000000000000) : CMul i j := .inr ⟨by omega, by omega⟩
theorem w_ite {c A B : Prop} [Decidable c] (h1 : c → A) (h2 : ¬ c → B) : if decide c = true then A else B := by
  by_cases h : c
  · rw [if_pos (decide_eq_true h)]; exact h1 h
  · rw [if_neg (by rw [decide_eq_true_iff]; exact h)]; exact h2 h
theorem w_iteN {c A B : Prop} [Decidable c] (h1 : ¬ c → A) (h2 : c → B) : if (!decide c) = true then A else B := by
  by_cases h : c
  · rw [decide_eq_true h, if_neg (by decide)]; exact h2 h
  · rw [decide_eq_false h]; exact h1 h
theorem w_iteb {b : Bool} {A B : Prop} (h1 : b = true → A) (h2 : b = false → B) : if b = true then A else B := by
  cases b
  · rw [if_neg (by decide)]; exact h2 rfl
  · rw [if_pos rfl]; exact h1 rfl
theorem w_seq (q : t { D with nx := u D } σ H) : tSeq t u D σ H := q
theorem w_next (q : D.nx σ H) : tNext D σ H := q
theorem w_asg {g : TG} (q : te σ H fun x H1 => g x σ H1 D.nx) : tAsg te g D σ H := q
theorem w_name {i : Nat} {R : L2.St → Hp → Prop} (q : R (σ.set i (some v)) H) : gName i v σ H R := q
theorem w_sub {to ti : TE} {ts : TSet} {R : L2.St → Hp → Prop} (q : to σ H fun o H1 => ti σ H1 fun i H2 => ts o i v H2 fun H3 => R σ H3) : gSub to ti ts v σ H R := q
theorem w_setL {p : Addr} {xs : List V} {k : Int} {j : Nat} {R : Hp → Prop} (h : H p = some (.lst xs)) (hj : ixN xs.length k = some j) (q : R (upd H p (.lst (xs.set j v)))) : rSetL (.ref p) (.int k) v H R := ⟨p, xs, k, j, rfl, rfl, h, hj, q⟩
theorem w_ret (q : te σ H D.rt) : tRet te D σ H := q
theorem w_retN (q : D.rt .non H) : tRetN D σ H := q
theorem w_drop (q : te σ H fun _ H1 => D.nx σ H1) : tDrop te D σ H := q
theorem w_call {sp : Sp} {dvs : List V} {E : XK} {tr : TA} (q : tr σ H fun vs H1 => sp (vs ++ dvs) H1 Q E) : tCall sp dvs E tr σ H Q := q
theorem w_sl {r : V → Option Int → Option Int → Hp → VK → Prop} {tl th : TO} (q : te σ H fun x H1 => tl σ H1 fun l H2 => th σ H2 fun u H3 => r x l u H3 Q) : tSl r te tl th σ H Q := q
theorem w_noPart {R : Option Int → Hp → Prop} (q : R none H) : tNoPart σ H R := q
theorem w_part {R : Option Int → Hp → Prop} (q : te σ H fun x H1 => ∃ i, x = .int i ∧ R (some i) H1) : tPart te σ H R := q
theorem w_exi {i : Int} {R : Int → Prop} (q : R i) : ∃ k, V.int i = .int k ∧ R k := ⟨i, rfl, q⟩
theorem w_slS {z : Str} {lo hi : Option Int} (h : z.length ≤ sizeLine) (q : Q (.str (cutS z lo hi)) H) : rSlS (.str z) lo hi H Q := ⟨z, rfl, h, q⟩
theorem w_isi {x : V} {t : Value} {T : String} {b : Bool} (h : TyX K H x t) (k : PySem.W.kitOne K t (.type T) = some b) (q : Q (.bl b) H) : rIsi K [x, .ty T] H Q := ⟨x, _, t, _, b, rfl, .ty T, h, k, q⟩
theorem w_typ {x : V} {T : String} (h : TyB K H x T) (q : Q (.ty T) H) : rTyp K [x] H Q := ⟨x, T, rfl, h, q⟩
theorem w_cat {l b : Addr} {xs zs : List V} (h : H l = some (.lst xs)) (h' : H b = some (.lst zs)) (z : xs.length + zs.length ≤ sizeLine) (q : ∀ p, H p = none → Q (.ref p) (upd H p (.lst (xs ++ zs)))) : rCat (.ref l) (.ref b) H Q := ⟨l, b, xs, zs, rfl, rfl, h, h', z, q⟩
theorem w_isBl {a b : Bool} (q : Q (.bl (decide (a = b))) H) : qIsBl (.bl a) (.bl b) H Q := ⟨a, b, rfl, rfl, q⟩
theorem w_nf {A B : Prop} (q : A) : if (!false) = true then A else B := q
theorem w_nt {A B : Prop} (q : B) : if (!true) = true then A else B := q
theorem w_len0 {n : Nat} {A : Prop} (h : n ≤ sizeLine) (q : A) : n ≤ sizeLine ∧ A := ⟨h, q⟩
end
theorem sz {n : Nat} (h : n ≤ 100000) : n ≤ sizeLine := Nat.le_trans h (by decide)
theorem atI_of {α : Type} {xs : List α} {i : Int} {v : α} (h0 : 0 ≤ i) (h : xs[i.toNat]? = some v) : atI xs i = some v := by
  have e : ((i.toNat : Nat) : Int) = i := Int.toNat_of_nonneg h0
  rw [← e]
  exact atI_nat h
end Wp

namespace Wp
open PySem PySem.Spec PyProof.Rows L2 TyNe

/-! ### what is made of data -/
mutual
/-- v denotes d at H; every object on the way stands at an address that ok takes -/
inductive Dn (ok : Addr → Prop) (H : Hp) : V → PyData → Prop where
  | non : Dn ok H .non .none
  | bl (b : Bool) : Dn ok H (.bl b) (.bool b)
  | int (i : Int) : Dn ok H (.int i) (.int i)
  | str (x : Str) : Dn ok H (.str x) (.str x)
  | lst {a : Addr} {xs : List V} {ds : List PyData} (ha : ok a) (h : H a = some (.lst xs)) (hs : DnAll ok H xs ds) : Dn ok H (.ref a) (.list ds)
  | tup {a : Addr} {xs : List V} {ds : List PyData} (ha : ok a) (h : H a = some (.tup xs)) (hs : DnAll ok H xs ds) : Dn ok H (.ref a) (.tuple ds)
  | dic {a : Addr} {kvs : List (Key × V)} (ha : ok a) (h : H a = some (.dK kvs)) : Dn ok H (.ref a) (.dict [])
inductive DnAll (ok : Addr → Prop) (H : Hp) : List V → List PyData → Prop where
  | nil : DnAll ok H [] []
  | cons {v : V} {vs : List V} {d : PyData} {ds : List PyData} (h : Dn ok H v d) (hs : DnAll ok H vs ds) : DnAll ok H (v :: vs) (d :: ds)
end
mutual
theorem Dn.step {ok : Addr → Prop} {H H' : Hp} (k : ∀ a o, ok a → H a = some o → H' a = some o) {v : V} {d : PyData} : Dn ok H v d → Dn ok H' v d
  | .non => .non
  | .bl b => .bl b
  | .int i => .int i
  | .str x => .str x
  | .lst ha h hs => .lst ha (k _ _ ha h) (DnAll.step k hs)
  | .tup ha h hs => .tup ha (k _ _ ha h) (DnAll.step k hs)
  | .dic ha h => .dic ha (k _ _ ha h)
theorem DnAll.step {ok : Addr → Prop} {H H' : Hp} (k : ∀ a o, ok a → H a = some o → H' a = some o) {vs : List V} {ds : List PyData} : DnAll ok H vs ds → DnAll ok H' vs ds
  | .nil => .nil
  | .cons h hs => .cons (Dn.step k h) (DnAll.step k hs)
end
mutual
theorem Dn.weak {ok ok' : Addr → Prop} {H : Hp} (k : ∀ a o, ok a → H a = some o → ok' a) {v : V} {d : PyData} : Dn ok H v d → Dn ok' H v d
  | .non => .non
  | .bl b => .bl b
  | .int i => .int i
  | .str x => .str x
  | .lst ha h hs => .lst (k _ _ ha h) h (DnAll.weak k hs)
  | .tup ha h hs => .tup (k _ _ ha h) h (DnAll.weak k hs)
  | .dic ha h => .dic (k _ _ ha h) h
theorem DnAll.weak {ok ok' : Addr → Prop} {H : Hp} (k : ∀ a o, ok a → H a = some o → ok' a) {vs : List V} {ds : List PyData} : DnAll ok H vs ds → DnAll ok' H vs ds
  | .nil => .nil
  | .cons h hs => .cons (Dn.weak k h) (DnAll.weak k hs)
end
/-- off the address p -/
abbrev Off (p : Addr) : Addr → Prop := fun a => a ≠ p
abbrev Any : Addr → Prop := fun _ => True
theorem Dn.same {ok : Addr → Prop} {H H' : Hp} {v : V} {d : PyData} (h : Dn ok H v d) (s : Same H H') : Dn ok H' v d := h.step fun a o _ e => s a o e
theorem Dn.kp {p : Addr} {H H' : Hp} {v : V} {d : PyData} (h : Dn (Off p) H v d) (s : Kp p H H') : Dn (Off p) H' v d := h.step fun a o n e => s a o n e
theorem Dn.any {ok : Addr → Prop} {H : Hp} {v : V} {d : PyData} (h : Dn ok H v d) : Dn Any H v d := h.weak fun _ _ _ _ => trivial
theorem Dn.off {ok : Addr → Prop} {p : Addr} {H : Hp} {v : V} {d : PyData} (h : Dn ok H v d) (n : H p = none) : Dn (Off p) H v d := h.weak fun a o _ e => ne_of_none e n
theorem DnAll.same {ok : Addr → Prop} {H H' : Hp} {v : List V} {d : List PyData} (h : DnAll ok H v d) (s : Same H H') : DnAll ok H' v d := h.step fun a o _ e => s a o e
theorem DnAll.kp {p : Addr} {H H' : Hp} {v : List V} {d : List PyData} (h : DnAll (Off p) H v d) (s : Kp p H H') : DnAll (Off p) H' v d := h.step fun a o n e => s a o n e
theorem DnAll.any {ok : Addr → Prop} {H : Hp} {v : List V} {d : List PyData} (h : DnAll ok H v d) : DnAll Any H v d := h.weak fun _ _ _ _ => trivial
theorem DnAll.off {ok : Addr → Prop} {p : Addr} {H : Hp} {v : List V} {d : List PyData} (h : DnAll ok H v d) (n : H p = none) : DnAll (Off p) H v d := h.weak fun a o _ e => ne_of_none e n
theorem DnAll.len {ok : Addr → Prop} {H : Hp} : ∀ {vs : List V} {ds : List PyData}, DnAll ok H vs ds → vs.length = ds.length
  | _, _, .nil => rfl
  | _, _, .cons _ hs => congrArg (· + 1) (DnAll.len hs)
theorem DnAll.get {ok : Addr → Prop} {H : Hp} : ∀ {vs : List V} {ds : List PyData} {i : Nat} {v : V}, DnAll ok H vs ds → vs[i]? = some v → ∃ d, ds[i]? = some d ∧ Dn ok H v d
  | _, _, _, _, .nil, e => by simp at e
  | _, _, 0, _, .cons h _, e => by
    have e' := Option.some.inj e
    subst e'
    exact ⟨_, rfl, h⟩
  | _, _, i + 1, v, .cons _ hs, e => DnAll.get (i := i) hs e
theorem DnAll.app {ok : Addr → Prop} {H : Hp} : ∀ {vs ws : List V} {ds es : List PyData}, DnAll ok H vs ds → DnAll ok H ws es → DnAll ok H (vs ++ ws) (ds ++ es)
  | _, _, _, _, .nil, h => h
  | _, _, _, _, .cons h hs, h' => .cons h (DnAll.app hs h')
def tyN : PyData → String
  | .none => "NoneType" | .bool _ => "bool" | .int _ => "int" | .str _ => "str" | .list _ => "list" | .tuple _ => "tuple" | .dict _ => "dict"
theorem Dn.tyB {K : PySem.W.Frag} {ok : Addr → Prop} {H : Hp} {v : V} {d : PyData} (h : Dn ok H v d) : TyB K H v (tyN d) := by
  cases h with
  | non => exact .non
  | bl b => exact .bl b
  | int i => exact .int i
  | str x => exact .str x
  | lst ha h hs => exact .lst (SqL.of h)
  | tup ha h hs => exact .tup (SqT.of h)
  | dic ha h => exact .dK h
theorem Dn.tyX {K : PySem.W.Frag} {ok : Addr → Prop} {H : Hp} {v : V} {d : PyData} (h : Dn ok H v d) : TyX K H v (.type (tyN d)) := by
  cases h with
  | non => exact .base .non
  | bl b => exact .base (.bl b)
  | int i => exact .base (.int i)
  | str x => exact .base (.str x)
  | lst ha h hs => exact .base (.lst h)
  | tup ha h hs => exact .base (.tup h)
  | dic ha h => exact .base (.dK h)
theorem ty9 (d : PyData) : Ty9 (tyN d) := by
  cases d
  · exact TypeEq.meta_NoneType
  · exact TypeEq.meta_bool
  · exact TypeEq.meta_int
  · exact TypeEq.meta_str
  · exact TypeEq.meta_list
  · exact TypeEq.meta_tuple
  · exact TypeEq.meta_dict
theorem kit_str {K : PySem.W.Frag} (d : PyData) : PySem.W.kitOne K (.type (tyN d)) (.type "str") = some (decide (tyN d = "str")) := by
  have hh : ∀ a ∈ ["NoneType", "bool", "int", "str", "list", "tuple", "dict"], kitB a "str" = some (decide (a = "str")) := by decide +kernel
  exact kit_ty (hh _ (by cases d <;> simp [tyN]))
theorem kit_tuple {K : PySem.W.Frag} (d : PyData) : PySem.W.kitOne K (.type (tyN d)) (.type "tuple") = some (decide (tyN d = "tuple")) := by
  have hh : ∀ a ∈ ["NoneType", "bool", "int", "str", "list", "tuple", "dict"], kitB a "tuple" = some (decide (a = "tuple")) := by decide +kernel
  exact kit_ty (hh _ (by cases d <;> simp [tyN]))
theorem kit_list {K : PySem.W.Frag} (d : PyData) : PySem.W.kitOne K (.type (tyN d)) (.type "list") = some (decide (tyN d = "list")) := by
  have hh : ∀ a ∈ ["NoneType", "bool", "int", "str", "list", "tuple", "dict"], kitB a "list" = some (decide (a = "list")) := by decide +kernel
  exact kit_ty (hh _ (by cases d <;> simp [tyN]))
theorem kit_bool {K : PySem.W.Frag} (d : PyData) : PySem.W.kitOne K (.type (tyN d)) (.type "bool") = some (decide (tyN d = "bool")) := by
  have hh : ∀ a ∈ ["NoneType", "bool", "int", "str", "list", "tuple", "dict"], kitB a "bool" = some (decide (a = "bool")) := by decide +kernel
  exact kit_ty (hh _ (by cases d <;> simp [tyN]))
theorem kit_int {K : PySem.W.Frag} (d : PyData) : PySem.W.kitOne K (.type (tyN d)) (.type "int") = some (decide (tyN d = "int" ∨ tyN d = "bool")) := by
  have hh : ∀ a ∈ ["NoneType", "bool", "int", "str", "list", "tuple", "dict"], kitB a "int" = some (decide (a = "int" ∨ a = "bool")) := by decide +kernel
  exact kit_ty (hh _ (by cases d <;> simp [tyN]))

/-! ### loops -/
section
variable {K : PySem.W.Frag} {σ : L2.St} {H : Hp} {Q : VK} {ta : TA} {te : TE} {g : TG} {tb : TS} {D : Ends} {tt : TT}
theorem w_forR (q : ta σ H fun vs H1 => ∃ n : Int, vs = [.int n] ∧ -(2 ^ 62) ≤ n ∧ n < 2 ^ 62 ∧ ∃ Pv : Nat → L2.St → Hp → Prop, Pv 0 σ H1 ∧
    (∀ (i : Nat) σ H, (i : Int) < n → Pv i σ H → g (.int (i : Int)) σ H fun σ2 H2 => tb { D with nx := Pv (i + 1), ct := Pv (i + 1), bk := D.nx } σ2 H2) ∧ ∀ σ H, Pv n.toNat σ H → D.nx σ H)
    (mono : ∀ R R' : List V → Hp → Prop, (∀ vs H, R vs H → R' vs H) → ta σ H R → ta σ H R') : tFor (iRng1 ta) g tb D σ H := by
  refine mono _ _ (fun vs H1 h => ?_) q
  obtain ⟨n, rfl, h1, h2, Pv, p0, ps, pd⟩ := h
  refine ⟨n, rfl, h1, h2, for_range (lo := 0) (n := n.toNat) Pv p0 (fun i σ' H' hi p => ?_) pd⟩
  have e0 : (0 : Int) + (i : Int) = (i : Int) := Int.zero_add _
  rw [e0]
  exact ps i σ' H' (by omega) p
theorem w_for {wi : TI} (q : wi σ H fun J H1 => ∃ W : Nat → Nat → L2.St → Hp → Prop, (∃ m, W 0 m σ H1) ∧ ∀ i m σ H, W i m σ H →
  (J.stop i H ∧ D.nx σ H) ∨ (J.go i H ∧ ∃ N : L2.St → Hp → Prop, (∀ σ' H', N σ' H' → ∃ m', m' < m ∧ W (i + 1) m' σ' H') ∧ ∀ x H', J.yld i H x H' → g x σ H' fun σ2 H2 => tb { D with nx := N, ct := N, bk := D.nx } σ2 H2)) : tFor wi g tb D σ H := q
theorem w_iRng1 {R : It → Hp → Prop} (q : ta σ H fun vs H1 => ∃ j : Int, vs = [.int j] ∧ -(2 ^ 62) ≤ j ∧ j < 2 ^ 62 ∧ R (Itr 0 j.toNat) H1) : iRng1 ta σ H R := q
theorem w_iRng2 {R : It → Hp → Prop} (q : ta σ H fun vs H1 => ∃ i j : Int, vs = [.int i, .int j] ∧ (-(2 ^ 62) ≤ i ∧ i < 2 ^ 62 ∧ -(2 ^ 62) ≤ j ∧ j < 2 ^ 62) ∧ R (Itr i (j - i).toNat) H1) : iRng2 ta σ H R := q
theorem w_iList {R : It → Hp → Prop} (q : te σ H fun x H1 => ∃ a, x = .ref a ∧ (∃ xs, SqL K H1 a xs) ∧ R (Itl K a) H1) : iList K te σ H R := q
theorem w_iTup {R : It → Hp → Prop} (q : te σ H fun x H1 => ∃ a, x = .ref a ∧ (∃ xs, SqT K H1 a xs) ∧ R (Itt K a) H1) : iTup K te σ H R := q
theorem w_iStr {R : It → Hp → Prop} (q : te σ H fun v H1 => ∃ x, v = .str x ∧ R (Its x) H1) : iStr te σ H R := q
/-- the end of iRng1's reading in a for -/
theorem w_rng {n : Int} (h1 : -(2 ^ 62) ≤ n) (h2 : n < 2 ^ 62) (Pv : Nat → L2.St → Hp → Prop) (p0 : Pv 0 σ H)
    (ps : ∀ (i : Nat) σ H, (i : Int) < n → Pv i σ H → g (.int (i : Int)) σ H fun σ2 H2 => tb { D with nx := Pv (i + 1), ct := Pv (i + 1), bk := D.nx } σ2 H2) (pd : ∀ σ H, Pv n.toNat σ H → D.nx σ H) :
    ∃ j : Int, [V.int n] = [.int j] ∧ -(2 ^ 62) ≤ j ∧ j < 2 ^ 62 ∧ ∃ W : Nat → Nat → L2.St → Hp → Prop, (∃ m, W 0 m σ H) ∧ ∀ i m σ H, W i m σ H →
  ((Itr 0 j.toNat).stop i H ∧ D.nx σ H) ∨ ((Itr 0 j.toNat).go i H ∧ ∃ N : L2.St → Hp → Prop, (∀ σ' H', N σ' H' → ∃ m', m' < m ∧ W (i + 1) m' σ' H') ∧ ∀ x H', (Itr 0 j.toNat).yld i H x H' → g x σ H' fun σ2 H2 => tb { D with nx := N, ct := N, bk := D.nx } σ2 H2) := by
  refine ⟨n, rfl, h1, h2, for_range (lo := 0) (n := n.toNat) Pv p0 (fun i σ' H' hi p => ?_) pd⟩
  have e0 : (0 : Int) + (i : Int) = (i : Int) := Int.zero_add _
  rw [e0]
  exact ps i σ' H' (by omega) p
/-- the end of iList's reading in a for -/
theorem w_lstF {a : Addr} {xs : List V} (hx : SqL K H a xs) (Pv : Nat → L2.St → Hp → Prop) (p0 : Pv 0 σ H) (hl : ∀ i σ H, i ≤ xs.length → Pv i σ H → SqL K H a xs)
    (ps : ∀ i x σ H, xs[i]? = some x → Pv i σ H → g x σ H fun σ2 H2 => tb { D with nx := Pv (i + 1), ct := Pv (i + 1), bk := D.nx } σ2 H2) (pd : ∀ σ H, Pv xs.length σ H → D.nx σ H) :
    ∃ b, V.ref a = .ref b ∧ (∃ xs, SqL K H b xs) ∧ ∃ W : Nat → Nat → L2.St → Hp → Prop, (∃ m, W 0 m σ H) ∧ ∀ i m σ H, W i m σ H →
  ((Itl K b).stop i H ∧ D.nx σ H) ∨ ((Itl K b).go i H ∧ ∃ N : L2.St → Hp → Prop, (∀ σ' H', N σ' H' → ∃ m', m' < m ∧ W (i + 1) m' σ' H') ∧ ∀ x H', (Itl K b).yld i H x H' → g x σ H' fun σ2 H2 => tb { D with nx := N, ct := N, bk := D.nx } σ2 H2) :=
  ⟨a, rfl, ⟨xs, hx⟩, for_list (xs := xs) Pv p0 hl ps pd⟩
end
/-! ### comprehensions whose element and test leave all that was tracked -/
section
variable {K : PySem.W.Frag} {σ : L2.St} {H : Hp} {Q : VK} {te : TE} {tt : TT} {vs : List Nat} {g : TG}
theorem lc_fm {Qd : Addr → Hp → Prop} {J : It} {its : List V} {G : Hp → Prop} {Y : Nat → Hp → V → Hp → Prop} (w : Walk J its.length G Y) (hy : ∀ i H x H', i < its.length → Y i H x H' → H' = H ∧ its[i]? = some x)
    (hG : ∀ H1, Same H H1 → G H1) (f : V → V) (k : V → Bool) (bind : V → L2.St)
    (hg : ∀ x H1 (R : L2.St → Hp → Prop), R (bind x) H1 → g x (wipe σ vs) H1 R) (hw : ∀ x, wipe (bind x) vs = wipe σ vs)
    (ht : ∀ x ∈ its, ∀ H1, Same H H1 → ∀ R : Bool → Hp → Prop, (∀ H2, Same H1 H2 → R (k x) H2) → tt (bind x) H1 R)
    (he : ∀ x ∈ its, k x = true → ∀ H1, Same H H1 → ∀ R : VK, (∀ H2, Same H1 H2 → R (f x) H2) → te (bind x) H1 R)
    (hlen : its.length < sizeLine) (q : ∀ D H1, H D = none → Same H H1 → H1 D = some (.lst ((its.filter k).map f)) → Qd D H1) :
    ∀ D, H D = none → ∃ W : Nat → Nat → Hp → Prop, (∃ m, W 0 m (upd H D (.lst []))) ∧ ∀ i m H, W i m H →
  (J.stop i H ∧ Qd D H) ∨ (J.go i H ∧ ∃ Nx : Hp → Prop, (∀ H', Nx H' → ∃ m', m' < m ∧ W (i + 1) m' H') ∧ ∀ x H', J.yld i H x H' → g x (wipe σ vs) H' fun σ2 H2 => wipe σ2 vs = wipe σ vs ∧ tt σ2 H2 fun b H3 =>
    if b = true then te σ2 H3 fun y H4 => ∃ acc, H4 D = some (.lst acc) ∧ acc.length < sizeLine ∧ Nx (upd H4 D (.lst (acc ++ [y]))) else Nx H3) := by
  intro D hD
  refine lc_it w (Pv := fun i H' => Same H H' ∧ H' D = some (.lst (((its.take i).filter k).map f))) ⟨Same.upd (Same.refl H) hD, upd_same⟩ (fun i H' _ p => hG H' p.1) (fun i x H' H'' hi p y => ?_) (fun H' p => ?_)
  · obtain ⟨e, hx⟩ := hy i H' x H'' hi y
    subst e
    obtain ⟨s, hD'⟩ := p
    have hm : x ∈ its := List.mem_of_getElem? hx
    have et : its.take (i + 1) = its.take i ++ [x] := by rw [List.take_add_one, hx]; rfl
    refine hg x H'' _ ⟨hw x, ht x hm H'' s _ fun H2 s2 => ?_⟩
    cases hk : k x with
    | true =>
      rw [if_pos rfl]
      refine he x hm hk H2 (s.trans s2) _ fun H3 s3 => ?_
      have hD3 : H3 D = some (.lst (((its.take i).filter k).map f)) := s3 _ _ (s2 _ _ hD')
      refine ⟨_, hD3, ?_, ?_, ?_⟩
      · rw [List.length_map]
        have h1 := List.length_filter_le k (its.take i)
        have h2 : (its.take i).length ≤ its.length := by rw [List.length_take]; omega
        omega
      · exact fun b o e => by
          rw [upd_ne (ne_of_none e hD)]
          exact s3 _ _ (s2 _ _ (s _ _ e))
      · rw [upd_same, et, List.filter_append, List.map_append, List.filter_cons_of_pos hk]
        rfl
    | false =>
      rw [if_neg (by decide)]
      refine ⟨s.trans s2, ?_⟩
      rw [et, List.filter_append, List.filter_cons_of_neg (by simp [hk]), List.filter_nil, List.append_nil]
      exact s2 _ _ hD'
  · obtain ⟨s, hD'⟩ := p
    rw [List.take_length] at hD'
    exact q D H' hD s hD'
/-- over a text, one name bound -/
def sgns (z : Str) : List V := z.cps.toList.map fun c => V.str ⟨#[c]⟩
theorem sgns_len {z : Str} : (sgns z).length = z.cps.size := by unfold sgns; simp
theorem w_lc {wi : TI} (q : wi σ H fun J H1 => ∀ D, H1 D = none → ∃ W : Nat → Nat → Hp → Prop, (∃ m, W 0 m (upd H1 D (.lst []))) ∧ ∀ i m H, W i m H →
  (J.stop i H ∧ Q (.ref D) H) ∨ (J.go i H ∧ ∃ Nx : Hp → Prop, (∀ H', Nx H' → ∃ m', m' < m ∧ W (i + 1) m' H') ∧ ∀ x H', J.yld i H x H' → g x (wipe σ vs) H' fun σ2 H2 => wipe σ2 vs = wipe σ vs ∧ tt σ2 H2 fun b H3 =>
    if b = true then te σ2 H3 fun y H4 => ∃ acc, H4 D = some (.lst acc) ∧ acc.length < sizeLine ∧ Nx (upd H4 D (.lst (acc ++ [y]))) else Nx H3)) : tLc wi g tt te vs σ H Q := q
theorem lcStr {Qd : Addr → Hp → Prop} {z : Str} {i : Nat} (hz : z.length ≤ 100000) (f : V → V) (k : V → Bool) (hw : ∀ x, wipe ((wipe σ vs).set i (some x)) vs = wipe σ vs)
    (ht : ∀ x ∈ sgns z, ∀ H1, Same H H1 → ∀ R : Bool → Hp → Prop, (∀ H2, Same H1 H2 → R (k x) H2) → tt ((wipe σ vs).set i (some x)) H1 R)
    (he : ∀ x ∈ sgns z, k x = true → ∀ H1, Same H H1 → ∀ R : VK, (∀ H2, Same H1 H2 → R (f x) H2) → te ((wipe σ vs).set i (some x)) H1 R)
    (q : ∀ D H1, H D = none → Same H H1 → H1 D = some (.lst (((sgns z).filter k).map f)) → Qd D H1) :
    ∀ D, H D = none → ∃ W : Nat → Nat → Hp → Prop, (∃ m, W 0 m (upd H D (.lst []))) ∧ ∀ j m H, W j m H →
  ((Its z).stop j H ∧ Qd D H) ∨ ((Its z).go j H ∧ ∃ Nx : Hp → Prop, (∀ H', Nx H' → ∃ m', m' < m ∧ W (j + 1) m' H') ∧ ∀ x H', (Its z).yld j H x H' → gName i x (wipe σ vs) H' fun σ2 H2 => wipe σ2 vs = wipe σ vs ∧ tt σ2 H2 fun b H3 =>
    if b = true then te σ2 H3 fun y H4 => ∃ acc, H4 D = some (.lst acc) ∧ acc.length < sizeLine ∧ Nx (upd H4 D (.lst (acc ++ [y]))) else Nx H3) := by
  have hl : (sgns z).length < sizeLine := by
    rw [sgns_len]
    exact Nat.lt_of_le_of_lt hz (by decide)
  refine lc_fm (its := sgns z) (by rw [sgns_len]; exact walk_str) (fun j H x H' hj y => ?_) (fun _ _ => trivial) f k (fun x => (wipe σ vs).set i (some x)) (fun x H1 R r => r) hw ht he hl q
  obtain ⟨e, c, hc, rfl⟩ := y
  refine ⟨e, ?_⟩
  unfold sgns
  rw [List.getElem?_map, Array.getElem?_toList, hc]
  rfl
theorem lcL {Qd : Addr → Hp → Prop} {a : Addr} {its : List V} {i : Nat} (hS : ∀ H1, Same H H1 → SqL K H1 a its) (hl : its.length < sizeLine) (f : V → V) (k : V → Bool) (hw : ∀ x, wipe ((wipe σ vs).set i (some x)) vs = wipe σ vs)
    (ht : ∀ x ∈ its, ∀ H1, Same H H1 → ∀ R : Bool → Hp → Prop, (∀ H2, Same H1 H2 → R (k x) H2) → tt ((wipe σ vs).set i (some x)) H1 R)
    (he : ∀ x ∈ its, k x = true → ∀ H1, Same H H1 → ∀ R : VK, (∀ H2, Same H1 H2 → R (f x) H2) → te ((wipe σ vs).set i (some x)) H1 R)
    (q : ∀ D H1, H D = none → Same H H1 → H1 D = some (.lst ((its.filter k).map f)) → Qd D H1) :
    ∃ b, V.ref a = .ref b ∧ (∃ xs, SqL K H b xs) ∧ ∀ D, H D = none → ∃ W : Nat → Nat → Hp → Prop, (∃ m, W 0 m (upd H D (.lst []))) ∧ ∀ j m H, W j m H →
  ((Itl K b).stop j H ∧ Qd D H) ∨ ((Itl K b).go j H ∧ ∃ Nx : Hp → Prop, (∀ H', Nx H' → ∃ m', m' < m ∧ W (j + 1) m' H') ∧ ∀ x H', (Itl K b).yld j H x H' → gName i x (wipe σ vs) H' fun σ2 H2 => wipe σ2 vs = wipe σ vs ∧ tt σ2 H2 fun b H3 =>
    if b = true then te σ2 H3 fun y H4 => ∃ acc, H4 D = some (.lst acc) ∧ acc.length < sizeLine ∧ Nx (upd H4 D (.lst (acc ++ [y]))) else Nx H3) :=
  ⟨a, rfl, ⟨its, hS H (Same.refl H)⟩, lc_fm (its := its) walk_list (fun j H x H' hj y => y) hS f k (fun x => (wipe σ vs).set i (some x)) (fun x H1 R r => r) hw ht he hl q⟩
theorem lcT {Qd : Addr → Hp → Prop} {a : Addr} {its : List V} {i : Nat} (hS : ∀ H1, Same H H1 → SqT K H1 a its) (hl : its.length < sizeLine) (f : V → V) (k : V → Bool) (hw : ∀ x, wipe ((wipe σ vs).set i (some x)) vs = wipe σ vs)
    (ht : ∀ x ∈ its, ∀ H1, Same H H1 → ∀ R : Bool → Hp → Prop, (∀ H2, Same H1 H2 → R (k x) H2) → tt ((wipe σ vs).set i (some x)) H1 R)
    (he : ∀ x ∈ its, k x = true → ∀ H1, Same H H1 → ∀ R : VK, (∀ H2, Same H1 H2 → R (f x) H2) → te ((wipe σ vs).set i (some x)) H1 R)
    (q : ∀ D H1, H D = none → Same H H1 → H1 D = some (.lst ((its.filter k).map f)) → Qd D H1) :
    ∃ b, V.ref a = .ref b ∧ (∃ xs, SqT K H b xs) ∧ ∀ D, H D = none → ∃ W : Nat → Nat → Hp → Prop, (∃ m, W 0 m (upd H D (.lst []))) ∧ ∀ j m H, W j m H →
  ((Itt K b).stop j H ∧ Qd D H) ∨ ((Itt K b).go j H ∧ ∃ Nx : Hp → Prop, (∀ H', Nx H' → ∃ m', m' < m ∧ W (j + 1) m' H') ∧ ∀ x H', (Itt K b).yld j H x H' → gName i x (wipe σ vs) H' fun σ2 H2 => wipe σ2 vs = wipe σ vs ∧ tt σ2 H2 fun b H3 =>
    if b = true then te σ2 H3 fun y H4 => ∃ acc, H4 D = some (.lst acc) ∧ acc.length < sizeLine ∧ Nx (upd H4 D (.lst (acc ++ [y]))) else Nx H3) :=
  ⟨a, rfl, ⟨its, hS H (Same.refl H)⟩, lc_fm (its := its) walk_tup (fun j H x H' hj y => y) hS f k (fun x => (wipe σ vs).set i (some x)) (fun x H1 R r => r) hw ht he hl q⟩
theorem w_exs {z : Str} {R : Str → Prop} (q : R z) : ∃ x, V.str z = .str x ∧ R x := ⟨z, rfl, q⟩
theorem w_lcStr {z : Str} {tz : TE} {i : Nat} (hz : z.length ≤ 100000) (f : V → V) (k : V → Bool)
    (hq : ∀ R : It → Hp → Prop, R (Its z) H → iStr tz σ H R) (hw : ∀ x, wipe ((wipe σ vs).set i (some x)) vs = wipe σ vs)
    (ht : ∀ x ∈ sgns z, ∀ H1, Same H H1 → ∀ R : Bool → Hp → Prop, (∀ H2, Same H1 H2 → R (k x) H2) → tt ((wipe σ vs).set i (some x)) H1 R)
    (he : ∀ x ∈ sgns z, k x = true → ∀ H1, Same H H1 → ∀ R : VK, (∀ H2, Same H1 H2 → R (f x) H2) → te ((wipe σ vs).set i (some x)) H1 R)
    (q : ∀ D H1, H D = none → Same H H1 → H1 D = some (.lst (((sgns z).filter k).map f)) → Q (.ref D) H1) :
    tLc (iStr tz) (gName i) tt te vs σ H Q := hq _ (lcStr hz f k hw ht he q)
theorem w_all {a : Addr} {bs : List Bool} (h : SqL K H a (bs.map V.bl)) (q : Q (.bl (bs.all id)) H) : rAll K [.ref a] H Q := ⟨a, bs, rfl, h, q⟩
end
end Wp

namespace Wp
open PySem PySem.Spec PyProof.Rows L2 TyNe

/-! ### what an expression yields, as data, while one stream at p is drawn from -/
def EvS (p : Addr) (te : TE) (σ : L2.St) (H : Hp) (P : PyData → Prop) : Prop := ∀ H1, Kp p H H1 → Stm H1 p → ∀ Q : VK, (∀ v d H2, Kp p H1 H2 → Stm H2 p → P d → Dn (Off p) H2 v d → Q v H2) → te σ H1 Q
def EvSs (p : Addr) (ta : TA) (σ : L2.St) (H : Hp) (P : List PyData → Prop) : Prop := ∀ H1, Kp p H H1 → Stm H1 p → ∀ Q : List V → Hp → Prop, (∀ vs ds H2, Kp p H1 H2 → Stm H2 p → P ds → DnAll (Off p) H2 vs ds → Q vs H2) → ta σ H1 Q
section
variable {p : Addr} {te : TE} {ta : TA} {σ : L2.St} {H : Hp} {P P' : PyData → Prop} {R : List PyData → Prop}
theorem EvS.weak (h : EvS p te σ H P) (k : ∀ d, P d → P' d) : EvS p te σ H P' := fun H1 a s Q q => h H1 a s Q fun v d H2 b s' x y => q v d H2 b s' (k d x) y
theorem EvSs.weak {R' : List PyData → Prop} (h : EvSs p ta σ H R) (k : ∀ d, R d → R' d) : EvSs p ta σ H R' := fun H1 a s Q q => h H1 a s Q fun v d H2 b s' x y => q v d H2 b s' (k d x) y
theorem evs_non (h : P .none) : EvS p (tC .non) σ H P := fun H1 _ s Q q => q _ _ H1 Kp.refl s h .non
theorem evs_bl {b : Bool} (h : P (.bool b)) : EvS p (tC (.bl b)) σ H P := fun H1 _ s Q q => q _ _ H1 Kp.refl s h (.bl b)
theorem evs_int {i : Int} (h : P (.int i)) : EvS p (tC (.int i)) σ H P := fun H1 _ s Q q => q _ _ H1 Kp.refl s h (.int i)
theorem evs_str {x : Str} (h : P (.str x)) : EvS p (tC (.str x)) σ H P := fun H1 _ s Q q => q _ _ H1 Kp.refl s h (.str x)
theorem evs_var {i : Nat} {v : V} {d : PyData} (e : σ[i]? = some (some v)) (hd : Dn (Off p) H v d) (h : P d) : EvS p (tVar i) σ H P := fun H1 k s Q q => ⟨v, e, q v d H1 Kp.refl s h (hd.kp k)⟩
theorem evss_nil (h : R []) : EvSs p tNil σ H R := fun H1 _ s Q q => q _ _ H1 Kp.refl s h .nil
theorem evss_cons {R' : List PyData → Prop} (h : EvS p te σ H P) (hs : EvSs p ta σ H R) (k : ∀ d r, P d → R r → R' (d :: r)) : EvSs p (tCons te ta) σ H R' := fun H1 a s Q q =>
  h H1 a s _ fun v d H2 b s2 x y => hs H2 (a.trans b) s2 _ fun vs ds H3 c s3 xs ys => q (v :: vs) (d :: ds) H3 (b.trans c) s3 (k d ds x xs) (.cons (y.kp c) ys)
theorem evs_tup (h : EvSs p ta σ H R) (k : ∀ ds, R ds → ds.length ≤ 100000 ∧ P (.tuple ds)) : EvS p (tTup ta) σ H P := fun H1 a s Q q =>
  h H1 a s _ fun vs ds H2 b s2 x y => ⟨sz (by rw [y.len]; exact (k ds x).1), fun t ht => by
    have hn : t ≠ p := (Stm.ne s2 ht)
    exact q (.ref t) (.tuple ds) _ (b.upd (b.free hn ht)) (s2.up ht) (k ds x).2 (.tup hn upd_same (y.step fun c o n e => by rw [upd_ne (ne_of_none e ht)]; exact e))⟩
theorem evs_lst (h : EvSs p ta σ H R) (k : ∀ ds, R ds → ds.length ≤ 100000 ∧ P (.list ds)) : EvS p (tLst ta) σ H P := fun H1 a s Q q =>
  h H1 a s _ fun vs ds H2 b s2 x y => ⟨sz (by rw [y.len]; exact (k ds x).1), fun t ht => by
    have hn : t ≠ p := (Stm.ne s2 ht)
    exact q (.ref t) (.list ds) _ (b.upd (b.free hn ht)) (s2.up ht) (k ds x).2 (.lst hn upd_same (y.step fun c o n e => by rw [upd_ne (ne_of_none e ht)]; exact e))⟩
theorem evs_dnew (h : P (.dict [])) : EvS p tDNewK σ H P := fun H1 a s Q q t ht =>
  have hn : t ≠ p := (Stm.ne s ht)
  q (.ref t) (.dict []) _ (Kp.refl.upd ht) (s.up ht) h (.dic hn upd_same)
theorem evs_disp1 {k : Str} {v : Int} (h : P (.dict [])) : EvS p (tDisp [(tC (.str k), tC (.int v))]) σ H P := fun H1 a s Q q t ht =>
  have hn : t ≠ p := (Stm.ne s ht)
  ⟨upd_same, [(Sum.inr k, .int v)], rfl, (show 1 ≤ 15 by decide), q (.ref t) (.dict []) _ ((Kp.refl.upd ht).upd ht) (by
    obtain ⟨x, y, e, r⟩ := s
    exact ⟨x, y, by rw [upd_ne (ne_of_none e ht), upd_ne (ne_of_none e ht)]; exact e, r⟩) h (.dic hn upd_same)⟩
theorem evs_call {sp : Sp} (h : ∀ vs ds H1, Kp p H H1 → Stm H1 p → R ds → DnAll (Off p) H1 vs ds → ∀ Q : VK, (∀ v d H2, Kp p H1 H2 → Stm H2 p → P d → Dn (Off p) H2 v d → Q v H2) → sp vs H1 Q C8.E0) (ha : EvSs p ta σ H R) : EvS p (tCall sp [] C8.E0 ta) σ H P := fun H1 a s Q q =>
  ha H1 a s _ fun vs ds H2 b s2 x y => by
    show sp (vs ++ []) H2 Q C8.E0
    rw [List.append_nil]
    exact h vs ds H2 (a.trans b) s2 x y Q fun v d H3 c s3 x3 y3 => q v d H3 (b.trans c) s3 x3 y3
/-- used in a reading -/
theorem EvS.use {Q : VK} (h : EvS p te σ H P) (s : Stm H p) (q : ∀ v d H2, Kp p H H2 → Stm H2 p → P d → Dn (Off p) H2 v d → Q v H2) : te σ H Q := h H Kp.refl s Q q
theorem EvSs.use {Q : List V → Hp → Prop} (h : EvSs p ta σ H R) (s : Stm H p) (q : ∀ vs ds H2, Kp p H H2 → Stm H2 p → R ds → DnAll (Off p) H2 vs ds → Q vs H2) : ta σ H Q := h H Kp.refl s Q q
end
end Wp

namespace Wp
open PySem PySem.Spec PyProof.Rows L2 TyNe

/-! ### text * int -/
abbrev qMulS : R2 := fun x y H Q => ∃ (z : Str) (n : Int), x = .str z ∧ y = .int n ∧ MulOk z n ∧ Q (.str (Txt.mul z n)) H
theorem op_mulS {X : Cx} : OpR X (binaryOp .Mult) qMulS := by
  intro pins s σ H x y v u Q I rx ry h
  obtain ⟨i, j, rfl, rfl, hz, q⟩ := h
  obtain ⟨t, rfl⟩ := rx
  obtain ⟨t', rfl⟩ := ry
  exact SB.mul hz fun t' k => ⟨.str (Txt.mul i j), H, I.tok _, ⟨_, rfl⟩, q⟩
theorem foldl_size : ∀ (l : List (Array Nat)) (a : Array Nat), (l.foldl (· ++ ·) a).size = a.size + (l.map Array.size).sum
  | [], a => by simp
  | x :: l, a => by
    rw [List.foldl_cons, foldl_size l, Array.size_append, List.map_cons, List.sum_cons]
    omega
theorem rep_sum (n k : Nat) : ((List.replicate n k) : List Nat).sum = n * k := by
  induction n with
  | zero => simp
  | succ n ih => rw [List.replicate_succ, List.sum_cons, ih, Nat.succ_mul, Nat.add_comm]
theorem mul_len (x : Str) {n : Int} (h : 0 ≤ n) : (Txt.mul x n).length ≤ x.length * n.toNat := by
  unfold Txt.mul
  by_cases h1 : n < 1
  · rw [if_pos h1]
    exact Nat.zero_le _
  · rw [if_neg h1]
    by_cases h2 : (n == 1 || x.length == 0) = true
    · rw [if_pos h2]
      have : 1 ≤ n.toNat := by omega
      exact Nat.le_mul_of_pos_right _ this
    · rw [if_neg h2]
      show ((List.replicate n.toNat x.cps).foldl (· ++ ·) (#[] : Array Nat)).size ≤ _
      rw [foldl_size, List.map_replicate, rep_sum]
      show 0 + n.toNat * x.cps.size ≤ x.cps.size * n.toNat
      rw [Nat.zero_add, Nat.mul_comm]
      exact Nat.le_refl _
theorem mulOk {x : Str} {n : Int} (h0 : 0 ≤ n) (h1 : n ≤ 1000) (hx : x.length ≤ 10000) : MulOk x n := by
  refine ⟨?_, fun a b => ?_, fun a b => ?_⟩
  · rw [decide_eq_false (by omega), decide_eq_false (by omega)]
    rfl
  · have e : (2 ^ 63 - 1 : Int) / n ≥ (2 ^ 63 - 1 : Int) / 1000 := by
      rw [ge_iff_le, Int.le_ediv_iff_mul_le (by omega)]
      have e2 : (2 ^ 63 - 1 : Int) / 1000 = 9223372036854775 := by decide
      rw [e2]
      have := Int.mul_le_mul_of_nonneg_left h1 (show (0 : Int) ≤ 9223372036854775 by decide)
      omega
    have e2 : (2 ^ 63 - 1 : Int) / 1000 = 9223372036854775 := by decide
    omega
  · unfold Builtin.Str.tooLong
    have h2 : n.toNat ≤ 1000 := by omega
    have h3 : x.length * n.toNat ≤ 10000 * 1000 := Nat.mul_le_mul hx h2
    exact decide_eq_false (by
      have : (10000 * 1000 : Nat) ≤ sizeLine := by decide
      omega)
section
variable {H : Hp} {Q : VK}
theorem w_mulS {z : Str} {n : Int} (h0 : 0 ≤ n) (h1 : n ≤ 1000) (hx : z.length ≤ 10000) (q : (Txt.mul z n).length ≤ z.length * n.toNat → Q (.str (Txt.mul z n)) H) : qMulS (.str z) (.int n) H Q := ⟨z, n, rfl, rfl, mulOk h0 h1 hx, q (mul_len z h0)⟩
end

/-! ### the place of a sign -/
abbrev q_rfind4 : V → List V → Hp → VK → Prop := fun x xs H Q => ∃ (a b : Str) (i j : Int), x = .str a ∧ xs = [.str b, .int i, .int j] ∧ Q (.int (Txt.rfindIn a b i j)) H
abbrev q_find3 : V → List V → Hp → VK → Prop := fun x xs H Q => ∃ (a b : Str) (i : Int), x = .str a ∧ xs = [.str b, .int i] ∧ Q (.int (Txt.find3 a b i)) H
open Builtin Builtin.Str StrLaws in
theorem at_one {x : Str} {c hi i : Nat} (h : hi ≤ x.length) : At x ⟨#[c]⟩ hi i ↔ i < hi ∧ x.cps.toList[i]? = some c := by
  have e : (⟨#[c]⟩ : Str).length = 1 := rfl
  constructor
  · rintro ⟨h1, h2⟩
    rw [e] at h1
    exact ⟨by omega, (subAt_one x c i).mp ⟨by rw [e]; omega, h2⟩⟩
  · rintro ⟨h1, h2⟩
    exact ⟨by rw [e]; omega, ((subAt_one x c i).mpr h2).2⟩
open Builtin Builtin.Str StrLaws in
/-- the last c in [lo, hi) -/
theorem last_one (x : Str) (c lo hi : Nat) (h : hi ≤ x.length) : (lastOccurrence x ⟨#[c]⟩ lo hi = none ∧ ∀ i, lo ≤ i → i < hi → x.cps.toList[i]? ≠ some c) ∨
    ∃ i, lastOccurrence x ⟨#[c]⟩ lo hi = some i ∧ lo ≤ i ∧ i < hi ∧ x.cps.toList[i]? = some c ∧ ∀ k, i < k → k < hi → x.cps.toList[k]? ≠ some c := by
  rw [last_eq]
  have key := last_run x ⟨#[c]⟩ hi (List.range' lo (hi + 1 - lo)) [] none (fun _ h => nomatch h) (fun _ h => nomatch h) (by simpa using List.pairwise_lt_range' (s := lo) (n := hi + 1 - lo))
  have mem : ∀ i, lo ≤ i → i < hi → i ∈ [] ++ List.range' lo (hi + 1 - lo) := fun i h1 h2 => by
    simp [List.mem_range']
    exact ⟨i - lo, by omega, by omega⟩
  cases hr : (forIn (List.range' lo (hi + 1 - lo)) none (lastBody x ⟨#[c]⟩ hi)).run with
  | none =>
    rw [hr] at key
    exact .inl ⟨rfl, fun i h1 h2 e => key i (mem i h1 h2) ((at_one h).mpr ⟨h2, e⟩)⟩
  | some a =>
    rw [hr] at key
    have ka := (at_one h).mp key.1
    refine .inr ⟨a, rfl, ?_, ka.1, ka.2, fun k h1 h2 e => ?_⟩
    · -- it was among the places looked at
      have hmem : ∀ (l : List Nat) (st : Option Nat) (r : Nat), (forIn l st (lastBody x ⟨#[c]⟩ hi)).run = some r → r ∈ l ∨ st = some r := by
        intro l
        induction l with
        | nil => intro st r e; exact .inr e
        | cons b l ih =>
          intro st r e
          rw [List.forIn_cons] at e
          unfold lastBody at e
          split at e
          · rcases ih _ _ e with hm | hm
            · exact .inl (List.mem_cons_of_mem _ hm)
            · exact .inl (by cases hm; exact List.mem_cons_self ..)
          · rcases ih _ _ e with hm | hm
            · exact .inl (List.mem_cons_of_mem _ hm)
            · exact .inr hm
      rcases hmem _ _ _ hr with hm | hm
      · simp [List.mem_range'] at hm
        omega
      · exact nomatch hm
    · by_cases hk : lo ≤ k
      · exact key.2 k (mem k hk h2) h1 ((at_one h).mpr ⟨h2, e⟩)
      · exact key.2 k (by
          have hk2 : k < lo := by omega
          have : lo ≤ a := by
            have hmem : ∀ (l : List Nat) (st : Option Nat) (r : Nat), (forIn l st (lastBody x ⟨#[c]⟩ hi)).run = some r → r ∈ l ∨ st = some r := by
              intro l
              induction l with
              | nil => intro st r e; exact .inr e
              | cons b l ih =>
                intro st r e
                rw [List.forIn_cons] at e
                unfold lastBody at e
                split at e
                · rcases ih _ _ e with hm | hm
                  · exact .inl (List.mem_cons_of_mem _ hm)
                  · exact .inl (by cases hm; exact List.mem_cons_self ..)
                · rcases ih _ _ e with hm | hm
                  · exact .inl (List.mem_cons_of_mem _ hm)
                  · exact .inr hm
            rcases hmem _ _ _ hr with hm | hm
            · simp [List.mem_range'] at hm
              omega
            · exact nomatch hm
          omega) h1 ((at_one h).mpr ⟨h2, e⟩)
open Builtin Builtin.Str StrLaws in
/-- the first c from lo on -/
theorem first_one (x : Str) (c lo : Nat) : (occurrences x ⟨#[c]⟩ lo x.length 1 = [] ∧ ∀ i, lo ≤ i → x.cps.toList[i]? ≠ some c) ∨
    ∃ i r, occurrences x ⟨#[c]⟩ lo x.length 1 = i :: r ∧ lo ≤ i ∧ x.cps.toList[i]? = some c ∧ ∀ k, lo ≤ k → k < i → x.cps.toList[k]? ≠ some c := by
  rw [occ_eq]
  have inr : ∀ i c, x.cps.toList[i]? = some c → i < x.length := fun i c e => by
    have h := (List.getElem?_eq_some_iff.mp e).1
    simpa [Str.length] using h
  rcases occ_first x ⟨#[c]⟩ x.length 1 (Nat.le_refl _) (List.range' lo (x.length + 1 - lo)) lo (fun i hi => by simp [List.mem_range'] at hi; omega) with ⟨h0, hn⟩ | ⟨pre, a, post, e, h0, ha, hn⟩
  · refine .inl ⟨by rw [h0], fun i h1 e => ?_⟩
    have := inr i c e
    exact hn i (by simp [List.mem_range']; exact ⟨i - lo, by omega, by omega⟩) ((at_one (Nat.le_refl _)).mpr ⟨this, e⟩)
  · have hm : a ∈ List.range' lo (x.length + 1 - lo) := by rw [e]; simp
    have hlo : lo ≤ a := by simp [List.mem_range'] at hm; omega
    have ka := (at_one (Nat.le_refl _)).mp ha
    generalize hl : (forIn (List.range' lo (x.length + 1 - lo)) ((#[] : Array Nat), lo) (occBody x ⟨#[c]⟩ x.length 1)).run.fst = arr at h0
    rw [← Array.getElem?_toList] at h0
    cases hal : arr.toList with
    | nil => rw [hal] at h0; exact nomatch h0
    | cons b r =>
      rw [hal] at h0
      have hb : b = a := Option.some.inj h0
      subst hb
      refine .inr ⟨b, r, rfl, hlo, ka.2, fun k h1 h2 ek => ?_⟩
      have hk := inr k c ek
      refine hn k ?_ ((at_one (Nat.le_refl _)).mpr ⟨hk, ek⟩)
      have hp : (List.range' lo (x.length + 1 - lo)).Pairwise (· < ·) := by simpa using List.pairwise_lt_range' (s := lo) (n := x.length + 1 - lo)
      rw [e] at hp
      have hmk : k ∈ pre ++ b :: post := by rw [← e]; simp [List.mem_range']; exact ⟨k - lo, by omega, by omega⟩
      rcases List.mem_append.mp hmk with g | g
      · exact g
      · rcases List.mem_cons.mp g with g | g
        · omega
        · have := (List.pairwise_cons.mp (List.pairwise_append.mp hp).2.1).1 k g
          omega
end Wp

namespace Wp
open PySem PySem.Spec PyProof.Rows L2 TyNe

/-! ### a property of an own class -/
structure Prp (P : Program) (w : World) (K : PySem.W.Frag) (mg : Str → Option Value) (base : Heap) (k : Nat) (C : Addr) (m : Str) (sp : Sp) : Prop where
  ex : ∃ (f p : Addr) (fd : FuncData) (ps : List Str), Cls K C ∧ PropOf K C m p f ∧ FnOk P w K mg base C8.CX0 k f fd ps sp ∧ Binds K fd ps []
theorem prp0 {P : Program} {w : World} {K : PySem.W.Frag} {mg : Str → Option Value} {base : Heap} {m x qual : Str} {C p : Addr} {st : Stmt} {f : Addr} {fd : FuncData} {N ps : List Str} {k : Nat} {sp : Sp} (c : Cls K C) (hp : PropOf K C m p f) (F : C8.Fun K x qual st f fd) (b : Binds K fd ps []) (S : FnScope N ps (C8.fnScope st)) (len : ∀ vs H Q E, sp vs H Q E → vs.length = ps.length)
    (hbody : ∀ (cdv : Value) (A : Around) (outer : List Env) (s : Shared) (H : Hp) (vs : List V) (Q : VK) (E : XK), Room k (A.deeper (envOfC qual (C8.fnScope st) s.heap.objs.size f cdv)) → sp vs H Q E →
      ∃ t, PSs (cxOf C8.CX0 P w K mg base N qual (C8.fnScope st) f cdv A outer s H E).nox (C8.fnBody st) t ∧ t { nx := fun _ H' => Q .non H', rt := Q } (start N vs) H) : Prp P w K mg base (k + 1) C m sp :=
  ⟨f, p, fd, ps, c, hp, C8.fn0 F S len hbody, b⟩
theorem pe_pp {X : Cx} {k j : Nat} {C : Addr} {m : Str} {sp : Sp} {e : Expr} {pos : Pos} {ta : TE} (c : Prp X.prog X.w X.K X.mg X.base k C m sp) (hr : Room j X.A) (hk : k + 1 ≤ j) (he : PE X e ta)
    (hab : attributeBase e m X.env (eval e X.env) = eval e X.env) : PE X (.Attribute e m pos) (tProp C sp [] C8.E0 ta) := by
  obtain ⟨f, p, fd, ps, hc, hp, F, b⟩ := c.ex
  exact pe_prop he hc hp F (hr.mono hk) b .nil C8.pass0 hab
theorem hu1 {j : Nat} {A : Around} (hr : Room j A) : A.units + 1 < cLine := by
  have := hr.units
  omega
abbrev qSortedD : List V → Hp → VK → Prop := fun xs H Q => ∃ (a : Addr) (kvs : List (Key × V)) (ks : List Str), xs = [.ref a] ∧ Rd H a (.dK kvs) ∧ kvs.map (·.1) = ks.map Sum.inr ∧ ks.length < 64 ∧
    ∀ ys p, ys.Perm ks → sortedS ys = true → H p = none → Q (.ref p) (upd H p (.lst (ys.map V.str)))

section
variable {K : PySem.W.Frag} {σ : L2.St} {H : Hp} {v : V} {Q : VK} {D : Ends} {te ta td ty tv tx : TE}
theorem w_yes {R : Bool → Hp → Prop} (q : R true H) : tYes σ H R := q
theorem iteT_ {A B : Prop} (q : A) : if (true : Bool) = true then A else B := q
theorem gc {t : TG} {u : TGs} {v : V} {r : List V} {Q : L2.St → Hp → Prop} (q : t v σ H fun σ' H' => u r σ' H' Q) : gCons t u (v :: r) σ H Q := ⟨v, r, rfl, q⟩
theorem gn {Q : L2.St → Hp → Prop} (q : Q σ H) : gNil [] σ H Q := ⟨rfl, q⟩
theorem w_fld {f : Str} (q : ta σ H fun x H1 => ∃ a C dx fs v, x = .ref a ∧ H1 a = some (.ins C dx fs) ∧ Cls K C ∧ NoAttr K C f ∧ fs.lookup f = some v ∧ Q v H1) : tFld K ta f σ H Q := q
theorem w_prop {C : Addr} {sp : Sp} {dvs : List V} {E : XK} (q : ta σ H fun x H1 => ∃ a dx fs, x = .ref a ∧ H1 a = some (.ins C dx fs) ∧ sp (.ref a :: dvs) H1 Q E) : tProp C sp dvs E ta σ H Q := q
theorem w_meth {C : Addr} {m : Str} {sp : Sp} {dvs : List V} {E : XK} {t : TA} (q : ta σ H fun x H1 => ∃ a dx fs, x = .ref a ∧ H1 a = some (.ins C dx fs) ∧ fs.lookup m = none ∧ t σ H1 fun vs H2 => sp (x :: (vs ++ dvs)) H2 Q E) : tMeth C m sp dvs E ta t σ H Q := q
theorem w_make {C : Addr} {sp : Sp} {dvs : List V} {E : XK} {t : TA} (q : t σ H fun vs H1 => ∀ x dx, H1 x = none → H1 dx = none → dx ≠ x → sp (.ref x :: (vs ++ dvs)) (upd (upd H1 dx (.own x)) x (.ins C dx [])) (fun v H2 => v = .non ∧ Q (.ref x) H2) E) : tMake C sp dvs E t σ H Q := q
theorem w_dget (q : td σ H fun x H1 => ty σ H1 fun y H2 => ∃ a v, x = .ref a ∧ DGet H2 a y (some v) ∧ Q v H2) : tDGet td ty σ H Q := q
theorem w_dget2 (q : td σ H fun x H1 => ∃ a, x = .ref a ∧ IsD H1 a ∧ ty σ H1 fun y H2 => tx σ H2 fun z H3 => ∃ o, DGet H3 a y o ∧ Q (o.getD z) H3) : tDGet2 td ty tx σ H Q := q
theorem w_dput (q : tv σ H fun v H1 => td σ H1 fun x H2 => ty σ H2 fun y H3 => ∃ a H4, x = .ref a ∧ DPut H3 a y v H4 ∧ D.nx σ H4) : sDPut td ty tv D σ H := q
theorem w_sfld {f : Str} (q : tv σ H fun y H1 => ta σ H1 fun x H2 => ∃ a C dx fs, x = .ref a ∧ H2 a = some (.ins C dx fs) ∧ Cls K C ∧ NoAttr K C f ∧ fs.length < 1000 ∧ D.nx σ (upd H2 a (.ins C dx (putF f y fs)))) : sFld K ta tv f D σ H := q
end
end Wp

namespace Wp
open PySem PySem.Spec PyProof.Rows L2 TyNe He

/-! ### a dict of the module with text keys, asked by get -/
structure MDict (K : PySem.W.Frag) (w : World) (d : Addr) (g : Str → Option V) : Prop where
  ex : ∃ es n, KDict K w d es n ∧ ∀ z, ∃ r, PySem.W.nsIn K d z = some r ∧ RelO (g z) r
/-- NAME.get(k, x) -/
def tKGet2 (g : Str → Option V) (ty tx : TE) : TE := fun σ H Q => ty σ H fun y H1 => tx σ H1 fun z H2 => ∃ w : Str, y = .str w ∧ Q ((g w).getD z) H2
theorem pe_kget2 {X : Cx} {d : Addr} {g : Str → Option V} {x : Str} {e f : Expr} {p apos cpos : Pos} {ty tx : TE} (M : MDict X.K X.w d g) (hg : Gl X x) (hm : X.mg x = some (.ref d)) (he : PE X e ty) (hf : PE X f tx)
    (m : M2 X (.Name x p) "get" apos e f cpos) (hd : (x == ("__debug__" : Str)) = false := by decide) : PE X (.Call (.Attribute (.Name x p) "get" apos) [e, f] [] cpos) (tKGet2 g ty tx) := by
  obtain ⟨es, n, D, hn⟩ := M.ex
  refine ⟨fun pins s σ H Q I h => ?_⟩
  refine wpAny_Call_method m.base m.few m.line PySem.F.plainAttrs_dict PySem.F.slot_dict_get PySem.F.type_dict_get (thn ((C8.pe_gc (pos := p) (v := .ref d) hg ⟨_, hm, rfl⟩ hd).run pins s σ H (fun v H1 => v = .ref d ∧ ty σ H1 fun y H1 => tx σ H1 fun z H2 => ∃ w : Str, y = .str w ∧ Q ((g w).getD z) H2) I ⟨rfl, h⟩) fun u s1 ⟨x, H1, I1, rx, ex, q1⟩ => ?_)
  subst ex
  obtain rfl : u = Value.ref d := rx
  have mo : ∀ {s' : Shared} {σ' : L2.St} {H' : Hp}, Inv X pins σ' H' s' → s'.heap.MapOf (strKind X.prog X.w) d (fun k => findBy Value.isStrOf es k) := fun I' => PySem.W.mapOf_K (prog := X.prog) I'.kIn D.at_ D.lit
  refine ⟨(mo I1).typeIs, (mo I1).noDict, ?_⟩
  rw [m.trees]
  refine Calls.callWith_builtin rfl (Calls.evalArgs_plain (Calls.spliced_cons (thn (he.run pins s1 σ H1 _ I1 q1) fun iv s2 ⟨y, H2, I2, ry, q2⟩ =>
    Calls.spliced_cons (thn (hf.run pins s2 σ H2 _ I2 q2) fun fv s3 ⟨z, H3, I3, rz, w, ey, q3⟩ => Calls.spliced_nil ?_))))
  subst ey
  obtain ⟨t, rfl⟩ := ry
  obtain ⟨r, hr, rel⟩ := hn w
  refine call_meetsIn PySem.F.slot_dict_get (mo I3).typeIs PySem.F.entry_dict_get (PySem.F.args_dict_get_3 _ _ _) (meets_dict_get_default (strKind X.prog X.w) d (PySem.strKind_is X.prog X.w w t) D.low fv) ⟨_, mo I3, ?_⟩
  rw [PySem.W.find_K D.at_ hr]
  exact ⟨_, H3, I3.tok _, rel.getD rz, q3⟩
/-- from the keys, and what stands at each -/
theorem mdict {K : PySem.W.Frag} {w : World} {d : Addr} {kvs : List (Str × V)} (hk : dicW K d = some (keysIn w.params (kvs.map (·.1)))) (hv : ∀ p ∈ kvs, ∃ u, PySem.W.nsIn K d p.1 = some (some u) ∧ RelV p.2 u) :
    MDict K w d (fun z => (kvs.find? fun p => decide (p.1 = z)).map (·.2)) := by
  obtain ⟨es, n, D⟩ := dicW_ok hk
  refine ⟨es, n, D, fun z => ?_⟩
  cases hf : kvs.find? fun p => decide (p.1 = z) with
  | some p =>
    have hp := List.mem_of_find?_eq_some hf
    have hz0 := List.find?_some hf
    have hz : p.1 = z := of_decide_eq_true hz0
    obtain ⟨u, h1, h2⟩ := hv p hp
    rw [hz] at h1
    exact ⟨some u, h1, h2⟩
  | none =>
    refine ⟨none, ?_, trivial⟩
    have he : es.toList.map He.keyOf = keysIn w.params (kvs.map (·.1)) := by
      unfold dicW at hk
      rw [D.at_] at hk
      have hl := D.low
      simp [hl] at hk
      exact hk
    have hkey : ∀ e ∈ es.toList, ∃ x t, e.key = .str x t ∧ x ≠ z := fun e hm => by
      have h1 : He.keyOf e ∈ keysIn w.params (kvs.map (·.1)) := by rw [← he]; exact List.mem_map.mpr ⟨e, hm, rfl⟩
      obtain ⟨k, hkm, h2⟩ := List.mem_map.mp h1
      obtain ⟨p, hpm, rfl⟩ := List.mem_map.mp hkm
      obtain ⟨x, t, e1, e2⟩ := D.lit.all e hm
      refine ⟨x, t, e1, fun ez => ?_⟩
      unfold He.keyOf at h2
      rw [e1] at h2
      have h3 := congrArg Prod.fst (Option.some.inj h2)
      exact (List.find?_eq_none.mp hf p hpm) (decide_eq_true (h3.trans ez))
    unfold PySem.W.nsIn
    rw [D.at_]
    dsimp only
    have f0 : es.toList.find? (·.key.isStr z) = none := List.find?_eq_none.mpr fun e hm h => by
      obtain ⟨x, t, e1, e2⟩ := hkey e hm
      rw [e1] at h
      exact e2 (beq_iff_eq.mp h)
    have a0 : es.toList.any (·.refKey) = false := List.any_eq_false.mpr fun e hm h => by
      obtain ⟨x, t, e1, e2⟩ := hkey e hm
      unfold DictEntry.refKey at h
      rw [e1] at h
      exact nomatch h
    rw [f0, a0]
    rfl
end Wp

/-! zip of a tuple and a list -/
namespace ZMix
open PySem PySem.Spec PyProof.Rows L2 RZ
section
variable {prog : Program} {w : World} {A : Around} {E : Value → Shared → Prop} {s : Shared}
/-- what a zip object looks like: the tuple's iterator first, then the list's -/
structure Zst (h : Heap) (z TI TO i j p l : Addr) (n : Nat) (f : Value) : Prop where
  Z : IsZip h z TI TO f
  I : IsPair h TI (.ref i) (.ref j)
  O : ∃ a b, IsPair h TO a b
  P : h.IsTupleIter i p n
  L : h.IsListIter j l n
theorem step {z TI TO i j p l : Addr} {n : Nat} {xs ys : Array Value} {x y : Value} {Q : Value → Shared → Prop} (D : ZipApart z TI TO i j p l) (S : Zst s.heap z TI TO i j p l n .none)
    (hp : s.heap.IsTuple p xs) (hl : s.heap.IsList l ys) (hx : xs[n]? = some x) (hy : ys[n]? = some y)
    (q : ∀ h', Zst h' z TI TO i j p l (n + 1) (rawInt s.heap.objs.size) → IsPair h' s.heap.objs.size x y → h'.objs.size = s.heap.objs.size + 1 →
      (∀ c o, c ≠ z ∧ c ≠ TO ∧ c ≠ i ∧ c ≠ j → s.heap.get? c = some o → h'.get? c = some o) → Q (.ref s.heap.objs.size) { s with heap := h' }) :
    wpAny (model prog w) A (Builtin.«zip.__next__» ⟨[.ref z], []⟩) (fun r s' => ∃ v, r = .done (.ret v) ∧ Q v s') E s := by
  obtain ⟨a, b, hO⟩ := S.O
  show wpAny _ _ (field (.ref z) 2 >>= _) _ _ _; refine wpAny_bind (wpAny_field S.Z rfl (x := .bool false) rfl ?_)
  show wpAny _ _ (field (.ref z) 3 >>= _) _ _ _; refine wpAny_bind (wpAny_field S.Z rfl (x := .ref TI) rfl (wpAny_bind (wpAny_seqItems S.I rfl ?_)))
  show wpAny _ _ (Builtin.SmallTypes.ownedTupleIsFree (.ref z) >>= _) _ _ _; refine wpAny_bind ?_; unfold Builtin.SmallTypes.ownedTupleIsFree
  refine wpAny_bind (wpAny_field S.Z rfl (x := .none) rfl (wpAny_pure ?_)); simp only [if_true]
  refine wpAny_bind (wpAny_rule (wpAny_bind (wpAny_field S.Z rfl (x := .ref TO) rfl (wpAny_bind (wpAny_setField_rec S.Z (by simp) fun k1 u1 e1 => wpAny_bind ?_)))))
  have Z1 : IsZip k1 z TI TO .ellipsis := u1
  simp only [List.zipIdx_cons, List.zipIdx_nil, List.forIn_cons, List.forIn_nil]; refine wpAny_bind (wpAny_bind (wpAny_onRaise ?_))
  show wpAny _ _ (Builtin.SmallTypes.nextOf (.ref i) >>= _) _ _ _; refine wpAny_bind (nextOf_tuple_item (S.P.extBut e1.extBut D.i1z) (hp.extBut e1.extBut D.l1z) hx fun k2 P2 e2 => wpAny_pure ?_)
  have O2 : IsPair k2 TO a b := e2.extBut _ _ D.TOi1 (e1.extBut _ _ D.TOz hO)
  refine wpAny_bind (wpAny_seqItems O2 rfl (wpAny_bind (wpAny_updateSeq_pair O2 fun k3 u3 e3 => wpAny_bind (wpAny_letGo (wpAny_pure (wpAny_bind (wpAny_bind (wpAny_onRaise ?_))))))))
  have O3 : IsPair k3 TO x b := u3
  have up13 : ∀ c o, c ≠ TO → c ≠ i → k1.get? c = some o → k3.get? c = some o := fun c o c1 c2 e => e3.extBut _ _ c1 (e2.extBut _ _ c2 e)
  have up3 : ∀ c o, c ≠ z → c ≠ TO → c ≠ i → s.heap.get? c = some o → k3.get? c = some o := fun c o c0 c1 c2 e => up13 c o c1 c2 (e1.extBut _ _ c0 e)
  show wpAny _ _ (Builtin.SmallTypes.nextOf (.ref j) >>= _) _ _ _
  refine wpAny_bind (wpAny_nextOf_list_item (S.L.at fun o e => up3 j o D.i2z D.TOi2.symm D.i12.symm e) (hl.at fun o e => up3 l o D.l2z D.l2TO D.l2i1 e) hy fun k4 L4 e4 => wpAny_pure ?_)
  have O4 : IsPair k4 TO x b := e4.extBut _ _ D.TOi2 O3
  refine wpAny_bind (wpAny_seqItems O4 rfl (wpAny_bind (wpAny_updateSeq_pair O4 fun k5 u5 e5 => wpAny_bind (wpAny_letGo (wpAny_pure (wpAny_pure ?_))))))
  have O5 : IsPair k5 TO x y := u5
  refine wpAny_bind (wpAny_seqItems O5 rfl (wpAny_bind (wpAny_newTuple ?_)))
  have sz : k5.objs.size = s.heap.objs.size := by rw [e5.1, e4.1, e3.1, e2.1, e1.1]
  have up5 : ∀ c o, c ≠ TO → c ≠ i → c ≠ j → k1.get? c = some o → k5.get? c = some o := fun c o c1 c2 c3 e => e5.extBut _ _ c1 (e4.extBut _ _ c3 (up13 c o c1 c2 e))
  have Z5 : IsZip k5 z TI TO .ellipsis := up5 _ _ D.TOz.symm D.i1z.symm D.i2z.symm Z1
  have P5 : k5.IsTupleIter i p (n + 1) := P2.at fun o e => e5.extBut _ _ D.TOi1.symm (e4.extBut _ _ D.i12 (e3.extBut _ _ D.TOi1.symm e))
  have L5 : k5.IsListIter j l (n + 1) := L4.extBut e5.extBut D.TOi2.symm
  have lz : z < k5.objs.size := Heap.lt_size Z5
  show wpAny _ _ (Builtin.SmallTypes.ownedTupleHandOut (.ref z) (.ref k5.objs.size) >>= _) _ _ _; refine wpAny_bind ?_; unfold Builtin.SmallTypes.ownedTupleHandOut
  have Z6 : IsZip (k5.push { cls := .type "tuple", data := .seq #[x, y] }) z TI TO .ellipsis := Heap.get?_push_of_some _ Z5
  refine wpAny_bind (wpAny_setField_rec Z6 (by simp) fun k7 u7 e7 => ?_)
  have Z7 : IsZip k7 z TI TO (rawInt k5.objs.size) := u7
  refine wpAny_setField_rec Z7 (by simp) fun k8 u8 e8 => ?_
  have Z8 : IsZip k8 z TI TO (rawInt k5.objs.size) := u8
  have up8 : ∀ c o, c ≠ z → k5.get? c = some o → k8.get? c = some o := fun c o c0 e => e8.extBut _ _ c0 (e7.extBut _ _ c0 (Heap.get?_push_of_some _ e))
  have T8 : IsPair k8 k5.objs.size x y := e8.extBut _ _ (Nat.ne_of_gt lz) (e7.extBut _ _ (Nat.ne_of_gt lz) (Heap.get?_push_size _ rfl))
  have s8 : k8.objs.size = k5.objs.size + 1 := by rw [e8.1, e7.1, Heap.size_push]
  rw [sz] at Z8 T8 s8
  have I8 : IsPair k8 TI (.ref i) (.ref j) := up8 _ _ D.TIz (up5 _ _ D.TITO D.TIi1 D.TIi2 (e1.extBut _ _ D.TIz S.I))
  refine wpAny_pure ⟨_, rfl, ?_⟩
  rw [show k5.objs.size = s.heap.objs.size from sz]
  exact q k8 ⟨Z8, I8, ⟨x, y, up8 _ _ D.TOz O5⟩, P5.at fun o e => up8 _ o D.i1z e, L5.at fun o e => up8 _ o D.i2z e⟩ T8 s8 fun c o c0 e => up8 c o c0.1 (up5 c o c0.2.1 c0.2.2.1 c0.2.2.2 (e1.extBut _ _ c0.1 e))
theorem stop {z TI TO i j p l : Addr} {n : Nat} {xs ys : Array Value} {Q : PySem.Fin → Shared → Prop} (hh : A.handled = none) (D : ZipApart z TI TO i j p l) (S : Zst s.heap z TI TO i j p l n .none)
    (hp : s.heap.IsTuple p xs) (hl : s.heap.IsList l ys) (he : xs[n]? = none ∨ ys[n]? = none)
    (q : ∀ h' e, (∀ c o, c ≠ z ∧ c ≠ TO ∧ c ≠ i ∧ c ≠ j → s.heap.get? c = some o → h'.get? c = some o) → (∃ o, h'.get? e = some o ∧ o.cls = .type "StopIteration") → E (.ref e) { s with heap := h' }) :
    wpAny (model prog w) A (Builtin.«zip.__next__» ⟨[.ref z], []⟩) Q E s := by
  obtain ⟨a, b, hO⟩ := S.O
  show wpAny _ _ (field (.ref z) 2 >>= _) _ _ _; refine wpAny_bind (wpAny_field S.Z rfl (x := .bool false) rfl ?_)
  show wpAny _ _ (field (.ref z) 3 >>= _) _ _ _; refine wpAny_bind (wpAny_field S.Z rfl (x := .ref TI) rfl (wpAny_bind (wpAny_seqItems S.I rfl ?_)))
  show wpAny _ _ (Builtin.SmallTypes.ownedTupleIsFree (.ref z) >>= _) _ _ _; refine wpAny_bind ?_; unfold Builtin.SmallTypes.ownedTupleIsFree
  refine wpAny_bind (wpAny_field S.Z rfl (x := .none) rfl (wpAny_pure ?_)); simp only [if_true]
  refine wpAny_bind (wpAny_rule (wpAny_bind (wpAny_field S.Z rfl (x := .ref TO) rfl (wpAny_bind (wpAny_setField_rec S.Z (by simp) fun k1 u1 e1 => wpAny_bind ?_)))))
  have Z1 : IsZip k1 z TI TO .ellipsis := u1
  simp only [List.zipIdx_cons, List.zipIdx_nil, List.forIn_cons, List.forIn_nil]; refine wpAny_bind (wpAny_bind (wpAny_onRaise ?_))
  show wpAny _ _ (Builtin.SmallTypes.nextOf (.ref i) >>= _) _ _ _
  have apart : ∀ {k : Heap} {e : Addr} {oe : Obj}, IsZip k z TI TO .ellipsis → k.get? e = some oe → oe.cls = .type "StopIteration" → e ≠ z := fun {k e oe} hz h1 h2 h3 => by
    rw [h3, show k.get? z = _ from hz] at h1
    cases h1
    exact absurd (show Value.type "zip" = .type "StopIteration" from h2) (by decide)
  cases hx : xs[n]? with
  | none =>
    refine wpAny_bind (nextOf_tuple_end hh (S.P.extBut e1.extBut D.i1z) (hp.extBut e1.extBut D.l1z) hx fun k2 e e2 ⟨oe, h1, h2⟩ => ?_)
    have Z2 : IsZip k2 z TI TO .ellipsis := e2 _ _ D.i1z.symm Z1
    exact wpAny_setField_rec Z2 (by simp) fun k3 _ e3 => q k3 e (fun c o c0 x => e3.extBut _ _ c0.1 (e2 _ _ c0.2.2.1 (e1.extBut _ _ c0.1 x))) ⟨oe, e3.extBut _ _ (apart Z2 h1 h2) h1, h2⟩
  | some x =>
    have hy : ys[n]? = none := he.resolve_left (by rw [hx]; exact nofun)
    refine wpAny_bind (nextOf_tuple_item (S.P.extBut e1.extBut D.i1z) (hp.extBut e1.extBut D.l1z) hx fun k2 P2 e2 => wpAny_pure ?_)
    have O2 : IsPair k2 TO a b := e2.extBut _ _ D.TOi1 (e1.extBut _ _ D.TOz hO)
    refine wpAny_bind (wpAny_seqItems O2 rfl (wpAny_bind (wpAny_updateSeq_pair O2 fun k3 u3 e3 => wpAny_bind (wpAny_letGo (wpAny_pure (wpAny_bind (wpAny_bind (wpAny_onRaise ?_))))))))
    have up3 : ∀ c o, c ≠ z → c ≠ TO → c ≠ i → s.heap.get? c = some o → k3.get? c = some o := fun c o c0 c1 c2 e => e3.extBut _ _ c1 (e2.extBut _ _ c2 (e1.extBut _ _ c0 e))
    show wpAny _ _ (Builtin.SmallTypes.nextOf (.ref j) >>= _) _ _ _
    refine wpAny_bind (wpAny_nextOf_list_end hh (S.L.at fun o e => up3 j o D.i2z D.TOi2.symm D.i12.symm e) (hl.at fun o e => up3 l o D.l2z D.l2TO D.l2i1 e) hy fun k4 e e4 ⟨oe, h1, h2⟩ => ?_)
    have Z4 : IsZip k4 z TI TO .ellipsis := e4 _ _ D.i2z.symm (e3.extBut _ _ D.TOz.symm (e2.extBut _ _ D.i1z.symm Z1))
    exact wpAny_setField_rec Z4 (by simp) fun k5 _ e5 => q k5 e (fun c o c0 x => e5.extBut _ _ c0.1 (e4 _ _ c0.2.2.2 (up3 c o c0.1 c0.2.1 c0.2.2.1 x))) ⟨oe, e5.extBut _ _ (apart Z4 h1 h2) h1, h2⟩
theorem nxt {z TI TO i j p l : Addr} {n : Nat} {xs ys : Array Value} {x y : Value} {Q : Option Value → Shared → Prop} (D : ZipApart z TI TO i j p l) (S : Zst s.heap z TI TO i j p l n .none)
    (hp : s.heap.IsTuple p xs) (hl : s.heap.IsList l ys) (hx : xs[n]? = some x) (hy : ys[n]? = some y)
    (q : ∀ h', Zst h' z TI TO i j p l (n + 1) (rawInt s.heap.objs.size) → IsPair h' s.heap.objs.size x y → h'.objs.size = s.heap.objs.size + 1 →
      (∀ c o, c ≠ z ∧ c ≠ TO ∧ c ≠ i ∧ c ≠ j → s.heap.get? c = some o → h'.get? c = some o) → Q (some (.ref s.heap.objs.size)) { s with heap := h' }) : wpAny (model prog w) A (pyNext (.ref z)) Q E s := by
  unfold pyNext
  refine wpAny_bind (wpAny_attempt (wpAny_callSpecial?_slot (name := Str.ofString "__next__") ⟨_, S.Z, rfl⟩ F.slot_zip_next (wpAny_call_entry F.slot_zip_next ⟨_, S.Z, rfl⟩ F.entry_zip_next ?_ (F.args_zip_next_1 _))))
  exact step D S hp hl hx hy fun h' a b c d => wpAny_pure (q h' a b c d)
theorem nxtE {z TI TO i j p l : Addr} {n : Nat} {xs ys : Array Value} {Q : Option Value → Shared → Prop} (hh : A.handled = none) (D : ZipApart z TI TO i j p l) (S : Zst s.heap z TI TO i j p l n .none)
    (hp : s.heap.IsTuple p xs) (hl : s.heap.IsList l ys) (he : xs[n]? = none ∨ ys[n]? = none)
    (q : ∀ h', (∀ c o, c ≠ z ∧ c ≠ TO ∧ c ≠ i ∧ c ≠ j → s.heap.get? c = some o → h'.get? c = some o) → Q none { s with heap := h' }) : wpAny (model prog w) A (pyNext (.ref z)) Q E s := by
  unfold pyNext
  refine wpAny_bind (wpAny_attempt (wpAny_callSpecial?_slot (name := Str.ofString "__next__") ⟨_, S.Z, rfl⟩ F.slot_zip_next (wpAny_call_entry F.slot_zip_next ⟨_, S.Z, rfl⟩ F.entry_zip_next ?_ (F.args_zip_next_1 _))))
  exact stop hh D S hp hl he fun h' e k ⟨o, h1, h2⟩ => wpAny_bind (wpAny_isInstance (T := "StopIteration") (b := true) ⟨o, h1, h2⟩ isSubtype_stop (wpAny_pure (q _ k)))
end
/-- the heap with the five new objects -/
def mk1 (h : Heap) (p : Addr) : Heap := h.push { cls := .type "tuple_iterator", data := .fields #[.ref p, .int 0 0] }
def mk2 (h : Heap) (p l : Addr) : Heap := (mk1 h p).push { cls := .type "list_iterator", data := .fields #[.ref l, .int 0 0] }
def mk3 (h : Heap) (p l : Addr) : Heap := (mk2 h p l).push { cls := .type "tuple", data := .seq #[.ref h.objs.size, .ref (mk1 h p).objs.size] }
def mk4 (h : Heap) (p l : Addr) : Heap := (mk3 h p l).push { cls := .type "tuple", data := .seq #[.none, .none] }
def mk5 (h : Heap) (p l : Addr) : Heap := (mk4 h p l).push { cls := .type "zip", data := .fields #[.none, .bool false, .bool false, .ref (mk2 h p l).objs.size, .ref (mk3 h p l).objs.size] }
theorem made (p l : Addr) (xs ys : Array Value) : Meets (Builtin.«zip.__new__» ⟨[.type "zip", .ref p, .ref l], []⟩) (fun _ R s => s.heap.IsTuple p xs ∧ s.heap.IsList l ys ∧ R (.ok (.ret (.ref (mk4 s.heap p l).objs.size))) { s with heap := mk5 s.heap p l }) :=
  .of_wp fun prog w A R s hyp => by
    obtain ⟨hp, g, d, tk, os⟩ := s
    obtain ⟨a1, a2, a3⟩ := hyp
    have hsub := sub_zip
    have b1 : Heap.IsTuple (Shared.heap ⟨hp, g, d, tk, os⟩) p xs := a1
    have b2 : Heap.IsList (Shared.heap ⟨hp.push { cls := .type "tuple_iterator", data := .fields #[.ref p, .int 0 0] }, g, d, tk, os⟩) l ys := Heap.IsList.push a2 _
    wp_walk using wpAny_pyIter_tuple b1, wpAny_pyIter_list b2
    exact ⟨_, rfl, a3⟩
theorem mk_all (h : Heap) (p l : Addr) : Zst (mk5 h p l) (h.objs.size + 4) (h.objs.size + 2) (h.objs.size + 3) h.objs.size (h.objs.size + 1) p l 0 .none ∧ (mk4 h p l).objs.size = h.objs.size + 4 ∧ ∀ c o, h.get? c = some o → (mk5 h p l).get? c = some o := by
  have s1 : (mk1 h p).objs.size = h.objs.size + 1 := Heap.size_push ..
  have s2 : (mk2 h p l).objs.size = h.objs.size + 2 := by unfold mk2; rw [Heap.size_push, s1]
  have s3 : (mk3 h p l).objs.size = h.objs.size + 3 := by unfold mk3; rw [Heap.size_push, s2]
  have s4 : (mk4 h p l).objs.size = h.objs.size + 4 := by unfold mk4; rw [Heap.size_push, s3]
  have u45 : ∀ c o, (mk4 h p l).get? c = some o → (mk5 h p l).get? c = some o := fun c o e => Heap.get?_push_of_some _ e
  have u35 : ∀ c o, (mk3 h p l).get? c = some o → (mk5 h p l).get? c = some o := fun c o e => u45 c o (Heap.get?_push_of_some _ e)
  have u25 : ∀ c o, (mk2 h p l).get? c = some o → (mk5 h p l).get? c = some o := fun c o e => u35 c o (Heap.get?_push_of_some _ e)
  have u15 : ∀ c o, (mk1 h p).get? c = some o → (mk5 h p l).get? c = some o := fun c o e => u25 c o (Heap.get?_push_of_some _ e)
  refine ⟨⟨?_, ?_, ⟨Value.none, Value.none, ?_⟩, ?_, ?_⟩, s4, fun c o e => u15 c o (Heap.get?_push_of_some _ e)⟩
  · show (mk5 h p l).get? (h.objs.size + 4) = _
    rw [← s4, ← s2, ← s3]
    exact Heap.get?_push_size _ rfl
  · show (mk5 h p l).get? (h.objs.size + 2) = _
    rw [← s2, ← s1]
    exact u35 _ _ (Heap.get?_push_size _ rfl)
  · show (mk5 h p l).get? (h.objs.size + 3) = _
    rw [← s3]
    exact u45 _ _ (Heap.get?_push_size _ rfl)
  · exact ⟨_, u15 _ _ (Heap.get?_push_size _ rfl), rfl, rfl⟩
  · exact ⟨_, by rw [← s1]; exact u25 _ _ (Heap.get?_push_size _ rfl), rfl, rfl⟩
section
variable {prog : Program} {w : World} {A : Around} {E : Value → Shared → Prop} {s : Shared}
theorem calls {p l : Addr} {xs ys : Array Value} {Q : Value → Shared → Prop} (hp : s.heap.IsTuple p xs) (hl : s.heap.IsList l ys) (q : Q (.ref (s.heap.objs.size + 4)) { s with heap := mk5 s.heap p l }) :
    wpAny (model prog w) A (call (.type "zip") [.ref p, .ref l]) Q E s := by
  refine callType_new F.called_zip (by decide) (F.typeCall_zip_2 _ _) (F.newCall_zip_2 _ _) (fun obj => F.args_object_init_3 obj _ _) F.entry_zip_new (made p l xs ys) ⟨hp, hl, ?_⟩
  have hk := mk_all s.heap p l
  show _ ∧ _
  rw [hk.2.1]
  exact ⟨⟨_, hk.1.Z, rfl⟩, q⟩
end
/-- the tuple at a and the list at b, the items in new pairs -/
def ItM (K : PySem.W.Frag) (a b : Addr) : It :=
  ⟨fun i H => ∃ (xs ys : List V) (x y : V), SqT K H a xs ∧ SqL K H b ys ∧ xs[i]? = some x ∧ ys[i]? = some y,
    fun i H v H' => ∃ T x y, v = .ref T ∧ H T = none ∧ H' = upd H T (.tup [x, y]) ∧ (∀ xs, SqT K H a xs → xs[i]? = some x) ∧ ∀ ys, SqL K H b ys → ys[i]? = some y,
    fun i H => ∃ xs ys : List V, SqT K H a xs ∧ SqL K H b ys ∧ (xs.length ≤ i ∨ ys.length ≤ i)⟩
theorem turnM {P : Program} {w : World} {K : PySem.W.Frag} {elts : List Expr} {kk : Nat} {tpos : Pos} {a b z TI TO i1 i2 : Addr} (D : ZipApart z TI TO i1 i2 a b) :
    Turn P w K (.Tuple elts kk tpos) (ItM K a b) [z, TI, TO, i1, i2] z (fun i h => Zst h z TI TO i1 i2 a b i .none) where
  mem := List.mem_cons_self ..
  obj := fun i h S c hc => by
    obtain ⟨x, y, hO⟩ := S.O
    obtain ⟨o1, e1, _, d1⟩ := S.P
    obtain ⟨o2, e2, _, d2⟩ := S.L
    simp only [List.mem_cons, List.not_mem_nil, or_false] at hc
    rcases hc with rfl | rfl | rfl | rfl | rfl
    · exact ⟨_, S.Z, fun v q => nomatch q⟩
    · exact ⟨_, S.I, fun v q => nomatch q⟩
    · exact ⟨_, hO, fun v q => nomatch q⟩
    · exact ⟨o1, e1, fun v q => by rw [d1] at q; cases q⟩
    · exact ⟨o2, e2, fun v q => by rw [d2] at q; cases q⟩
  keep := fun i h h' S k => by
    obtain ⟨x, y, hO⟩ := S.O
    exact ⟨k z (by simp) _ S.Z, k TI (by simp) _ S.I, ⟨x, y, k TO (by simp) _ hO⟩, S.P.at fun o q => k i1 (by simp) o q, S.L.at fun o q => k i2 (by simp) o q⟩
  item := by
    intro X e1 e2 e3 hc i pins s σ H E I hf S hg
    subst e1 e2 e3
    obtain ⟨xs, ys, x, y, hqx, hqy, hx, hy⟩ := hg
    obtain ⟨its, rv, p, _⟩ := I.tuple hqx
    obtain ⟨its2, rv2, p2, _⟩ := I.list hqy
    obtain ⟨u, hu, ru⟩ := rv.get hx
    obtain ⟨u2, hu2, ru2⟩ := rv2.get hy
    have lz : z < s.heap.objs.size := Heap.lt_size S.Z
    have lt : ∀ c, c ∈ [z, TI, TO, i1, i2] → c < s.heap.objs.size := fun c hc => by
      obtain ⟨x, y, hO⟩ := S.O
      simp only [List.mem_cons, List.not_mem_nil, or_false] at hc
      rcases hc with rfl | rfl | rfl | rfl | rfl
      · exact lz
      · exact Heap.lt_size S.I
      · exact Heap.lt_size hO
      · obtain ⟨_, e, _⟩ := S.P; exact Heap.lt_size e
      · obtain ⟨_, e, _⟩ := S.L; exact Heap.lt_size e
    refine nxt D S p p2.isList (x := u) (y := u2) (by simpa using hu) (by simpa using hu2) fun h1 S1 hT _ hk => ⟨_, rfl, wpAny_letOwnedTupleGo_zip (s := { s with heap := h1 }) S1.Z fun h2 Z2 sb => ?_⟩
    have T2 : h2.get? s.heap.objs.size = some { cls := .type "tuple", data := .seq #[u, u2] } := (sb.2 _ (Nat.ne_of_gt lz)).trans hT
    have ok : ObjOk X.prog X.w (upd H s.heap.objs.size (.tup [x, y])) h2 s.heap.objs.size (.tup [x, y]) := ⟨(show 2 ≤ sizeLine by decide), [u, u2], .cons ru (.cons ru2 .nil), ⟨_, T2, rfl, _, rfl⟩⟩
    have I1 : Inv X pins σ (upd H s.heap.objs.size (.tup [x, y])) { s with heap := h2 } := I.turnedNew (t' := s.toks) (ch := [z, TI, TO, i1, i2]) (fun c o hb q => (sb.2 c (fun e => hb (by simp [e]))).trans (hk c o ⟨fun e => hb (by simp [e]), fun e => hb (by simp [e]), fun e => hb (by simp [e]), fun e => hb (by simp [e])⟩ q)) hf (Nat.le_refl _) ok
    obtain ⟨a0, b0, O1⟩ := S1.O
    refine ⟨.ref s.heap.objs.size, _, I1, rfl, ⟨_, x, y, rfl, I.hok.fresh (Nat.le_refl _), rfl, fun l hl => by rw [I.tuple_inj hl hqx]; exact hx, fun l hl => by rw [I.list_inj hl hqy]; exact hy⟩, ⟨Z2, (sb.2 _ D.TIz).trans S1.I, ⟨a0, b0, (sb.2 _ D.TOz).trans O1⟩, S1.P.at fun o q => (sb.2 _ D.i1z).trans q, S1.L.at fun o q => (sb.2 _ D.i2z).trans q⟩, fun c hc => ?_⟩
    rw [upd_ne (Nat.ne_of_lt (lt c hc))]
    exact (hf c hc).1
  done := by
    intro X e1 e2 e3 hc i pins s σ H E I hf S hg
    subst e1 e2 e3
    obtain ⟨xs, ys, hqx, hqy, hend⟩ := hg
    obtain ⟨its, rv, p, _⟩ := I.tuple hqx
    obtain ⟨its2, rv2, p2, _⟩ := I.list hqy
    have l1 := rv.length
    have l2 := rv2.length
    have he : its.toArray[i]? = none ∨ its2.toArray[i]? = none := hend.elim (fun q => .inl (by simp; omega)) (fun q => .inr (by simp; omega))
    exact nxtE (I.ok.hd hc) D S p p2.isList he fun h' hk => ⟨rfl, I.turnedL (t' := s.toks) (ch := [z, TI, TO, i1, i2]) (fun c o hb q => hk c o ⟨fun e => hb (by simp [e]), fun e => hb (by simp [e]), fun e => hb (by simp [e]), fun e => hb (by simp [e])⟩ q) hf⟩
  self := fun A i s Q E S h => wpAny_pyIter_zip S.Z h
def iZipM (K : PySem.W.Frag) (ta : TA) : TI := fun σ H R => ta σ H fun vs H1 => ∃ a b xs ys, vs = [.ref a, .ref b] ∧ SqT K H1 a xs ∧ SqL K H1 b ys ∧ R (ItM K a b) H1
theorem pi_zipM {X : Cx} {e e2 : Expr} {ta : TA} {p pos tpos : Pos} {elts : List Expr} {kk : Nat} (hg : Gl X "zip") (hm : X.mg "zip" = none) (ha : PA X [e, e2] ta)
    (hs : starEach [e, e2] X.env = (false, eval e X.env) :: starEach [e2] X.env := by rfl) (hpl : (backTo pos (starEach [e2] X.env)).any (·.1) = false := by rfl) :
    PI X (.Tuple elts kk tpos) (.Call (.Name "zip" p) [e, e2] [] pos) (iZipM X.K ta) := by
  refine ⟨fun pins s σ H R I h => Call_ (ld_blt I hg hm PyProof.Rows.boot_zip (PyProof.Rows.callWith_type1 (thn (ha.run pos pins s σ H _ I h) fun us s1 ⟨vs, H1, I1, r1, a, b, xs, ys, ex, hqx, hqy, q⟩ => ?_) hs hpl))⟩
  subst ex
  obtain ⟨ua, ub, rfl, ra, rb⟩ : ∃ ua ub, us = [ua, ub] ∧ RelV (.ref a) ua ∧ RelV (.ref b) ub := by
    cases r1 with
    | cons r rr =>
      cases rr with
      | cons r' rr => cases rr; exact ⟨_, _, rfl, r, r'⟩
  obtain rfl : ua = .ref a := ra
  obtain rfl : ub = .ref b := rb
  obtain ⟨its, rv, p1, _⟩ := I1.tuple hqx
  obtain ⟨its2, rv2, p2, _⟩ := I1.list hqy
  obtain ⟨S, _, hk⟩ := mk_all s1.heap a b
  refine calls p1 p2.isList (wpAny_pyIter_zip S.Z ?_)
  have I2 : Inv X pins σ H1 { s1 with heap := mk5 s1.heap a b } := I1.kept (t' := s1.toks) hk
  obtain ⟨o1, ho1, _⟩ := id p1
  refine ⟨s1.heap.objs.size + 4, [s1.heap.objs.size + 4, s1.heap.objs.size + 2, s1.heap.objs.size + 3, s1.heap.objs.size, s1.heap.objs.size + 1], _, _, H1, rfl, I2, turnM (PySem.W.ktu_apart s1.heap.objs.size a b (Heap.lt_size ho1) p2.lt), S, fun c hc => ?_, q⟩
  have hle : s1.heap.objs.size ≤ c := by
    simp only [List.mem_cons, List.not_mem_nil, or_false] at hc
    rcases hc with e | e | e | e | e <;> rw [e] <;> first | exact Nat.le_add_right _ _ | exact Nat.le_refl _
  exact I1.fpOk hle (I1.hok.fresh hle)
theorem walkM {K : PySem.W.Frag} {a b : Addr} {xs ys : List V} {n : Nat} (hn : n = min xs.length ys.length) : Walk (ItM K a b) n (fun H => SqT K H a xs ∧ SqL K H b ys) (YPair (fun i => xs[i]?) (fun i => ys[i]?)) := by
  subst hn
  refine ⟨fun i _ hi q => ?_, fun _ q => ⟨xs, ys, q.1, q.2, by omega⟩, fun i H v H' _ q ⟨T, x, z, h1, h2, h3, h4, h5⟩ => ⟨T, x, z, h1, h2, h3, h4 xs q.1, h5 ys q.2⟩⟩
  exact ⟨xs, ys, xs[i]'(by omega), ys[i]'(by omega), q.1, q.2, List.getElem?_eq_getElem _, List.getElem?_eq_getElem _⟩
end ZMix

namespace Wp
open PySem PySem.Spec PyProof.Rows L2 TyNe He

/-! ### tuples and tables of the module -/
/-- a tuple of the module -/
structure TupK (K : PySem.W.Frag) (a : Addr) (xs : List V) : Prop where
  ex : ∃ (o : Obj) (its : Array Value) (n : Nat), K.lookup a = some o ∧ o.cls = .type "tuple" ∧ o.data = .seq its n ∧ its.size ≤ sizeLine ∧ Vals xs its.toList
theorem TupK.sq {K : PySem.W.Frag} {a : Addr} {xs : List V} {H : Hp} (h : TupK K a xs) : SqT K H a xs := .inr h.ex
theorem TupK.mk' {K : PySem.W.Frag} {a : Addr} {xs : List V} {od : Option Addr} {its : Array Value} {n : Nat} {sl : Array (Option Value)} (h : K.lookup a = some ⟨.type "tuple", od, .seq its n, sl⟩) (hz : its.size ≤ 1000) (hv : Vals xs its.toList) : TupK K a xs :=
  ⟨_, its, n, h, rfl, rfl, Nat.le_trans hz (by decide), hv⟩
def tabG (kv : List (Str × V)) : Str → Option V := fun z => (kv.find? fun p => decide (p.1 = z)).map (·.2)
def rTab (A : Addr) (g : Str → Option V) : R2 := fun x y H Q => ∃ z v, x = .ref A ∧ y = .str z ∧ g z = some v ∧ Q v H
theorem ix_tab {X : Cx} {A : Addr} {g : Str → Option V} (M : MDict X.K X.w A g) : IxR X (rTab A g) := by
  intro e1 e2 pins s σ H x y v u Q I rx ry ⟨z, r, ex, ey, hg, q⟩ hs
  obtain ⟨es, n, D, hn⟩ := M.ex
  obtain ⟨t, h1, h2⟩ := hn z
  rw [hg] at h2
  cases t with
  | none => exact h2.elim
  | some t => exact ix_kdict e1 e2 pins s σ H x y v u Q I rx ry ⟨A, z, r, ex, ey, ⟨es, n, t, D.at_, D.lit, h1, h2⟩, q⟩ hs
/-- the entries of a table -/
def EntLit (P : Params) : List DictEntry → List (Str × V) → Prop
  | [], [] => True
  | e :: r, p :: s => (∃ t, e.key = .str p.1 t ∧ e.hash = PyData.keyHash P p.1 ∧ RelV p.2 e.val) ∧ EntLit P r s
  | _, _ => False
theorem EntLit.keys {P : Params} : ∀ {l : List DictEntry} {kv : List (Str × V)}, EntLit P l kv → PySem.W.KeysLit P l
  | [], [], _ => trivial
  | e :: r, p :: s, h => ⟨by obtain ⟨⟨t, h1, h2, _⟩, _⟩ := h; exact ⟨_, t, h1, h2⟩, EntLit.keys h.2⟩
  | [], _ :: _, h => h.elim
  | _ :: _, [], h => h.elim
theorem EntLit.find {P : Params} (z : Str) : ∀ {l : List DictEntry} {kv : List (Str × V)}, EntLit P l kv → RelO ((kv.find? fun p => decide (p.1 = z)).map (·.2)) ((l.find? (·.key.isStr z)).map (·.val)) ∧ l.any (·.refKey) = false
  | [], [], _ => ⟨trivial, rfl⟩
  | e :: r, p :: s, h => by
    obtain ⟨⟨t, h1, h2, h3⟩, h4⟩ := h
    obtain ⟨i1, i2⟩ := EntLit.find z h4
    have hr : e.refKey = false := by unfold DictEntry.refKey; rw [h1]
    refine ⟨?_, by rw [List.any_cons, hr, i2]; rfl⟩
    rw [List.find?_cons, List.find?_cons]
    have hs : e.key.isStr z = decide (p.1 = z) := by
      rw [h1]
      show (p.1 == z) = _
      by_cases q : p.1 = z
      · rw [q, decide_eq_true rfl]; exact beq_self_eq_true z
      · rw [decide_eq_false q]; exact beq_eq_false_iff_ne.mpr q
    rw [hs]
    cases decide (p.1 = z)
    · exact i1
    · exact h3
  | [], _ :: _, h => h.elim
  | _ :: _, [], h => h.elim
theorem mdictL {K : PySem.W.Frag} {w : World} {d : Addr} {es : Array DictEntry} {n : Nat} {kv : List (Str × V)} (hl : K.lookup d = some ⟨.type "dict", none, .dict es n, #[]⟩) (he : EntLit w.params es.toList kv) (low : (d == sysModules) = false) : MDict K w d (tabG kv) := by
  refine ⟨es, n, ⟨hl, he.keys, low⟩, fun z => ?_⟩
  obtain ⟨h1, h2⟩ := he.find z
  refine ⟨_, ?_, h1⟩
  unfold PySem.W.nsIn
  rw [hl]
  dsimp only
  cases es.toList.find? (·.key.isStr z) with
  | some e => rfl
  | none => rw [h2]; rfl
/-! ### texts -/
abbrev tJS (ts : List TE) : TE := fun σ H Q => tJs ts Str.empty σ H fun out H1 => Q (.str out) H1
abbrev qJoin (K : PySem.W.Frag) : V → List V → Hp → VK → Prop := fun x xs H Q => ∃ a p, ∃ ys : List Str, x = .str a ∧ xs = [.ref p] ∧ (SqL K H p (ys.map V.str) ∨ SqT K H p (ys.map V.str)) ∧ (ys.map (·.length)).sum + ys.length * a.length ≤ 16777216 ∧ Q (.str (Txt.join a ys)) H
abbrev qCount : V → List V → Hp → VK → Prop := fun x xs H Q => ∃ a b, x = .str a ∧ xs = [.str b] ∧ Q (.int (Txt.count a b)) H
abbrev qSplit : V → List V → Hp → VK → Prop := fun x xs H Q => ∃ a b, x = .str a ∧ xs = [.str b] ∧ (b.length == 0) = false ∧ a.length + 2 ≤ sizeLine ∧ rNewStrs (Txt.split a b) H Q
abbrev qStarts : V → List V → Hp → VK → Prop := fun x xs H Q => ∃ a b, x = .str a ∧ xs = [.str b] ∧ Q (.bl (Txt.startswith a b)) H
section
variable {K : PySem.W.Frag} {σ : L2.St} {H : Hp} {Q : VK} {te : TE} {ts : List TE}
theorem w_js (q : tJs ts Str.empty σ H fun out H1 => Q (.str out) H1) : tJS ts σ H Q := q
theorem w_jcons {acc : Str} {R : Str → Hp → Prop} (q : te σ H fun x H1 => ∃ y : Str, x = .str y ∧ (acc ++ y).length ≤ sizeLine ∧ tJs ts (acc ++ y) σ H1 R) : tJs (te :: ts) acc σ H R := q
theorem w_jnil {acc : Str} {R : Str → Hp → Prop} (q : R acc H) : tJs [] acc σ H R := q
theorem w_jy {acc y : Str} {R : Str → Hp → Prop} (h : (acc ++ y).length ≤ 100000) (q : tJs ts (acc ++ y) σ H R) : ∃ z : Str, V.str y = .str z ∧ (acc ++ z).length ≤ sizeLine ∧ tJs ts (acc ++ z) σ H R := ⟨y, rfl, sz h, q⟩
theorem w_fmt (q : te σ H fun x H1 => (∃ y : Str, x = .str y ∧ y.length ≤ sizeLine ∧ Q (.str y) H1) ∨ ∃ i : Int, x = .int i ∧ i.natAbs.log2 < 1920 ∧ Q (.str (toString i)) H1) : tFmt te σ H Q := q
theorem w_fmtS {y : Str} {A : Prop} {R : Str → Prop} (h : y.length ≤ 100000) (q : R y) : (∃ z : Str, V.str y = .str z ∧ z.length ≤ sizeLine ∧ R z) ∨ A := .inl ⟨y, rfl, sz h, q⟩
theorem log_small {i : Int} (h0 : 0 ≤ i) (h1 : i ≤ 100000000000000000000) : i.natAbs.log2 < 1920 := by
  have h2 : i.natAbs ≤ 100000000000000000000 := by omega
  have h3 : i.natAbs.log2 < 67 := by
    by_cases h : i.natAbs = 0
    · rw [h]; decide
    · exact (Nat.log2_lt h).mpr (Nat.lt_of_le_of_lt h2 (by decide))
  omega
theorem w_fmtI {i : Int} {A : Prop} {R : Int → Prop} (h0 : 0 ≤ i) (h1 : i ≤ 100000000000000000000) (q : R i) : A ∨ ∃ j : Int, V.int i = .int j ∧ j.natAbs.log2 < 1920 ∧ R j := .inr ⟨i, rfl, log_small h0 h1, q⟩
theorem int_len {i : Int} (h0 : 0 ≤ i) (h1 : i ≤ 100000000000000000000) : (Str.ofString (toString i)).length ≤ 70 := by
  have h2 : i.natAbs.log2 < 67 := by
    by_cases h : i.natAbs = 0
    · rw [h]; decide
    · exact (Nat.log2_lt h).mpr (Nat.lt_of_le_of_lt (show i.natAbs ≤ 100000000000000000000 by omega) (by decide))
  have e := int_text_length_le (k := 67) (by decide) h2
  rw [PySem.ofString_length]
  omega
theorem w_joinL {a : Str} {p : Addr} {ys : List Str} (h : SqL K H p (ys.map V.str)) (z : (ys.map (·.length)).sum + ys.length * a.length ≤ 100000) (q : Q (.str (Txt.join a ys)) H) : qJoin K (.str a) [.ref p] H Q := ⟨a, p, ys, rfl, rfl, .inl h, Nat.le_trans z (by decide), q⟩
theorem w_joinT {a : Str} {p : Addr} {ys : List Str} (h : SqT K H p (ys.map V.str)) (z : (ys.map (·.length)).sum + ys.length * a.length ≤ 100000) (q : Q (.str (Txt.join a ys)) H) : qJoin K (.str a) [.ref p] H Q := ⟨a, p, ys, rfl, rfl, .inr h, Nat.le_trans z (by decide), q⟩
theorem w_count {a b : Str} (q : Q (.int (Txt.count a b)) H) : qCount (.str a) [.str b] H Q := ⟨a, b, rfl, rfl, q⟩
theorem strKind_pos (a : Str) : 1 ≤ Builtin.Str.strKind a := by
  unfold Builtin.Str.strKind
  split
  · exact Nat.le_refl _
  · split <;> decide
theorem w_split {a b : Str} (h : (b.length == 0) = false) (z : a.length ≤ 100000) (q : ∀ p, H p = none → Q (.ref p) (upd H p (.lst ((Txt.split a b).map V.str)))) : qSplit (.str a) [.str b] H Q :=
  ⟨a, b, rfl, rfl, h, Nat.le_trans (Nat.add_le_add_right z 2) (by decide), q⟩
theorem w_tab {A : Addr} {g : Str → Option V} {z : Str} {v : V} (h : g z = some v) (q : Q v H) : rTab A g (.ref A) (.str z) H Q := ⟨z, v, rfl, rfl, h, q⟩
theorem w_catA {a b : Addr} {xs ys : List V} (h : SqT K H a xs) (h' : SqT K H b ys) (z : xs.length + ys.length ≤ 1000) (q : ∀ p H', Same H H' → SqT K H' p (xs ++ ys) → Q (.ref p) H') : rCatA K (.ref a) (.ref b) H Q := by
  refine ⟨a, b, xs, ys, rfl, rfl, h, h', Nat.le_trans z (by decide), fun e => ?_, fun _ e => ?_, fun _ _ p hp => ?_⟩
  · subst e
    exact q b H (Same.refl H) h'
  · subst e
    rw [List.append_nil] at q
    exact q a H (Same.refl H) h
  · exact q p _ (Same.upd (Same.refl H) hp) (SqT.of upd_same)
end
/-! ### new objects as heaps of their own; tests that are known -/
theorem Same.get {H H' : Hp} {a : Addr} {o : HO} (h : Same H H') (e : H a = some o) : H' a = some o := h _ _ e
section
variable {K : PySem.W.Frag} {σ : L2.St} {H : Hp} {Q : VK} {v : V} {tr : TA}
/-- a new object -/
def New (H : Hp) (o : HO) (R : Addr → Hp → Prop) : Prop := ∀ p, H p = none → R p (upd H p o)
theorem w_new {o : HO} {R : Addr → Hp → Prop} (q : ∀ p H2, H p = none → Same H H2 → H2 p = some o → R p H2) : New H o R := fun p hp => q p _ hp (Same.upd (Same.refl H) hp) upd_same
theorem newT {t : Addr} {o : HO} (ht : H t = none) : ∃ G, G = upd H t o ∧ Same H G ∧ G t = some o := ⟨_, rfl, Same.upd (Same.refl H) ht, upd_same⟩
theorem Same.sqT {H H' : Hp} {a : Addr} {xs : List V} (e : Same H H') (h : SqT K H a xs) : SqT K H' a xs := h.elim (fun r => .inl (r.elim (fun r => .inl (e _ _ r)) fun ⟨o, r⟩ => .inr ⟨o, e _ _ r⟩)) .inr
theorem w_zipM {ta : TA} {R : It → Hp → Prop} (q : ta σ H fun vs H1 => ∃ a b xs ys, vs = [.ref a, .ref b] ∧ SqT K H1 a xs ∧ SqL K H1 b ys ∧ R (ZMix.ItM K a b) H1) : ZMix.iZipM K ta σ H R := q
theorem w_tupV (q : tr σ H fun xs H1 => xs.length ≤ sizeLine ∧ New H1 (.tup xs) fun p H2 => Q (.ref p) H2) : tTup tr σ H Q := q
theorem w_lstV (q : tr σ H fun xs H1 => xs.length ≤ sizeLine ∧ New H1 (.lst xs) fun p H2 => Q (.ref p) H2) : tLst tr σ H Q := q
theorem w_appV {p : Addr} {xs : List V} (h : H p = some (.lst xs)) (z : xs.length ≤ 100000) (q : ∀ H2, Kp p H H2 → H2 p = some (.lst (xs ++ [v])) → Q .non H2) : rAppend (.ref p) [v] H Q :=
  ⟨p, xs, v, rfl, rfl, h, Nat.lt_of_le_of_lt z (by decide), q _ Kp.refl.updp upd_same⟩
theorem w_catV {l b : Addr} {xs zs : List V} (h : H l = some (.lst xs)) (h' : H b = some (.lst zs)) (z : xs.length + zs.length ≤ 1000000) (q : ∀ p H2, H p = none → Same H H2 → H2 p = some (.lst (xs ++ zs)) → Q (.ref p) H2) : rCat (.ref l) (.ref b) H Q :=
  ⟨l, b, xs, zs, rfl, rfl, h, h', Nat.le_trans z (by decide), fun p hp => q p _ hp (Same.upd (Same.refl H) hp) upd_same⟩
theorem w_listOfV {p : Addr} {ys : List V} (h : SqL K H p ys ∨ SqT K H p ys) (q : ∀ l H2, H l = none → Same H H2 → H2 l = some (.lst ys) → Q (.ref l) H2) : qListOf K [.ref p] H Q :=
  ⟨p, ys, rfl, h, fun l hl => q l _ hl (Same.upd (Same.refl H) hl) upd_same⟩
theorem w_slTV {a : Addr} {xs : List V} {lo hi : Option Int} (h : SqT K H a xs) (n : ¬ (HT.sIx xs.length 0 lo = 0 ∧ HT.sIx xs.length xs.length hi = xs.length)) (q : ∀ p H2, H p = none → Same H H2 → H2 p = some (.tup (cutV xs lo hi)) → Q (.ref p) H2) : rSlT K (.ref a) lo hi H Q :=
  ⟨a, xs, rfl, h, n, fun p hp => q p _ hp (Same.upd (Same.refl H) hp) upd_same⟩
theorem w_slLV {a : Addr} {xs : List V} {lo hi : Option Int} (h : SqL K H a xs) (q : ∀ p H2, H p = none → Same H H2 → H2 p = some (.lst (cutV xs lo hi)) → Q (.ref p) H2) : rSlL K (.ref a) lo hi H Q :=
  ⟨a, xs, rfl, h, fun p hp => q p _ hp (Same.upd (Same.refl H) hp) upd_same⟩
theorem w_splitV {a b : Str} (h : (b.length == 0) = false) (z : a.length ≤ 100000) (q : ∀ p H2, H p = none → Same H H2 → H2 p = some (.lst ((Txt.split a b).map V.str)) → Q (.ref p) H2) : qSplit (.str a) [.str b] H Q :=
  ⟨a, b, rfl, rfl, h, Nat.le_trans (Nat.add_le_add_right z 2) (by decide), fun p hp => q p _ hp (Same.upd (Same.refl H) hp) upd_same⟩
theorem w_inTb {p : Addr} {xs : List V} {b : Bool} (h : SqT K H p xs) (f : flatV v = true) (fs : xs.all flatV = true) (e : inV v xs = b) (q : Q (.bl b) H) : rIn K false v (.ref p) H Q := w_inT h f fs (by rw [e]; exact q)
theorem w_inLb {p : Addr} {xs : List V} {b : Bool} (h : SqL K H p xs) (f : flatV v = true) (fs : xs.all flatV = true) (e : inV v xs = b) (q : Q (.bl b) H) : rIn K false v (.ref p) H Q := w_inL h f fs (by rw [e]; exact q)
theorem w_dec1 {c A B : Prop} [Decidable c] (h : c) (q : A) : if decide c = true then A else B := by rw [if_pos (decide_eq_true h)]; exact q
theorem w_dec0 {c A B : Prop} [Decidable c] (h : ¬ c) (q : B) : if decide c = true then A else B := by rw [if_neg (by rw [decide_eq_true_iff]; exact h)]; exact q
end
/-! ### join -/
theorem join_nil (a : Str) : Txt.join a [] = Str.empty := by rfl
theorem join_eq (a : Str) (ys : List Str) : Txt.join a ys = Str.join a ys := StrLaws.glued_eq_join a ys
theorem join_len (a : Str) (ys : List Str) : (Txt.join a ys).length ≤ (ys.map (·.length)).sum + ys.length * a.length := by
  rw [join_eq]
  exact StrLaws.join_length_le a ys
theorem sum_le {α : Type} (f : α → Nat) (m : Nat) : ∀ {l : List α}, (∀ x ∈ l, f x ≤ m) → (l.map f).sum ≤ l.length * m
  | [], _ => Nat.zero_le _
  | x :: l, h => by
    rw [List.map_cons, List.sum_cons, List.length_cons, Nat.succ_mul]
    have := sum_le f m (l := l) fun y hy => h y (List.mem_cons_of_mem _ hy)
    have := h x (List.mem_cons_self ..)
    omega
/-! ### lines of a text -/
theorem split_len {a b : Str} (hb : b.length = 1) (hk : ¬ (Builtin.Str.strKind a < Builtin.Str.strKind b)) : ((Txt.split a b).length : Int) = Txt.count a b + 1 := by
  unfold Txt.split Txt.count
  by_cases h : a.length < b.length
  · have h0 : a.length = 0 := by omega
    rw [if_pos (by rw [decide_eq_true h]; rfl)]
    have e : a = ⟨#[]⟩ := by
      obtain ⟨c⟩ := a
      have : c.size = 0 := h0
      rw [Array.size_eq_zero_iff] at this
      rw [this]
    subst e
    have : Builtin.Str.occurrences ⟨#[]⟩ b 0 (⟨#[]⟩ : Str).length ((⟨#[]⟩ : Str).length + 1) = [] := by
      unfold Builtin.Str.occurrences
      show (Id.run do _) = _
      simp [Str.length, hb]
      have h1 : b.cps.size = 1 := hb
      have h2 : b.cps ≠ #[] := fun e => by rw [e] at h1; exact nomatch h1
      simp [h2]
    rw [this]
    rfl
  · rw [if_neg (by rw [decide_eq_false h, decide_eq_false hk]; decide)]
    by_cases h2 : (Builtin.Str.occurrences a b 0 a.length (a.length + 1)).isEmpty = true
    · rw [if_pos h2, List.isEmpty_iff.mp h2]
      rfl
    · rw [if_neg h2]
      unfold Builtin.Str.partsBetween
      simp only [List.length_map, List.length_zip, List.length_cons, List.length_append, List.length_map, List.length_nil]
      omega
theorem split_lines (a : Str) : ((Txt.split a (Str.ofString "\n")).length : Int) = Txt.count a (Str.ofString "\n") + 1 := split_len rfl fun h => by
  have h1 := strKind_pos a
  have h2 : Builtin.Str.strKind (Str.ofString "\n") = 1 := by decide +kernel
  omega
theorem count_le (a : Str) : 0 ≤ Txt.count a (Str.ofString "\n") ∧ Txt.count a (Str.ofString "\n") ≤ a.length + 1 := by
  have h1 := split_lines a
  have h2 := PyProof.Rows.split_le a (Str.ofString "\n")
  refine ⟨by unfold Txt.count; exact Int.natCast_nonneg _, by omega⟩
end Wp

namespace Wp
open PySem PySem.Spec PyProof.Rows L2 TyNe HT
section
variable {prog : Program} {w : World} {A : Around} {E : Value → Shared → Prop} {s : Shared}
/-- t[lo:hi] that is all of t is t -/
theorem slice_whole {t k : Addr} {its : Array Value} {vl vu : Value} {lo hi : Option Int} {Q : Value → Shared → Prop} (ht : IsTup s.heap t its) (hs : s.heap.IsSliceOf k vl vu .none) (pl : IsPart vl lo) (pu : IsPart vu hi)
    (hw : HT.sIx its.size 0 lo = 0 ∧ HT.sIx its.size its.size hi = its.size) (q : Q (.ref t) s) : wpAny (model prog w) A (getItem (.ref t) (.ref k)) Q E s := by
  obtain ⟨os, hos, hcs, hds⟩ := id hs
  obtain ⟨ot, hot, hct, n, hdt⟩ := id ht
  have tk : s.TypeIs (.ref k) "slice" := ⟨os, hos, hcs⟩
  unfold getItem
  try with_reducible refine wpAny_holding ?_
  first | refine wpAny_bind (wpAny_pure ?_) | skip
  refine wpAny_bind (wpAny_sequenceKey ht.typeIs (by decide) (wpAny_bind (wpAny_callSpecial?_slot (name := Str.ofString "__getitem__") ht.typeIs slot_tuple_getitem (wpAny_call_entry slot_tuple_getitem ht.typeIs PyProof.Rows.entry_tuple_getitem ?_ (PyProof.Rows.args_tuple_getitem _ _)))))
  show wpAny _ _ (Builtin.Tuple.tupleItemsOf (.ref t) >>= _) _ _ s
  refine wpAny_bind (tupleItemsOf_ ht (wpAny_bind (wpAny_typeOf tk ?_)))
  rw [if_pos (by decide)]
  refine wpAny_bind (sliceApplied_gen hs pl pu ?_)
  have yes : (((HT.sIx its.size 0 lo : Nat) : Int) == 0 && (1 : Int) == 1 && (HT.sIx its.size its.size hi - HT.sIx its.size 0 lo) == its.size) = true := by
    rw [hw.1, hw.2, Nat.sub_zero]
    simp
  show wpAny _ _ (if (((HT.sIx its.size 0 lo : Nat) : Int) == 0 && (1 : Int) == 1 && (HT.sIx its.size its.size hi - HT.sIx its.size 0 lo) == its.size) = true then _ else _) _ _ s
  rw [if_pos yes]
  refine wpAny_bind (m := Builtin.Tuple.tupleIsExact _) ?_
  unfold Builtin.Tuple.tupleIsExact
  refine wpAny_bind (wpAny_typeOf ht.typeIs (wpAny_pure ?_))
  rw [if_pos (by decide)]
  first
    | exact wpAny_bind (wpAny_rule (wpAny_bind (wpAny_pure (wpAny_pure ⟨_, rfl, wpAny_pure q⟩))))
    | exact wpAny_bind (wpAny_rule (wpAny_pure ⟨_, rfl, wpAny_pure q⟩))
    | exact wpAny_bind (wpAny_rule (wpAny_bind (wpAny_pure (wpAny_bind (wpAny_pure ⟨_, rfl, wpAny_pure q⟩)))))
    | exact wpAny_bind (wpAny_rule (wpAny_bind (wpAny_pure ⟨_, rfl, wpAny_pure q⟩)))
    | trace_state
end
/-! ### a slice of a list or of a tuple, all of it or not -/
def rSlA (K : PySem.W.Frag) : V → Option Int → Option Int → Hp → VK → Prop := fun x lo hi H Q => ∃ a xs, x = .ref a ∧ ((SqL K H a xs ∧ ∀ p, H p = none → Q (.ref p) (upd H p (.lst (cutV xs lo hi)))) ∨
  (SqT K H a xs ∧ ((HT.sIx xs.length 0 lo = 0 ∧ HT.sIx xs.length xs.length hi = xs.length) → Q (.ref a) H) ∧ (¬ (HT.sIx xs.length 0 lo = 0 ∧ HT.sIx xs.length xs.length hi = xs.length) → ∀ p, H p = none → Q (.ref p) (upd H p (.tup (cutV xs lo hi))))))
theorem sl_any {X : Cx} : SlR X (rSlA X.K) := by
  intro pins s σ H x v vl vu lo hi sl Q I rx hs pl pu ⟨a, xs, ex, h⟩
  rcases h with ⟨hl, q⟩ | ⟨ht, q1, q2⟩
  · exact sl_list pins s σ H x v vl vu lo hi sl Q I rx hs pl pu ⟨a, xs, ex, hl, q⟩
  · by_cases w : HT.sIx xs.length 0 lo = 0 ∧ HT.sIx xs.length xs.length hi = xs.length
    · subst ex
      obtain rfl : v = Value.ref a := rx
      obtain ⟨its, r, p, hz⟩ := I.tuple ht
      have hlen : its.toArray.size = xs.length := by rw [List.size_toArray]; exact r.length.symm
      exact ⟨"tuple", _, PyProof.Rows.slot_tuple_getitem.lookup, p.typeIs, slice_whole p hs pl pu (by rw [hlen]; exact w) ⟨.ref a, H, I, rfl, q1 w⟩⟩
    · exact sl_tup pins s σ H x v vl vu lo hi sl Q I rx hs pl pu ⟨a, xs, ex, ht, w, q2 w⟩
end Wp

namespace Wp
open PySem PySem.Spec PyProof.Rows L2 TyNe HT
/-- room for a test with items that are data -/
theorem hu65 {j : Nat} {A : Around} (hr : Room j A) : A.units + 65 < cLine := by
  have := hr.un
  omega
/-- x in t, x not in t, where t is a tuple of data -/
def rInTD (K : PySem.W.Frag) (neg : Bool) : R2 := fun x y H Q => ∃ d ds, Dp K H x d ∧ Dp K H y (.tuple ds) ∧ SeqAt.shaped d = true ∧ SeqAt.shaped (.tuple ds) = true ∧ Q (.bl (if neg = true then !(ds.any fun z => PyData.eqv z d) else ds.any fun z => PyData.eqv z d)) H
section
variable {X : Cx}
theorem op_inTD (hu : X.A.units + 65 < cLine) : OpR X (compareOp .In) (rInTD X.K false) := by
  intro pins s σ H x y v u Q I rx ry ⟨d, ds, hd, he, sd, se, q⟩
  obtain ⟨_, r1⟩ := Dp.reads I d x v hd rx
  obtain ⟨_, r2⟩ := Dp.reads I (.tuple ds) y u he ry
  exact SeqAt.in_tuple_reads r2 r1 (SeqAt.canLay_of_shaped se) (SeqAt.canLay_of_shaped sd) (room_in_shaped sd hu) ⟨.bl _, H, I, rfl, q⟩
theorem op_notInTD (hu : X.A.units + 65 < cLine) : OpR X (compareOp .NotIn) (rInTD X.K true) := by
  intro pins s σ H x y v u Q I rx ry ⟨d, ds, hd, he, sd, se, q⟩
  obtain ⟨_, r1⟩ := Dp.reads I d x v hd rx
  obtain ⟨_, r2⟩ := Dp.reads I (.tuple ds) y u he ry
  exact SeqAt.notIn_tuple_reads r2 r1 (SeqAt.canLay_of_shaped se) (SeqAt.canLay_of_shaped sd) (room_in_shaped sd hu) ⟨.bl _, H, I, rfl, q⟩
end
end Wp

namespace Wp
open PySem PySem.Spec PyProof.Rows L2 TyNe HT
/-- x <= y, x >= y of data that are alike -/
def rLeD (K : PySem.W.Frag) : R2 := fun x y H Q => ∃ d e, Dp K H x d ∧ Dp K H y e ∧ PySem.W.alike d e = true ∧ d ≠ .none ∧ d.depth ≤ 64 ∧ Q (.bl (!PySem.W.dataLt e d)) H
def rGeD (K : PySem.W.Frag) : R2 := fun x y H Q => ∃ d e, Dp K H x d ∧ Dp K H y e ∧ PySem.W.alike d e = true ∧ d ≠ .none ∧ d.depth ≤ 64 ∧ Q (.bl (!PySem.W.dataLt d e)) H
/-- x in l, x not in l, where l is a list of data -/
def rInLD (K : PySem.W.Frag) (neg : Bool) : R2 := fun x y H Q => ∃ d ds, Dp K H x d ∧ Dp K H y (.list ds) ∧ SeqAt.shaped d = true ∧ SeqAt.shaped (.list ds) = true ∧ Q (.bl (if neg = true then !(ds.any fun z => PyData.eqv z d) else ds.any fun z => PyData.eqv z d)) H
section
variable {X : Cx}
theorem op_leD (hu : X.A.units + 65 < cLine) : OpR X (compareOp .LtE) (rLeD X.K) := by
  intro pins s σ H x y v u Q I rx ry ⟨d, e, hd, he, al, nn, dp, q⟩
  obtain ⟨_, r1⟩ := Dp.reads I d x v hd rx
  obtain ⟨_, r2⟩ := Dp.reads I e y u he ry
  exact PySem.W.le_data r1 r2 al nn (by have := Nat.min_le_left d.depth e.depth; omega) ⟨.bl _, H, I, rfl, q⟩
theorem op_geD (hu : X.A.units + 65 < cLine) : OpR X (compareOp .GtE) (rGeD X.K) := by
  intro pins s σ H x y v u Q I rx ry ⟨d, e, hd, he, al, nn, dp, q⟩
  obtain ⟨_, r1⟩ := Dp.reads I d x v hd rx
  obtain ⟨_, r2⟩ := Dp.reads I e y u he ry
  exact PySem.W.ge_data r1 r2 al nn (by have := Nat.min_le_left d.depth e.depth; omega) ⟨.bl _, H, I, rfl, q⟩
theorem op_inLD (hu : X.A.units + 65 < cLine) : OpR X (compareOp .In) (rInLD X.K false) := by
  intro pins s σ H x y v u Q I rx ry ⟨d, ds, hd, he, sd, se, q⟩
  obtain ⟨_, r1⟩ := Dp.reads I d x v hd rx
  obtain ⟨_, r2⟩ := Dp.reads I (.list ds) y u he ry
  exact SeqAt.in_list_reads r2 r1 (SeqAt.canLay_of_shaped se) (SeqAt.canLay_of_shaped sd) (room_in_shaped sd hu) ⟨.bl _, H, I, rfl, q⟩
theorem op_notInLD (hu : X.A.units + 65 < cLine) : OpR X (compareOp .NotIn) (rInLD X.K true) := by
  intro pins s σ H x y v u Q I rx ry ⟨d, ds, hd, he, sd, se, q⟩
  obtain ⟨_, r1⟩ := Dp.reads I d x v hd rx
  obtain ⟨_, r2⟩ := Dp.reads I (.list ds) y u he ry
  exact SeqAt.notIn_list_reads r2 r1 (SeqAt.canLay_of_shaped se) (SeqAt.canLay_of_shaped sd) (room_in_shaped sd hu) ⟨.bl _, H, I, rfl, q⟩
end
/-- l.insert(i, y) -/
abbrev qInsert : V → List V → Hp → VK → Prop := fun x vs H Q => ∃ (l : Addr) (xs : List V) (i : Int) (y : V), x = .ref l ∧ vs = [.int i, y] ∧ H l = some (.lst xs) ∧ xs.length < sizeLine ∧ 0 ≤ i ∧ i < 2 ^ 63 ∧ Q .non (upd H l (.lst (xs.take i.toNat ++ [y] ++ xs.drop i.toNat)))
/-! ### an own class made without arguments -/
theorem pe_mk0 {X : Cx} {k j : Nat} {C : Addr} {x : Str} {sp : Sp} {dvs : List V} {p pos : Pos} (c : C8.Mak X.prog X.w X.K X.mg X.base k x C sp dvs) (hr : Room j X.A) (hk : k + 1 ≤ j) (hg : Gl X x)
    (hdb : (x == ("__debug__" : Str)) = false := by decide) : PE X (.Call (.Name x p) [] [] pos) (tMake C sp dvs C8.E0 tNil) := by
  obtain ⟨f, fd, ps, ds, M, F, hm, b, d⟩ := c.ex
  exact pe_make0 M F (hr.mono hk) hg hm b d C8.pass0 hdb
/-! ### (number, text) < (number, text) -/
theorem alike_key (s t : Int) (a b : Str) : PySem.W.alike (.tuple [.int s, .str a]) (.tuple [.int t, .str b]) = true := by rfl
theorem lt_key {s t : Int} (a b : Str) (h : s < t) : PySem.W.dataLt (.tuple [.int s, .str a]) (.tuple [.int t, .str b]) = true := by
  rw [PySem.W.dataLt_tuple, PySem.W.dataLt_all_no (by rfl) (by show (s == t) = false; rw [beq_eq_false_iff_ne]; omega), PySem.W.dataLt_int]
  exact decide_eq_true h
end Wp

namespace T
open PySem PySem.Spec PyProof.Rows L2 TyNe Wp
local macro_rules | `(tactic| walk_at "ne") => `(tactic| first
  | assumption
  | (refine Ne.symm ?_; assumption)
  | exact ne_of_none (by assumption) (by assumption)
  | exact (ne_of_none (by assumption) (by assumption)).symm
  | exact Stm.ne (by assumption) (by assumption)
  | exact (Stm.ne (by assumption) (by assumption)).symm)
local macro_rules | `(tactic| walk_at "hp") => `(tactic| first
  | assumption
  | exact upd_same
  | (rw [upd_ne (by walk_at "ne")]; walk_at "hp")
  | (refine Same.get (by assumption) ?_; walk_at "hp")
  | (refine Kp.get (by assumption) ?_ ?_ <;> first | (walk_at "hp"; done) | (walk_at "ne"; done)))
local macro_rules | `(tactic| walk_at "sq") => `(tactic| first
  | assumption
  | exact TupK.sq (by assumption)
  | exact SqL.of (by walk_at "hp")
  | exact SqT.of (by walk_at "hp"))
local macro_rules | `(tactic| walk_at "ar") => `(tactic| first
  | assumption | rfl | omega | decide)
/-- one step of a reading -/
local macro_rules | `(tactic| walk_at "w1") => `(tactic| first
  | with_reducible refine w_seq ?_
  | with_reducible refine w_asg ?_
  | ((with_reducible show tVar _ _ _ _); refine w_var rfl ?_)
  | with_reducible refine w_c ?_
  | with_reducible refine w_name ?_
  | with_reducible refine w_op ?_
  | with_reducible refine w_un ?_
  | with_reducible refine w_cons ?_
  | with_reducible refine w_nil ?_
  | with_reducible refine w_call ?_
  | with_reducible refine w_cb ?_
  | with_reducible refine w_ret ?_
  | with_reducible refine w_retN ?_
  | with_reducible refine w_ifS ?_
  | with_reducible refine w_test ?_
  | with_reducible refine w_B ?_
  | with_reducible refine w_exb ?_
  | with_reducible refine w_exi ?_
  | with_reducible refine w_next ?_
  | with_reducible refine w_drop ?_
  | with_reducible refine w_and ?_
  | with_reducible refine w_or ?_
  | with_reducible refine w_not ?_
  | with_reducible refine w_andV ?_
  | with_reducible refine w_orV ?_
  | with_reducible refine w_notV ?_
  | with_reducible refine w_if ?_
  | with_reducible refine w_chain ?_
  | with_reducible refine w_sub ?_
  | with_reducible refine w_tup ?_
  | with_reducible refine w_lst ?_
  | with_reducible refine w_sl ?_
  | with_reducible refine w_noPart ?_
  | with_reducible refine w_part ?_
  | with_reducible refine w_I0 ?_
  | ((with_reducible refine w_I ?c ?_); (case c => first | exact .inr (by decide) | exact .inl (by decide) | exact (show (0 : Int) < _ by omega) | exact cmul_l (by omega) (by omega) | exact cmul_r (by omega) (by omega) | exact And.intro (by omega) (by omega) | exact And.intro (by decide) (And.intro (by decide) (by decide))))
  | with_reducible refine w_U ?_
  | with_reducible refine w_eqI ?_
  | with_reducible refine w_neI ?_
  | with_reducible refine w_eqS ?_
  | with_reducible refine w_neS ?_
  | with_reducible refine w_eqB ?_
  | with_reducible refine w_inSign ?_
  | with_reducible refine w_ninSign ?_
  | with_reducible refine w_isBl ?_
  | with_reducible refine w_int1 ?_
  | with_reducible refine w_int1b ?_
  | with_reducible refine w_max2 ?_
  | with_reducible refine w_bm ?_
  | with_reducible refine w_lc ?_
  | with_reducible refine w_iList ?_
  | with_reducible refine w_iTup ?_
  | with_reducible refine w_iStr ?_
  | with_reducible refine w_exs ?_
  | with_reducible refine w_isN ?_
  | with_reducible refine w_notN ?_
  | ((with_reducible show tyV _ "str" (.str _) _ ∧ _); refine And.intro rfl ?_)
  | ((with_reducible show tyV _ "list" (.ref _) _ ∧ _); refine w_tyL (by walk_at "hp") ?_)
  | with_reducible refine w_min2 ?_
  | ((with_reducible show rIxL _ (.ref _) (.int _) _ _); refine w_ixL (by walk_at "sq") (by first | exact rfl | exact atI_nat (j := 0) rfl | exact atI_nat (j := 1) rfl | exact atI_nat (j := 2) rfl) ?_)
  | ((with_reducible show rIxT _ (.ref _) (.int _) _ _); refine w_ixT (by walk_at "sq") (by first | exact rfl | exact atI_nat (j := 0) rfl | exact atI_nat (j := 1) rfl | exact atI_nat (j := 2) rfl) ?_)
  | ((with_reducible show rSetL (.ref _) (.int _) _ _ _); refine w_setL (by walk_at "hp") (by exact rfl) ?_)
  | ((with_reducible show qLenSeq _ [.ref _] _ _); first | refine w_lenL (by walk_at "sq") ?_ | refine w_lenT (by walk_at "sq") ?_)
  | with_reducible refine w_nf ?_
  | with_reducible refine w_nt ?_
  | with_reducible refine iteT ?_
  | with_reducible refine iteF ?_
  | ((with_reducible refine w_len0 ?h ?_); (case h => exact sz (by simp))))
local macro_rules | `(tactic| walk_at "w") => `(tactic| repeat (walk_at "w1"))
local macro_rules | `(tactic| walk_at "if") => `(tactic| first
  | (with_reducible refine w_ite ?_ ?_) | (with_reducible refine w_iteN ?_ ?_) | (with_reducible refine w_iteb ?_ ?_))
/-- the same, new objects as heaps of their own -/
local macro_rules | `(tactic| walk_at "v1") => `(tactic| first
  | with_reducible refine w_tupV ?_
  | with_reducible refine w_lstV ?_
  | with_reducible refine w_jcons ?_
  | with_reducible refine w_jnil ?_
  | with_reducible refine w_fmt ?_
  | with_reducible refine w_js ?_
  | with_reducible refine w_zipM ?_
  | ((with_reducible refine w_dec1 (by decide) ?_))
  | ((with_reducible refine w_dec0 (by decide) ?_))
  | ((with_reducible show qJoin _ (.str _) [.ref _] _ _); first | refine w_joinL (by walk_at "sq") ?_ ?_ | refine w_joinT (by walk_at "sq") ?_ ?_)
  | with_reducible refine w_count ?_
  | ((with_reducible show rIn _ _ (.str _) (.ref _) _ _); first | refine w_inTb (b := true) (by walk_at "sq") rfl rfl (by decide +kernel) ?_ | refine w_inTb (b := false) (by walk_at "sq") rfl rfl (by decide +kernel) ?_ | refine w_inLb (b := true) (by walk_at "sq") rfl rfl (by decide +kernel) ?_ | refine w_inLb (b := false) (by walk_at "sq") rfl rfl (by decide +kernel) ?_)
  | walk_at "w1")
local macro_rules | `(tactic| walk_at "v") => `(tactic| repeat (walk_at "v1"))
local macro_rules | `(tactic| walk_at "dn") => `(tactic| first
  | assumption
  | (refine Dn.same ?_ (by assumption); walk_at "dn")
  | (refine Dn.kp ?_ (by assumption); walk_at "dn")
  | (refine Dn.any ?_; walk_at "dn"))
local macro_rules | `(tactic| walk_at "ln") => `(tactic| first
  | decide
  | omega
  | (simp only [List.length_append, List.length_map, List.length_cons, List.length_nil]; omega))
/-- the same, new objects without names, sums of texts, numbers as texts, append -/
local macro_rules | `(tactic| walk_at "z1") => `(tactic| first
  | ((with_reducible refine w_new ?_); intro _ _ _ _ _)
  | ((with_reducible show rAppend (.ref _) [_] _ _); refine w_appV (by walk_at "hp") (by walk_at "ln") ?_; intro _ _ _)
  | ((with_reducible show qAddS (.str _) (.str _) _ _); refine w_addS (sz (by simp only [Str.length_append]; omega)) ?_)
  | ((with_reducible show qStrInt [.int _] _ _); refine w_strInt (by omega) (by omega) ?_)
  | walk_at "v1")
local macro_rules | `(tactic| walk_at "z") => `(tactic| repeat (walk_at "z1"))
/-- statements alone, up to the first expression -/
local macro_rules | `(tactic| walk_at "s") => `(tactic| repeat (first
  | with_reducible refine w_seq ?_
  | with_reducible refine w_asg ?_
  | with_reducible refine w_name ?_
  | with_reducible refine w_next ?_
  | with_reducible refine w_c ?_
  | with_reducible refine w_ret ?_
  | with_reducible refine w_drop ?_
  | with_reducible refine w_ifS ?_
  | with_reducible refine w_test ?_))
/-- the same, and not into a test -/
local macro_rules | `(tactic| walk_at "b") => `(tactic| repeat (first
  | with_reducible refine w_seq ?_
  | with_reducible refine w_asg ?_
  | with_reducible refine w_name ?_
  | with_reducible refine w_next ?_
  | with_reducible refine w_c ?_
  | with_reducible refine w_ret ?_
  | with_reducible refine w_drop ?_))

abbrev v_LETTERS : V := .str "abcdefghijklmnopqrstuvwxyz"
abbrev v_DIGITS : V := .str "0123456789"
abbrev v_SIGN : V := .str "\x40"
/-- what is known of the class Inbox at C -/
structure IsC_Inbox (K : PySem.W.Frag) (C : Addr) : Prop where
  cl : Cls K C
  n_name : NoAttr K C "name"
  n_counts : NoAttr K C "_counts"
/-- what is known of the class Letter at C -/
structure IsC_Letter (K : PySem.W.Frag) (C : Addr) : Prop where
  cl : Cls K C
  n_author : NoAttr K C "author"
  n_number : NoAttr K C "number"
  n_stamp : NoAttr K C "stamp"
  n_seen : NoAttr K C "seen"
  n_body : NoAttr K C "body"
  n_counts : NoAttr K C "_counts"
/-! ### the defs of the stream of draws -/
def spCell (K : PySem.W.Frag) : Sp := fun vs H Q _ => ∃ (a : Addr) (ns : List Int) (k : Int), vs = [.ref a, .int k] ∧ SqL K H a (ns.map V.int) ∧ 0 ≤ k ∧ ∀ z, Q (.int z) H
def spStream (K : PySem.W.Frag) : Sp := fun vs H Q _ => ∃ (c k : Int), vs = [.int c, .int k] ∧ ∀ p H', H p = none → Same H H' → Stm H' p → Q (.ref p) H'
def spNext (K : PySem.W.Frag) : Sp := fun vs H Q _ => ∃ (p : Addr) (n : Int), vs = [.ref p, .int n] ∧ Stm H p ∧ 0 < n ∧ n < 1073741824 ∧ ∀ v H', Kp p H H' → Stm H' p → 0 ≤ v → v < n → Q (.int v) H'
def spFlag (K : PySem.W.Frag) : Sp := fun vs H Q _ => ∃ (a b : Bool), vs = [.bl a, .bl b] ∧ Q (.bl (decide (a = b))) H
section
variable {K : PySem.W.Frag} {vs : List V} {H : Hp} {Q : VK} {E : XK}
/-- _law_stream: slots 0:cell 1:k 2:digits -/
def t__law_stream (K : PySem.W.Frag) : TS := (tSeq (tAsg (tC (.int 0)) (gName 2))
  (tSeq (tIfS (tTest (tOp qGe (tVar 0) (tOp qPow (tC (.int 10)) (tC (.int 18))))) (tAsg (tVar 0) (gName 2)) tNext)
  (tRet (tLst (tCons (tVar 2) (tCons (tOp qMod (tCB qInt1 (tCons (tOp qAdd (tOp qAdd (tOp qMul (tVar 0) (tC (.int 48271))) (tOp qMul (tVar 1) (tC (.int 69621)))) (tC (.int 77))) tNil)) (tC (.int 2147483647))) tNil))))))
theorem l__law_stream (h : spStream K vs H Q E) : vs.length = 2 := by obtain ⟨c, k, rfl, _⟩ := h; rfl
theorem r__law_stream (h : spStream K vs H Q E) : t__law_stream K { nx := fun _ H' => Q .non H', rt := Q } (start ["cell", "k", "digits"] vs) H := by
  obtain ⟨c, k, rfl, q⟩ := h
  unfold t__law_stream
  walk_at "w"
  refine w_ite (fun hc => ?_) (fun hc => ?_)
  · walk_at "w"
    intro p hp
    refine q p _ hp (Same.upd (Same.refl H) hp) ⟨_, _, upd_same, ?_, Int.emod_nonneg _ (by decide)⟩
    have e : (10 : Int) ^ (18 : Int).toNat = 1000000000000000000 := by decide
    omega
  · walk_at "w"
    intro p hp
    exact q p _ hp (Same.upd (Same.refl H) hp) ⟨_, _, upd_same, by decide, Int.emod_nonneg _ (by decide)⟩
/-- _law_next: slots 0:stream 1:size 2:drawn -/
def t__law_next (K : PySem.W.Frag) : TS := (tSeq (tIfS (tTest (tOp qGt (tOp (rIxL K) (tVar 0) (tC (.int 0))) (tC (.int 0)))) (tSeq (tAsg (tOp qMod (tCB qInt1 (tCons (tOp (rIxL K) (tVar 0) (tC (.int 0))) tNil)) (tVar 1)) (gName 2))
  (tSeq (tAsg (tOp qFdiv (tOp (rIxL K) (tVar 0) (tC (.int 0))) (tVar 1)) (gSub (tVar 0) (tC (.int 0)) rSetL))
  (tRet (tVar 2)))) tNext)
  (tSeq (tAsg (tOp qMod (tCB qInt1 (tCons (tOp qAdd (tOp qMul (tOp (rIxL K) (tVar 0) (tC (.int 1))) (tC (.int 48271))) (tC (.int 12820163))) tNil)) (tC (.int 2147483647))) (gSub (tVar 0) (tC (.int 1)) rSetL))
  (tRet (tOp qMod (tCB qInt1 (tCons (tOp qFdiv (tOp qMod (tCB qInt1 (tCons (tOp qAdd (tOp qMul (tOp (rIxL K) (tVar 0) (tC (.int 1))) (tC (.int 16807))) (tC (.int 5))) tNil)) (tC (.int 2147483399))) (tC (.int 3))) tNil)) (tVar 1)))))
theorem l__law_next (h : spNext K vs H Q E) : vs.length = 2 := by obtain ⟨c, k, rfl, _⟩ := h; rfl
theorem r__law_next (h : spNext K vs H Q E) : t__law_next K { nx := fun _ H' => Q .non H', rt := Q } (start ["stream", "size", "drawn"] vs) H := by
  obtain ⟨p, n, rfl, ⟨a, b, hp, h0, h1⟩, hn, hm, q⟩ := h
  unfold t__law_next
  walk_at "w"
  refine w_ite (fun hc => ?_) (fun hc => ?_)
  · walk_at "w"
    exact q _ _ (Kp.updp Kp.refl) ⟨_, _, upd_same, Int.ediv_nonneg h0 (by omega), h1⟩ (Int.emod_nonneg _ (Int.ne_of_gt hn)) (Int.emod_lt_of_pos _ hn)
  · walk_at "w"
    exact q _ _ (Kp.updp Kp.refl) ⟨_, _, upd_same, h0, Int.emod_nonneg _ (by decide)⟩ (Int.emod_nonneg _ (Int.ne_of_gt hn)) (Int.emod_lt_of_pos _ hn)
end

/-! ### draws inside expressions -/
section
variable {K : PySem.W.Frag} {σ : L2.St} {H : Hp} {p : Addr} {P : PyData → Prop} {R : List PyData → Prop} {ta : TA}
theorem evs_next {i : Nat} {n : Int} (hi : σ[i]? = some (some (.ref p))) (h0 : 0 < n) (h1 : n < 1073741824) : EvS p (tCall (spNext K) [] C8.E0 (tCons (tVar i) (tCons (tC (.int n)) tNil))) σ H (fun d => ∃ v : Int, d = .int v ∧ 0 ≤ v ∧ v < n) := fun H1 k s Q q =>
  ⟨.ref p, hi, p, n, rfl, s, h0, h1, fun v H2 k2 s2 a b => q (.int v) (.int v) H2 k2 s2 ⟨v, rfl, a, b⟩ (.int v)⟩
/-- (a, b, ..)[draw] -/
theorem evs_pickT {i : Nat} {n : Int} (ha : EvSs p ta σ H R) (hi : σ[i]? = some (some (.ref p))) (h0 : 0 < n) (h1 : n ≤ 1000) (hR : ∀ ds, R ds → (ds.length : Int) = n ∧ ∀ d ∈ ds, P d) :
    EvS p (tOp (rIxT K) (tTup ta) (tCall (spNext K) [] C8.E0 (tCons (tVar i) (tCons (tC (.int n)) tNil)))) σ H P := fun H1 k s Q q =>
  evs_tup (P := fun d => ∃ ds, d = .tuple ds ∧ R ds) ha (fun ds r => ⟨by have := (hR ds r).1; omega, ds, rfl, r⟩) H1 k s _ fun v d H2 k2 s2 hd dn => by
    obtain ⟨ds, rfl, r⟩ := hd
    cases dn with
    | @tup a xs _ hap h hs =>
      refine evs_next hi h0 (by omega) H2 (k.trans k2) s2 _ fun v d H3 k3 s3 hv dv => ?_
      obtain ⟨j, rfl, j0, j1⟩ := hv
      cases dv
      have hl := hs.len
      have hn := (hR ds r).1
      have hj : j.toNat < xs.length := by omega
      obtain ⟨d, hd, dn⟩ := hs.get (List.getElem?_eq_getElem hj)
      refine w_ixT (SqT.of (k3 _ _ hap h)) (atI_of j0 (List.getElem?_eq_getElem hj)) (q _ d H3 (k2.trans k3) s3 ((hR ds r).2 d (List.mem_of_getElem? hd)) (dn.kp k3))
/-- [a, b, ..][draw] -/
theorem evs_pickL {i : Nat} {n : Int} (ha : EvSs p ta σ H R) (hi : σ[i]? = some (some (.ref p))) (h0 : 0 < n) (h1 : n ≤ 1000) (hR : ∀ ds, R ds → (ds.length : Int) = n ∧ ∀ d ∈ ds, P d) :
    EvS p (tOp (rIxL K) (tLst ta) (tCall (spNext K) [] C8.E0 (tCons (tVar i) (tCons (tC (.int n)) tNil)))) σ H P := fun H1 k s Q q =>
  evs_lst (P := fun d => ∃ ds, d = .list ds ∧ R ds) ha (fun ds r => ⟨by have := (hR ds r).1; omega, ds, rfl, r⟩) H1 k s _ fun v d H2 k2 s2 hd dn => by
    obtain ⟨ds, rfl, r⟩ := hd
    cases dn with
    | @lst a xs _ hap h hs =>
      refine evs_next hi h0 (by omega) H2 (k.trans k2) s2 _ fun v d H3 k3 s3 hv dv => ?_
      obtain ⟨j, rfl, j0, j1⟩ := hv
      cases dv
      have hl := hs.len
      have hn := (hR ds r).1
      have hj : j.toNat < xs.length := by omega
      obtain ⟨d, hd, dn⟩ := hs.get (List.getElem?_eq_getElem hj)
      refine w_ixL (SqL.of (k3 _ _ hap h)) (atI_of j0 (List.getElem?_eq_getElem hj)) (q _ d H3 (k2.trans k3) s3 ((hR ds r).2 d (List.mem_of_getElem? hd)) (dn.kp k3))
/-- all of the parts, and how many -/
def Are (P : PyData → Prop) (n : Nat) (ds : List PyData) : Prop := ds.length = n ∧ ∀ d ∈ ds, P d
theorem are_nil : EvSs p tNil σ H (Are P 0) := evss_nil ⟨rfl, fun _ h => nomatch h⟩
theorem are_cons {te : TE} {n : Nat} (h : EvS p te σ H P) (hs : EvSs p ta σ H (Are P n)) : EvSs p (tCons te ta) σ H (Are P (n + 1)) :=
  evss_cons h hs fun d r hd hr => ⟨congrArg (· + 1) hr.1, fun x hx => (List.mem_cons.mp hx).elim (fun e => e ▸ hd) (hr.2 x)⟩
theorem are_pick {n : Nat} {m : Int} (e : (n : Int) = m) : ∀ ds, Are P n ds → (ds.length : Int) = m ∧ ∀ d ∈ ds, P d := fun ds h => ⟨by rw [h.1]; exact e, h.2⟩
/-- a number drawn -/
abbrev isInt (lo hi : Int) : PyData → Prop := fun d => ∃ v : Int, d = .int v ∧ lo ≤ v ∧ v ≤ hi
theorem evs_intIn {i lo hi : Int} (h1 : lo ≤ i) (h2 : i ≤ hi) : EvS p (tC (.int i)) σ H (isInt lo hi) := evs_int ⟨i, rfl, h1, h2⟩
theorem evs_nextIn {i : Nat} {n lo hi : Int} (hi' : σ[i]? = some (some (.ref p))) (h0 : 0 < n) (h1 : n < 1073741824) (hl : lo ≤ 0) (hh : n - 1 ≤ hi) : EvS p (tCall (spNext K) [] C8.E0 (tCons (tVar i) (tCons (tC (.int n)) tNil))) σ H (isInt lo hi) :=
  (evs_next hi' h0 h1).weak fun d ⟨v, e, a, b⟩ => ⟨v, e, by omega, by omega⟩
/-- 'abc'[draw] -/
theorem w_pickS {i : Nat} {n : Int} {z : Str} {Q : VK} (hs : Stm H p) (hi : σ[i]? = some (some (.ref p))) (h0 : 0 < n) (hz : (z.length : Int) = n) (h1 : n ≤ 1000) (q : ∀ c H2, c ∈ z.cps.toList → Kp p H H2 → Stm H2 p → Q (.str ⟨#[c]⟩) H2) :
    (tOp rIxS (tC (.str z)) (tCall (spNext K) [] C8.E0 (tCons (tVar i) (tCons (tC (.int n)) tNil)))) σ H Q := by
  refine (evs_next (K := K) (H := H) hi h0 (by omega)).use hs fun v d H2 k2 s2 hv dv => ?_
  obtain ⟨j, rfl, j0, j1⟩ := hv
  cases dv
  have hl : z.length = z.cps.toList.length := by simp [Str.length]
  have hj : j.toNat < z.cps.toList.length := by omega
  exact w_ixS (Nat.le_trans (show z.length ≤ 1000 by omega) (by decide)) (atI_of j0 (List.getElem?_eq_getElem hj)) (q _ H2 (List.getElem_mem hj) k2 s2)
theorem evss_eq {te : TE} {d : PyData} {r : List PyData} (h : EvS p te σ H (· = d)) (hs : EvSs p ta σ H (· = r)) : EvSs p (tCons te ta) σ H (· = d :: r) := evss_cons h hs fun _ _ a b => by rw [a, b]
theorem evss_eq0 : EvSs p tNil σ H (· = []) := evss_nil rfl
theorem evs_tupE {ds : List PyData} (h : EvSs p ta σ H (· = ds)) (hp : P (.tuple ds)) (hl : ds.length ≤ 100000 := by simp) : EvS p (tTup ta) σ H P := evs_tup h fun _ e => e ▸ ⟨hl, hp⟩
theorem evs_lstE {ds : List PyData} (h : EvSs p ta σ H (· = ds)) (hp : P (.list ds)) (hl : ds.length ≤ 100000 := by simp) : EvS p (tLst ta) σ H P := evs_lst h fun _ e => e ▸ ⟨hl, hp⟩
end

/-! ### further steps -/
local macro_rules | `(tactic| walk_at "case") => `(tactic| dsimp only [Bd.kind, Bd.text, Bd.rest, Bd.toD])
local macro_rules | `(tactic| walk_at "z1") => `(tactic| ((with_reducible show qAddS (.str _) (.str _) _ _); refine w_addS (sz (by first | omega | (simp only [Str.length_append]; omega))) ?_))
local macro_rules | `(tactic| walk_at "z1") => `(tactic| ((with_reducible show qJoin _ (.str _) [.ref _] _ _); first | refine w_joinT (by walk_at "sq") (by assumption) ?_ | refine w_joinL (by walk_at "sq") (by assumption) ?_))
/-- what stands off an address still stands -/
local macro_rules | `(tactic| walk_at "kp") => `(tactic| first
  | assumption
  | exact Kp.refl
  | (refine Kp.trans ?_ (by assumption); walk_at "kp")
  | (refine Kp.trans ?_ (Same.kp (by assumption)); walk_at "kp"))
local macro_rules | `(tactic| walk_at "fin") => `(tactic| first
  | (walk_at "hp"; done)
  | (refine Eq.trans (by walk_at "hp") ?_; first | rfl | (simp only [List.map_cons, List.map_nil, List.append_nil, List.append_assoc, List.cons_append, List.nil_append]; rfl)))
local macro_rules | `(tactic| walk_at "ln") => `(tactic| exact Nat.le_of_ble_eq_true rfl)

/-! ### == of data -/
mutual
def noDict : PyData → Bool
  | .dict _ => false
  | .list ds => noDicts ds
  | .tuple ds => noDicts ds
  | _ => true
def noDicts : List PyData → Bool
  | [] => true
  | d :: ds => noDict d && noDicts ds
end
section
variable {K : PySem.W.Frag} {ok : Addr → Prop} {H : Hp} {Q : VK}
mutual
theorem dn_dp {v : V} {d : PyData} (n : noDict d = true) : Dn ok H v d → Dp K H v d
  | .non => .non
  | .bl b => .bl b
  | .int i => .int i
  | .str x => .str x
  | .lst _ h hs => .lst (SqL.of h) (dnall_dp n hs)
  | .tup _ h hs => .tup (SqT.of h) (dnall_dp n hs)
  | .dic _ h => absurd n (by simp [noDict])
theorem dnall_dp {vs : List V} {ds : List PyData} (n : noDicts ds = true) : DnAll ok H vs ds → DpAll K H vs ds
  | .nil => .nil
  | .cons h hs => .cons (dn_dp (Bool.and_eq_true_iff.mp n).1 h) (dnall_dp (Bool.and_eq_true_iff.mp n).2 hs)
end
mutual
theorem noDict_of_lay : ∀ {d : PyData}, d.canLay0 = true → noDict d = true
  | .none, _ => rfl
  | .bool _, _ => rfl
  | .int _, _ => rfl
  | .str _, _ => rfl
  | .list ds, h => noDicts_of_lay (ds := ds) (by rw [PyData.canLay0] at h; exact h)
  | .tuple ds, h => noDicts_of_lay (ds := ds) (by rw [PyData.canLay0] at h; exact h)
  | .dict _, h => by rw [PyData.canLay0] at h; exact nomatch h
theorem noDicts_of_lay : ∀ {ds : List PyData}, PyData.canLayAll0 ds = true → noDicts ds = true
  | [], _ => rfl
  | d :: ds, h => by
    rw [PyData.canLayAll0, Bool.and_eq_true] at h
    show (noDict d && noDicts ds) = true
    rw [noDict_of_lay h.1, noDicts_of_lay h.2]
    rfl
end
theorem w_eqD {x y : V} {d e : PyData} {ok2 : Addr → Prop} (h : Dn ok H x d) (h2 : Dn ok2 H y e) (s : SeqAt.shaped d = true) (s2 : SeqAt.shaped e = true) (q : Q (.bl (PyData.eqv d e)) H) : rEqD K x y H Q :=
  ⟨d, e, dn_dp (noDict_of_lay (SeqAt.canLay_of_shaped s)) h, dn_dp (noDict_of_lay (SeqAt.canLay_of_shaped s2)) h2, s, s2, q⟩
theorem w_neD {x y : V} {d e : PyData} {ok2 : Addr → Prop} (h : Dn ok H x d) (h2 : Dn ok2 H y e) (s : SeqAt.shaped d = true) (s2 : SeqAt.shaped e = true) (q : Q (.bl (!PyData.eqv d e)) H) : rNeD K x y H Q :=
  ⟨d, e, dn_dp (noDict_of_lay (SeqAt.canLay_of_shaped s)) h, dn_dp (noDict_of_lay (SeqAt.canLay_of_shaped s2)) h2, s, s2, q⟩
theorem w_eqDs {x y : V} {d : PyData} {ok2 : Addr → Prop} (h : Dn ok H x d) (h2 : Dn ok2 H y d) (s : SeqAt.shaped d = true) (q : Q (.bl true) H) : rEqD K x y H Q :=
  w_eqD h h2 s s (by rw [SeqAt.eqv_refl d (SeqAt.canLay_of_shaped s)]; exact q)
theorem w_neDs {x y : V} {d : PyData} {ok2 : Addr → Prop} (h : Dn ok H x d) (h2 : Dn ok2 H y d) (s : SeqAt.shaped d = true) (q : Q (.bl false) H) : rNeD K x y H Q :=
  w_neD h h2 s s (by rw [SeqAt.eqv_refl d (SeqAt.canLay_of_shaped s)]; exact q)
/-- signs that are ASCII -/
def ascii (z : Str) : Bool := z.cps.toList.all fun c => decide (c < 1114112)
theorem strOk_of {z : Str} (h : ascii z = true) : PyData.strOk z = true := by
  unfold PyData.strOk
  rw [← Array.all_toList]
  exact h
theorem shaped_str {z : Str} (h : ascii z = true) : SeqAt.shaped (.str z) = true := by
  unfold SeqAt.shaped
  rw [PyData.canLay0, strOk_of h]
  rfl
end
/-! ### data that may be compared -/
/-- its texts are texts, no dicts, no deeper than k -/
def Lay (k : Nat) (d : PyData) : Prop := d.canLay0 = true ∧ d.depth ≤ k
theorem Lay.shaped {k : Nat} {d : PyData} (h : Lay k d) (hk : k ≤ 64 := by decide) : SeqAt.shaped d = true := by
  unfold SeqAt.shaped
  rw [h.1, decide_eq_true (Nat.le_trans h.2 hk)]
  rfl
theorem Lay.up {j k : Nat} {d : PyData} (h : Lay j d) (hk : j ≤ k := by decide) : Lay k d := ⟨h.1, Nat.le_trans h.2 hk⟩
theorem lay_int {k : Nat} {i : Int} : Lay k (.int i) := ⟨by rw [PyData.canLay0], by rw [PyData.depth]; exact Nat.zero_le _⟩
theorem lay_str {k : Nat} {z : Str} (h : ascii z = true) : Lay k (.str z) := ⟨by rw [PyData.canLay0, strOk_of h], by rw [PyData.depth]; exact Nat.zero_le _⟩
theorem lay_all : ∀ {k : Nat} {ds : List PyData}, (∀ d ∈ ds, Lay k d) → PyData.canLayAll0 ds = true ∧ PyData.depthAll ds ≤ k
  | k, [], _ => ⟨by rw [PyData.canLayAll0], by rw [PyData.depthAll]; exact Nat.zero_le _⟩
  | k, d :: ds, h => by
    have h1 := h d (List.mem_cons_self ..)
    have h2 := lay_all fun e he => h e (List.mem_cons_of_mem _ he)
    refine ⟨by rw [PyData.canLayAll0, h1.1, h2.1]; rfl, ?_⟩
    rw [PyData.depthAll]
    exact Nat.max_le.mpr ⟨h1.2, h2.2⟩
theorem lay_tup {k : Nat} {ds : List PyData} (h : ∀ d ∈ ds, Lay k d) : Lay (k + 1) (.tuple ds) :=
  ⟨by rw [PyData.canLay0]; exact (lay_all h).1, by rw [PyData.depth]; exact Nat.succ_le_succ (lay_all h).2⟩
theorem lay1 {k : Nat} {a : PyData} (h : Lay k a) : Lay (k + 1) (.tuple [a]) := lay_tup fun d hd => by
  rw [List.mem_singleton.mp hd]
  exact h
theorem lay2 {k : Nat} {a b : PyData} (h : Lay k a) (h2 : Lay k b) : Lay (k + 1) (.tuple [a, b]) := lay_tup fun d hd => by
  rcases List.mem_cons.mp hd with rfl | hd
  · exact h
  · rw [List.mem_singleton.mp hd]
    exact h2
theorem lay3 {k : Nat} {a b c : PyData} (h : Lay k a) (h2 : Lay k b) (h3 : Lay k c) : Lay (k + 1) (.tuple [a, b, c]) := lay_tup fun d hd => by
  rcases List.mem_cons.mp hd with rfl | hd
  · exact h
  rcases List.mem_cons.mp hd with rfl | hd
  · exact h2
  · rw [List.mem_singleton.mp hd]
    exact h3
theorem lay5 {k : Nat} {a b c e f : PyData} (h : Lay k a) (h2 : Lay k b) (h3 : Lay k c) (h4 : Lay k e) (h5 : Lay k f) : Lay (k + 1) (.tuple [a, b, c, e, f]) := lay_tup fun d hd => by
  rcases List.mem_cons.mp hd with rfl | hd
  · exact h
  rcases List.mem_cons.mp hd with rfl | hd
  · exact h2
  rcases List.mem_cons.mp hd with rfl | hd
  · exact h3
  rcases List.mem_cons.mp hd with rfl | hd
  · exact h4
  · rw [List.mem_singleton.mp hd]
    exact h5

/-! ### data of texts, numbers and tuples alone -/
mutual
def plainB : PyData → Bool
  | .int _ => true
  | .str _ => true
  | .tuple ds => plainAll ds
  | _ => false
def plainAll : List PyData → Bool
  | [] => true
  | d :: ds => plainB d && plainAll ds
end
theorem plainAll_of : ∀ {ds : List PyData}, (∀ d ∈ ds, plainB d = true) → plainAll ds = true
  | [], _ => rfl
  | d :: ds, h => by
    rw [plainAll, h d (List.mem_cons_self ..), plainAll_of fun x hx => h x (List.mem_cons_of_mem _ hx)]
    rfl
theorem plain_tup {ds : List PyData} (h : ∀ d ∈ ds, plainB d = true) : plainB (.tuple ds) = true := by
  rw [plainB]
  exact plainAll_of h
mutual
theorem eqv_plain : ∀ {x y : PyData}, plainB x = true → plainB y = true → PyData.eqv x y = true → x = y
  | .int i, .int j, _, _, e => by
    rw [PyData.eqv, beq_iff_eq] at e
    rw [e]
  | .str i, .str j, _, _, e => by
    rw [PyData.eqv, beq_iff_eq] at e
    rw [e]
  | .tuple xs, .tuple ys, hx, hy, e => by
    rw [PyData.eqv] at e
    rw [eqvAll_plain (by rw [plainB] at hx; exact hx) (by rw [plainB] at hy; exact hy) e]
  | .int _, .str _, _, _, e => by rw [PyData.eqv] at e; exact nomatch e
  | .int _, .tuple _, _, _, e => by rw [PyData.eqv] at e; exact nomatch e
  | .str _, .int _, _, _, e => by rw [PyData.eqv] at e; exact nomatch e
  | .str _, .tuple _, _, _, e => by rw [PyData.eqv] at e; exact nomatch e
  | .tuple _, .int _, _, _, e => by rw [PyData.eqv] at e; exact nomatch e
  | .tuple _, .str _, _, _, e => by rw [PyData.eqv] at e; exact nomatch e
theorem eqvAll_plain : ∀ {xs ys : List PyData}, plainAll xs = true → plainAll ys = true → PyData.eqvAll xs ys = true → xs = ys
  | [], [], _, _, _ => rfl
  | x :: xs, y :: ys, hx, hy, e => by
    rw [plainAll, Bool.and_eq_true] at hx hy
    rw [PyData.eqvAll, Bool.and_eq_true] at e
    rw [eqv_plain hx.1 hy.1 e.1, eqvAll_plain hx.2 hy.2 e.2]
  | [], _ :: _, _, _, e => by rw [PyData.eqvAll] at e; exact nomatch e
  | _ :: _, [], _, _, e => by rw [PyData.eqvAll] at e; exact nomatch e
end
/-- tuples stay -/
def Tk (H H' : Hp) : Prop := ∀ b xs, H b = some (.tup xs) → H' b = some (.tup xs)
theorem Tk.refl {H : Hp} : Tk H H := fun _ _ e => e
theorem Tk.trans {H H1 H2 : Hp} (a : Tk H H1) (b : Tk H1 H2) : Tk H H2 := fun c xs e => b c xs (a c xs e)
theorem Tk.same {H H' : Hp} (s : Same H H') : Tk H H' := fun b xs e => s b _ e
theorem Tk.kp {p : Addr} {o : HO} {H H' : Hp} (k : Kp p H H') (hp : H p = some o) (n : ∀ xs, o ≠ .tup xs) : Tk H H' := fun b xs e => k b _ (fun z => by
  rw [z, hp] at e
  exact n xs (Option.some.inj e)) e
theorem Tk.kpL {p : Addr} {ys : List V} {H H' : Hp} (k : Kp p H H') (hp : H p = some (.lst ys)) : Tk H H' := Tk.kp k hp fun xs e => by cases e
mutual
theorem dn_tk {ok : Addr → Prop} {H H' : Hp} (t : Tk H H') {v : V} : ∀ {d : PyData}, plainB d = true → Dn ok H v d → Dn ok H' v d
  | .int _, _, .int i => .int i
  | .str _, _, .str x => .str x
  | .tuple ds, hp, .tup ha h hs => .tup ha (t _ _ h) (dnall_tk t (by rw [plainB] at hp; exact hp) hs)
theorem dnall_tk {ok : Addr → Prop} {H H' : Hp} (t : Tk H H') {vs : List V} : ∀ {ds : List PyData}, plainAll ds = true → DnAll ok H vs ds → DnAll ok H' vs ds
  | [], _, .nil => .nil
  | d :: ds, hp, .cons h hs => .cons (dn_tk t (by rw [plainAll, Bool.and_eq_true] at hp; exact hp.1) h) (dnall_tk t (by rw [plainAll, Bool.and_eq_true] at hp; exact hp.2) hs)
end
/-! ### letters -/
def lfs (a : Str) (n s : Int) (sv bv : V) (d : Addr) : List (Str × V) := [("author", .str a), ("number", .int n), ("stamp", .int s), ("seen", sv), ("body", bv), ("_counts", .ref d)]
abbrev csV (ps : List (Str × Int)) : List (L2.Key × V) := ps.map fun p => (Sum.inr p.1, V.int p.2)
def pairD (p : Str × Int) : PyData := .tuple [.str p.1, .int p.2]
def seenD (ps : List (Str × Int)) : PyData := .tuple (ps.map pairD)
def cnt (ps : List (Str × Int)) (m : Str) : Int := match ps.find? (fun p => decide (p.1 = m)) with | some p => p.2 | none => 0
section
variable {K : PySem.W.Frag} {C : Addr} {H H' : Hp} {x : Addr} {a : Str} {n s : Int} {ps : List (Str × Int)} {sv bv : V} {d : Addr}
theorem lfs_author : (lfs a n s sv bv d).lookup ("author" : Str) = some (.str a) := by rfl
theorem lfs_number : (lfs a n s sv bv d).lookup ("number" : Str) = some (.int n) := by rfl
theorem lfs_stamp : (lfs a n s sv bv d).lookup ("stamp" : Str) = some (.int s) := by rfl
theorem lfs_seen : (lfs a n s sv bv d).lookup ("seen" : Str) = some sv := by rfl
theorem lfs_body : (lfs a n s sv bv d).lookup ("body" : Str) = some bv := by rfl
theorem lfs_counts : (lfs a n s sv bv d).lookup ("_counts" : Str) = some (.ref d) := by rfl
theorem lfs_count : (lfs a n s sv bv d).lookup ("count" : Str) = none := by rfl
theorem lfs_hasSeen : (lfs a n s sv bv d).lookup ("has_seen" : Str) = none := by rfl
theorem lfs_value : (lfs a n s sv bv d).lookup ("value" : Str) = none := by rfl
theorem lfs_put : putF "_counts" (.ref d) (putF "body" bv (putF "seen" sv (putF "stamp" (.int s) (putF "number" (.int n) (putF "author" (.str a) []))))) = lfs a n s sv bv d := by rfl
theorem csV_app (a b : List (Str × Int)) : csV (a ++ b) = csV a ++ csV b := List.map_append
theorem valV_cs (m : Str) : ∀ ps : List (Str × Int), valV (csV ps) (Sum.inr m) = (ps.find? fun p => decide (p.1 = m)).map fun p => V.int p.2
  | [] => rfl
  | p :: ps => by
    by_cases e : p.1 = m
    · rw [List.find?_cons, decide_eq_true e]
      exact valV_pos (congrArg Sum.inr e)
    · rw [List.find?_cons, decide_eq_false e]
      exact (valV_neg (fun z => e (Sum.inr.inj z))).trans (valV_cs m ps)
theorem getD_cnt (m : Str) : (valV (csV ps) (Sum.inr m)).getD (.int 0) = .int (cnt ps m) := by
  rw [valV_cs]
  unfold cnt
  cases ps.find? (fun p => decide (p.1 = m)) <;> rfl
theorem pairs_at {ok : Addr → Prop} : ∀ {ps : List (Str × Int)} {vs : List V}, DnAll ok H vs (ps.map pairD) → ∀ (i : Nat) (v : V), vs[i]? = some v → ∃ (p : Str × Int) (t : Addr), ps[i]? = some p ∧ v = .ref t ∧ H t = some (.tup [.str p.1, .int p.2])
  | [], _, h, i, v, e => by
    cases h
    exact nomatch e
  | p :: ps, _, h, i, v, e => by
    cases h with
    | cons h hs =>
      cases i with
      | zero =>
        cases Option.some.inj e
        cases h with
        | tup _ ht hx =>
          cases hx with
          | cons h1 hx =>
            cases h1
            cases hx with
            | cons h2 hx =>
              cases h2
              cases hx
              exact ⟨p, _, rfl, rfl, ht⟩
      | succ i =>
        obtain ⟨p, t, e1, e2, e3⟩ := pairs_at hs i v e
        exact ⟨p, t, e1, e2, e3⟩
end
/-! ### letters as records -/
structure Lt where
  a : Str
  n : Int
  s : Int
  ps : List (Str × Int)
  b : PyData
def valD (L : Lt) : PyData := .tuple [.str L.a, .int L.n, .int L.s, seenD L.ps, L.b]
def keyD (L : Lt) : PyData := .tuple [.int L.s, .str L.a]
structure Wf (L : Lt) : Prop where
  n1 : 1 ≤ L.n
  nd : (L.ps.map (·.1)).Nodup
  len : L.ps.length ≤ 100
  aa : ascii L.a = true
  pa : ∀ p ∈ L.ps, ascii p.1 = true
  lb : Lay 3 L.b
  pb : plainB L.b = true
theorem plain_seen (ps : List (Str × Int)) : plainB (seenD ps) = true := plain_tup fun d hd => by
  obtain ⟨p, _, rfl⟩ := List.mem_map.mp hd
  rfl
theorem Wf.plain {L : Lt} (w : Wf L) : plainB (valD L) = true := plain_tup fun d hd => by
  simp only [List.mem_cons, List.not_mem_nil, or_false] at hd
  rcases hd with rfl | rfl | rfl | rfl | rfl
  · rfl
  · rfl
  · rfl
  · exact plain_seen _
  · exact w.pb
theorem lay_seen {ps : List (Str × Int)} (h : ∀ p ∈ ps, ascii p.1 = true) : Lay 2 (seenD ps) := lay_tup fun d hd => by
  obtain ⟨p, hp, rfl⟩ := List.mem_map.mp hd
  exact lay2 (lay_str (h p hp)) lay_int
theorem Wf.lay {L : Lt} (w : Wf L) : Lay 4 (valD L) := lay5 (lay_str w.aa) lay_int lay_int (lay_seen w.pa).up w.lb
/-- what stands in a heap and may be read: tuples and objects stay, dicts at good places too -/
def Fm (ok : Addr → Prop) (H H' : Hp) : Prop := Tk H H' ∧ (∀ b C dx fs, H b = some (.ins C dx fs) → H' b = some (.ins C dx fs)) ∧ ∀ b kvs, H b = some (.dK kvs) → ok b → H' b = some (.dK kvs)
theorem Fm.refl {ok : Addr → Prop} {H : Hp} : Fm ok H H := ⟨Tk.refl, fun _ _ _ _ e => e, fun _ _ e _ => e⟩
theorem Fm.trans {ok : Addr → Prop} {H H1 H2 : Hp} (a : Fm ok H H1) (b : Fm ok H1 H2) : Fm ok H H2 := ⟨a.1.trans b.1, fun c C dx fs e => b.2.1 c C dx fs (a.2.1 c C dx fs e), fun c kvs e o => b.2.2 c kvs (a.2.2 c kvs e o) o⟩
theorem Fm.same {ok : Addr → Prop} {H H' : Hp} (s : Same H H') : Fm ok H H' := ⟨Tk.same s, fun b _ _ _ e => s b _ e, fun b _ e _ => s b _ e⟩
theorem Fm.kpL {ok : Addr → Prop} {p : Addr} {ys : List V} {H H' : Hp} (k : Kp p H H') (hp : H p = some (.lst ys)) : Fm ok H H' :=
  ⟨Tk.kpL k hp, fun b _ _ _ e => k b _ (fun z => by rw [z, hp] at e; cases e) e, fun b _ e _ => k b _ (fun z => by rw [z, hp] at e; cases e) e⟩
theorem Fm.stm {ok : Addr → Prop} {p : Addr} {H H' : Hp} (k : Kp p H H') (s : Stm H p) : Fm ok H H' := by
  obtain ⟨a, b, h, _⟩ := s
  exact Fm.kpL k h
theorem Fm.kpD {p : Addr} {o : HO} {H H' : Hp} (k : Kp p H H') (hp : H p = some o) (n1 : ∀ xs, o ≠ .tup xs) (n2 : ∀ C dx fs, o ≠ .ins C dx fs) : Fm (Off p) H H' :=
  ⟨Tk.kp k hp n1, fun b C dx fs e => k b _ (fun z => by rw [z, hp] at e; exact n2 _ _ _ (Option.some.inj e)) e, fun b _ e n => k b _ n e⟩
def LtAt (ok : Addr → Prop) (C : Addr) (H : Hp) (x : Addr) (L : Lt) : Prop := ∃ dx d sv bv, H x = some (.ins C dx (lfs L.a L.n L.s sv bv d)) ∧ ok d ∧ H d = some (.dK (csV L.ps)) ∧ Dn Any H sv (seenD L.ps) ∧ Dn Any H bv L.b
theorem LtAt.fm {ok : Addr → Prop} {C x : Addr} {H H' : Hp} {L : Lt} (h : LtAt ok C H x L) (w : Wf L) (f : Fm ok H H') : LtAt ok C H' x L := by
  obtain ⟨dx, d, sv, bv, h1, h2, h3, h4, h5⟩ := h
  exact ⟨dx, d, sv, bv, f.2.1 _ _ _ _ h1, h2, f.2.2 _ _ h3 h2, dn_tk f.1 (plain_seen _) h4, dn_tk f.1 w.pb h5⟩
theorem LtAt.same {ok : Addr → Prop} {C x : Addr} {H H' : Hp} {L : Lt} (h : LtAt ok C H x L) (s : Same H H') : LtAt ok C H' x L := by
  obtain ⟨dx, d, sv, bv, h1, h2, h3, h4, h5⟩ := h
  exact ⟨dx, d, sv, bv, s _ _ h1, h2, s _ _ h3, h4.same s, h5.same s⟩
theorem LtAt.any {ok : Addr → Prop} {C x : Addr} {H : Hp} {L : Lt} (h : LtAt ok C H x L) : LtAt Any C H x L := by
  obtain ⟨dx, d, sv, bv, h1, h2, h3⟩ := h
  exact ⟨dx, d, sv, bv, h1, trivial, h3⟩
/-- lists of letters -/
abbrev lsV (ls : List (Addr × Lt)) : List V := ls.map fun y => V.ref y.1
def LsOk (ok : Addr → Prop) (C : Addr) (H : Hp) (ls : List (Addr × Lt)) : Prop := ∀ y ∈ ls, LtAt ok C H y.1 y.2 ∧ Wf y.2
theorem LsOk.fm {ok : Addr → Prop} {C : Addr} {H H' : Hp} {ls : List (Addr × Lt)} (h : LsOk ok C H ls) (f : Fm ok H H') : LsOk ok C H' ls := fun y hy => ⟨(h y hy).1.fm (h y hy).2 f, (h y hy).2⟩
theorem LsOk.same {ok : Addr → Prop} {C : Addr} {H H' : Hp} {ls : List (Addr × Lt)} (h : LsOk ok C H ls) (s : Same H H') : LsOk ok C H' ls := h.fm (Fm.same s)
theorem LsOk.any {ok : Addr → Prop} {C : Addr} {H : Hp} {ls : List (Addr × Lt)} (h : LsOk ok C H ls) : LsOk Any C H ls := fun y hy => ⟨(h y hy).1.any, (h y hy).2⟩
theorem LsOk.app {ok : Addr → Prop} {C : Addr} {H : Hp} {ls ms : List (Addr × Lt)} (h : LsOk ok C H ls) (k : LsOk ok C H ms) : LsOk ok C H (ls ++ ms) := fun y hy => (List.mem_append.mp hy).elim (h y) (k y)
theorem LsOk.sub {ok : Addr → Prop} {C : Addr} {H : Hp} {ls ms : List (Addr × Lt)} (h : LsOk ok C H ls) (k : ∀ y ∈ ms, y ∈ ls) : LsOk ok C H ms := fun y hy => h y (k y hy)
theorem LsOk.get {ok : Addr → Prop} {C : Addr} {H : Hp} {ls : List (Addr × Lt)} (h : LsOk ok C H ls) {i : Nat} {y : Addr × Lt} (e : ls[i]? = some y) : LtAt ok C H y.1 y.2 ∧ Wf y.2 := h y (List.mem_of_getElem? e)
def spInit (K : PySem.W.Frag) (C : Addr) : Sp := fun vs H Q _ => ∃ (x dx : Addr) (a : Str) (n s : Int) (ps : List (Str × Int)) (sv bv : V), vs = [.ref x, .str a, .int n, .int s, sv, bv] ∧ H x = some (.ins C dx []) ∧ Dn (Off x) H sv (seenD ps) ∧ (ps.map (·.1)).Nodup ∧ ps.length ≤ 1000 ∧
  ∀ H' d, H d = none → Kp x H H' → H' x = some (.ins C dx (lfs a n s sv bv d)) → H' d = some (.dK (csV ps)) → Q .non H'
def spRefP (K : PySem.W.Frag) (C : Addr) : Sp := fun vs H Q _ => ∃ (x : Addr) (L : Lt), vs = [.ref x] ∧ LtAt Any C H x L ∧ ∀ t H', H t = none → Same H H' → H' t = some (.tup [.str L.a, .int L.n]) → Q (.ref t) H'
def spKeyP (K : PySem.W.Frag) (C : Addr) : Sp := fun vs H Q _ => ∃ (x : Addr) (L : Lt), vs = [.ref x] ∧ LtAt Any C H x L ∧ ∀ t H', H t = none → Same H H' → H' t = some (.tup [.int L.s, .str L.a]) → Q (.ref t) H'
def spValue (K : PySem.W.Frag) (C : Addr) : Sp := fun vs H Q _ => ∃ (x : Addr) (L : Lt), vs = [.ref x] ∧ LtAt Any C H x L ∧ ∀ v H', Same H H' → Dn Any H' v (valD L) → Q v H'
def spCount (K : PySem.W.Frag) (C : Addr) : Sp := fun vs H Q _ => ∃ (x : Addr) (m : Str) (L : Lt), vs = [.ref x, .str m] ∧ LtAt Any C H x L ∧ Q (.int (cnt L.ps m)) H
section
variable {K : PySem.W.Frag} {C : Addr} {vs : List V} {H : Hp} {Q : VK} {E : XK}
theorem w_fldV {i : Nat} {σ : L2.St} {f : Str} {x dx : Addr} {fs : List (Str × V)} {v : V} (hi : σ[i]? = some (some (.ref x))) (h : H x = some (.ins C dx fs)) (c : Cls K C) (nn : NoAttr K C f) (l : fs.lookup f = some v) (q : Q v H) : tFld K (tVar i) f σ H Q :=
  ⟨_, hi, x, C, dx, fs, v, rfl, h, c, nn, l, q⟩
theorem w_methV {i : Nat} {σ : L2.St} {m : Str} {x dx : Addr} {fs : List (Str × V)} {sp : Sp} {dvs : List V} {E : XK} {t : TA} (hi : σ[i]? = some (some (.ref x))) (h : H x = some (.ins C dx fs)) (l : fs.lookup m = none) (q : t σ H fun vs H2 => sp (.ref x :: (vs ++ dvs)) H2 Q E) : tMeth C m sp dvs E (tVar i) t σ H Q :=
  ⟨_, hi, x, dx, fs, rfl, h, l, q⟩
theorem w_propV {i : Nat} {σ : L2.St} {x dx : Addr} {fs : List (Str × V)} {sp : Sp} {dvs : List V} {E : XK} (hi : σ[i]? = some (some (.ref x))) (h : H x = some (.ins C dx fs)) (q : sp (.ref x :: dvs) H Q E) : tProp C sp dvs E (tVar i) σ H Q :=
  ⟨_, hi, x, dx, fs, rfl, h, q⟩
/-- Letter_ref: slots 0:self -/
def t_Letter_ref (K : PySem.W.Frag) (C_Letter : Addr) : TS := (tRet (tTup (tCons (tFld K (tVar 0) "author") (tCons (tFld K (tVar 0) "number") tNil))))
theorem l_Letter_ref (h : spRefP K C vs H Q E) : vs.length = 1 := by obtain ⟨x, L, rfl, _⟩ := h; rfl
theorem r_Letter_ref (LC : IsC_Letter K C) (h : spRefP K C vs H Q E) : t_Letter_ref K C { nx := fun _ H' => Q .non H', rt := Q } (start ["self"] vs) H := by
  obtain ⟨x, L, rfl, ⟨dx, d, sv, bv, hx, _, hd, _⟩, q⟩ := h
  unfold t_Letter_ref
  walk_at "v"
  refine w_fldV rfl hx LC.cl LC.n_author lfs_author ?_
  walk_at "v"
  refine w_fldV rfl hx LC.cl LC.n_number lfs_number ?_
  walk_at "v"
  exact w_new q
/-- Letter_value: slots 0:self -/
def t_Letter_value (K : PySem.W.Frag) (C_Letter : Addr) : TS := (tRet (tTup (tCons (tFld K (tVar 0) "author") (tCons (tFld K (tVar 0) "number") (tCons (tFld K (tVar 0) "stamp") (tCons (tFld K (tVar 0) "seen") (tCons (tFld K (tVar 0) "body") tNil)))))))
theorem l_Letter_value (h : spValue K C vs H Q E) : vs.length = 1 := by obtain ⟨x, L, rfl, _⟩ := h; rfl
theorem r_Letter_value (LC : IsC_Letter K C) (h : spValue K C vs H Q E) : t_Letter_value K C { nx := fun _ H' => Q .non H', rt := Q } (start ["self"] vs) H := by
  obtain ⟨x, L, rfl, ⟨dx, d, sv, bv, hx, _, hd, hsv, hbv⟩, q⟩ := h
  unfold t_Letter_value
  walk_at "v"
  refine w_fldV rfl hx LC.cl LC.n_author lfs_author ?_
  walk_at "v"
  refine w_fldV rfl hx LC.cl LC.n_number lfs_number ?_
  walk_at "v"
  refine w_fldV rfl hx LC.cl LC.n_stamp lfs_stamp ?_
  walk_at "v"
  refine w_fldV rfl hx LC.cl LC.n_seen lfs_seen ?_
  walk_at "v"
  refine w_fldV rfl hx LC.cl LC.n_body lfs_body ?_
  walk_at "v"
  exact w_new fun p H2 _ s ht => q _ H2 s (.tup trivial ht (.cons (.str _) (.cons (.int _) (.cons (.int _) (.cons (hsv.same s) (.cons (hbv.same s) .nil))))))
/-- Letter___init__: slots 0:self 1:author 2:number 3:stamp 4:seen 5:body 6:name 7:count -/
def t_Letter___init__ (K : PySem.W.Frag) (C_Letter : Addr) : TS := (tSeq (sFld K (tVar 0) (tVar 1) "author")
  (tSeq (sFld K (tVar 0) (tVar 2) "number")
  (tSeq (sFld K (tVar 0) (tVar 3) "stamp")
  (tSeq (sFld K (tVar 0) (tVar 4) "seen")
  (tSeq (sFld K (tVar 0) (tVar 5) "body")
  (sFld K (tVar 0) (tDc (iTup K (tVar 4)) (gTup K 2 (gCons (gName 6) (gCons (gName 7) gNil))) tYes (tVar 6) (tVar 7) [6, 7]) "_counts"))))))
theorem l_Letter___init__ (h : spInit K C vs H Q E) : vs.length = 6 := by obtain ⟨x, dx, a, n, s, ps, sv, bv, rfl, _⟩ := h; rfl
theorem r_Letter___init__ (LC : IsC_Letter K C) (h : spInit K C vs H Q E) : t_Letter___init__ K C { nx := fun _ H' => Q .non H', rt := Q } (start ["self", "author", "number", "stamp", "seen", "body", "name", "count"] vs) H := by
  obtain ⟨x, dx, a, n, s, ps, sv, bv, rfl, hx, hsv, hnd, hlen, q⟩ := h
  unfold t_Letter___init__
  walk_at "w"
  refine w_sfld (w_var rfl (w_var rfl ⟨x, C, dx, _, rfl, hx, LC.cl, LC.n_author, (show 0 < 1000 by decide), ?_⟩))
  walk_at "w"
  refine w_sfld (w_var rfl (w_var rfl ⟨x, C, dx, _, rfl, upd_same, LC.cl, LC.n_number, (show 1 < 1000 by decide), ?_⟩))
  walk_at "w"
  refine w_sfld (w_var rfl (w_var rfl ⟨x, C, dx, _, rfl, upd_same, LC.cl, LC.n_stamp, (show 2 < 1000 by decide), ?_⟩))
  walk_at "w"
  refine w_sfld (w_var rfl (w_var rfl ⟨x, C, dx, _, rfl, upd_same, LC.cl, LC.n_seen, (show 3 < 1000 by decide), ?_⟩))
  walk_at "w"
  refine w_sfld (w_var rfl (w_var rfl ⟨x, C, dx, _, rfl, upd_same, LC.cl, LC.n_body, (show 4 < 1000 by decide), ?_⟩))
  walk_at "w"
  have kx : ∀ {G : Hp} {o : HO}, Kp x H G → Kp x H (upd G x o) := fun k => k.updp
  have k5 := kx (o := .ins C dx (putF "body" bv (putF "seen" sv (putF "stamp" (.int s) (putF "number" (.int n) (putF "author" (.str a) [])))))) (kx (o := .ins C dx (putF "seen" sv (putF "stamp" (.int s) (putF "number" (.int n) (putF "author" (.str a) []))))) (kx (o := .ins C dx (putF "stamp" (.int s) (putF "number" (.int n) (putF "author" (.str a) [])))) (kx (o := .ins C dx (putF "number" (.int n) (putF "author" (.str a) []))) (kx (o := .ins C dx (putF "author" (.str a) [])) Kp.refl))))
  have h5 : (upd (upd (upd (upd (upd H x (.ins C dx (putF "author" (.str a) []))) x (.ins C dx (putF "number" (.int n) (putF "author" (.str a) [])))) x (.ins C dx (putF "stamp" (.int s) (putF "number" (.int n) (putF "author" (.str a) []))))) x (.ins C dx (putF "seen" sv (putF "stamp" (.int s) (putF "number" (.int n) (putF "author" (.str a) [])))))) x (.ins C dx (putF "body" bv (putF "seen" sv (putF "stamp" (.int s) (putF "number" (.int n) (putF "author" (.str a) []))))))) x = some (.ins C dx (putF "body" bv (putF "seen" sv (putF "stamp" (.int s) (putF "number" (.int n) (putF "author" (.str a) [])))))) := upd_same
  revert k5 h5
  generalize (upd (upd (upd (upd (upd H x (.ins C dx (putF "author" (.str a) []))) x (.ins C dx (putF "number" (.int n) (putF "author" (.str a) [])))) x (.ins C dx (putF "stamp" (.int s) (putF "number" (.int n) (putF "author" (.str a) []))))) x (.ins C dx (putF "seen" sv (putF "stamp" (.int s) (putF "number" (.int n) (putF "author" (.str a) [])))))) x (.ins C dx (putF "body" bv (putF "seen" sv (putF "stamp" (.int s) (putF "number" (.int n) (putF "author" (.str a) []))))))) = H5
  intro k5 h5
  have hsv5 : Dn (Off x) H5 sv (seenD ps) := hsv.kp k5
  cases hsv5 with
  | @tup ta xs _ hok ht hxs =>
    have hxl : xs.length = ps.length := by rw [hxs.len, List.length_map]
    show sFld K (tVar 0) (tDc (iTup K (tVar 4)) (gTup K 2 (gCons (gName 6) (gCons (gName 7) gNil))) tYes (tVar 6) (tVar 7) [6, 7]) "_counts" _ _ _
    refine w_sfld ?_
    show iTup K (tVar 4) _ _ _
    refine w_iTup (w_var rfl ⟨ta, rfl, ⟨_, SqT.of ht⟩, fun D hD => ?_⟩)
    refine dc_tup (fun i H' => (∀ b o, b ≠ D → H5 b = some o → H' b = some o) ∧ H' D = some (.dK (csV (ps.take i)))) ⟨fun b o nb e => by rw [upd_ne nb]; exact e, upd_same⟩ (fun i H' _ pv => SqT.of (pv.1 _ _ (ne_of_none ht hD) ht)) (fun i v H' hv pv => ?_) (fun H' pv => ?_)
    · obtain ⟨p, t, e1, rfl, e3⟩ := pairs_at hxs i v hv
      refine ⟨t, _, rfl, SqT.of (pv.1 _ _ (ne_of_none e3 hD) e3), rfl, gc (w_name (gc (w_name (gn ⟨rfl, ?_⟩))))⟩
      refine w_yes ?_
      refine iteT_ ?_
      refine w_var rfl (w_var rfl ⟨_, Sum.inr p.1, rfl, pv.2, ?_, fun b o nb e => by rw [upd_ne nb]; exact pv.1 b o nb e, ?_⟩)
      · rw [List.length_map, List.length_take]
        exact Nat.lt_of_le_of_lt (show min i ps.length ≤ 1000 by omega) (by decide)
      · have hi : i < ps.length := (List.getElem?_eq_some_iff.mp e1).1
        have hp : ps[i] = p := (List.getElem?_eq_some_iff.mp e1).2
        have hnone : valV (csV (ps.take i)) (Sum.inr p.1) = none := by
          rw [valV_cs]
          have : (ps.take i).find? (fun q => decide (q.1 = p.1)) = none := by
            rw [List.find?_eq_none]
            intro q hq e
            have e := of_decide_eq_true e
            obtain ⟨j, hj⟩ := List.mem_iff_getElem?.mp hq
            rw [List.getElem?_take] at hj
            split at hj
            · rename_i hji
              have h1 : (ps.map (·.1))[j]? = some p.1 := by rw [List.getElem?_map, hj]; exact congrArg some e
              have h2 : (ps.map (·.1))[i]? = some p.1 := by rw [List.getElem?_map, e1]; rfl
              have := (List.getElem?_inj (by rw [List.length_map]; omega) hnd).mp (h1.trans h2.symm)
              omega
            · exact nomatch hj
          rw [this]
          rfl
        rw [upd_same, putK_new _ hnone, List.take_add_one, e1, csV_app]
        rfl
    · obtain ⟨p1, p2⟩ := pv
      have nx : D ≠ x := fun e => by
        subst e
        rw [h5] at hD
        cases hD
      have hx' := p1 x _ nx.symm h5
      rw [hxl, List.take_length] at p2
      refine w_var rfl ⟨x, C, dx, _, rfl, hx', LC.cl, LC.n_counts, (show 5 < 1000 by decide), ?_⟩
      rw [lfs_put]
      refine q _ D (k5.free nx hD) (fun b o nb e => ?_) upd_same (by rw [upd_ne nx]; exact p2)
      rw [upd_ne nb]
      have e5 := k5 b o nb e
      exact p1 b o (ne_of_none e5 hD) e5
end

/-! ### shared steps -/
section
variable {K : PySem.W.Frag} {C CL : Addr} {vs : List V} {H : Hp} {Q : VK} {E : XK} {σ : L2.St} {D : Ends} {td ty : TE} {tt : TT}
theorem same_none {H H' : Hp} {a : Addr} (s : Same H H') (h : H' a = none) : H a = none := by
  cases e : H a with
  | none => rfl
  | some o => rw [s _ _ e] at h; cases h
theorem Same.kp0 {H0 H H' : Hp} {p : Addr} (s : Same H0 H) (k : Kp p H H') (n : H0 p = none) : Same H0 H' := fun b o e => k b o (ne_of_none e n) (s _ _ e)
theorem Fm.kpK {ok : Addr → Prop} {p : Addr} {o : HO} {H H' : Hp} (k : Kp p H H') (hp : H p = some o) (n1 : ∀ xs, o ≠ .tup xs) (n2 : ∀ C dx fs, o ≠ .ins C dx fs) (n3 : ∀ kvs, o ≠ .dK kvs) : Fm ok H H' :=
  ⟨Tk.kp k hp n1, fun b C dx fs e => k b _ (fun z => by rw [z, hp] at e; exact n2 _ _ _ (Option.some.inj e)) e, fun b _ e _ => k b _ (fun z => by rw [z, hp] at e; exact n3 _ (Option.some.inj e)) e⟩
theorem ne_kind {b p : Addr} {o u : HO} (e : H b = some o) (hp : H p = some u) (n : o = u → False) : b ≠ p := fun z => by
  rw [z, hp] at e
  exact n (Option.some.inj e).symm
theorem cutV_to {xs : List V} {j : Nat} (h : j ≤ xs.length) : cutV xs none (some (j : Int)) = xs.take j := by
  unfold cutV
  rw [HT.sIx_none, HT.sIx_nat, Nat.min_eq_left h]
  rfl
theorem cutV_from {xs : List V} {i : Nat} (h : i ≤ xs.length) : cutV xs (some (i : Int)) none = xs.drop i := by
  unfold cutV
  rw [HT.sIx_none, HT.sIx_nat, Nat.min_eq_left h, ← List.length_drop, List.take_length]
theorem lay_list {k : Nat} {ds : List PyData} (h : ∀ d ∈ ds, Lay k d) : Lay (k + 1) (.list ds) :=
  ⟨by rw [PyData.canLay0]; exact (lay_all h).1, by rw [PyData.depth]; exact Nat.succ_le_succ (lay_all h).2⟩
theorem lay_vals {ls : List (Addr × Lt)} (h : ∀ y ∈ ls, Wf y.2) : SeqAt.shaped (.list (ls.map fun y => valD y.2)) = true := (lay_list (k := 4) fun d hd => by
  obtain ⟨y, hy, rfl⟩ := List.mem_map.mp hd
  exact (h y hy).lay).shaped
theorem stm_ne {H : Hp} {a p : Addr} {ls : List (Addr × Lt)} (s : Stm H p) (e : H a = some (.lst (lsV ls))) : a ≠ p := fun z => by
  obtain ⟨x, y, h, _⟩ := s
  rw [z, h] at e
  cases ls with
  | nil => cases e
  | cons o ls =>
    injection e with e
    injection e with e
    have : V.int x = V.ref o.1 := (List.cons.inj e).1
    exact nomatch this
theorem ixN_at {n j : Nat} (hj : j < n) : ixN n (j : Int) = some j := by
  unfold ixN
  rw [if_pos (by omega), if_pos (by omega)]
  simp
theorem lsV_app (a b : List (Addr × Lt)) : lsV (a ++ b) = lsV a ++ lsV b := List.map_append
theorem lsV_take (a : List (Addr × Lt)) (n : Nat) : (lsV a).take n = lsV (a.take n) := List.map_take.symm
theorem lsV_drop (a : List (Addr × Lt)) (n : Nat) : (lsV a).drop n = lsV (a.drop n) := List.map_drop.symm
theorem lsV_len (a : List (Addr × Lt)) : (lsV a).length = a.length := List.length_map _
theorem dn_made2 {ok : Addr → Prop} {C x dx : Addr} {H : Hp} {o : HO} {v : V} {d : PyData} (h : Dn ok H v d) (hx : H x = none) (hdx : H dx = none) (fs : List (Str × V)) : Dn (Off x) (upd (upd H dx o) x (.ins C dx fs)) v d :=
  (h.any.off hx).kp ((Kp.upd Kp.refl hdx).updp)
theorem stm_kp {q p : Addr} {H H' : Hp} (s : Stm H p) (k : Kp q H H') (n : p ≠ q) : Stm H' p := by
  obtain ⟨x, y, e, r⟩ := s
  exact ⟨x, y, k _ _ n e, r⟩
/-! ### a dict of counts -/
structure DI (cs : List (L2.Key × V)) (ks : List Str) (f : Str → Int) : Prop where
  keys : cs.map (·.1) = ks.map Sum.inr
  nd : ks.Nodup
  val : ∀ a, valV cs (Sum.inr a) = if a ∈ ks then some (.int (f a)) else none
def cv (ks : List Str) (f : Str → Int) (a : Str) : Int := if a ∈ ks then f a else 0
theorem DI.nil {f : Str → Int} : DI [] [] f := ⟨rfl, List.nodup_nil, fun _ => rfl⟩
theorem DI.len {cs : List (L2.Key × V)} {ks : List Str} {f : Str → Int} (h : DI cs ks f) : cs.length = ks.length := by
  have := congrArg List.length h.keys
  rw [List.length_map, List.length_map] at this
  exact this
theorem DI.getD {cs : List (L2.Key × V)} {ks : List Str} {f : Str → Int} (h : DI cs ks f) (a : Str) : (valV cs (Sum.inr a)).getD (.int 0) = .int (cv ks f a) := by
  rw [h.val]
  unfold cv
  split <;> rfl
theorem DI.has {cs : List (L2.Key × V)} {ks : List Str} {f : Str → Int} (h : DI cs ks f) {a : Str} (m : a ∈ ks) : valV cs (Sum.inr a) = some (.int (f a)) := by
  rw [h.val, if_pos m]
theorem DI.at_ {cs : List (L2.Key × V)} {ks : List Str} {f : Str → Int} (h : DI cs ks f) {i : Nat} {k : L2.Key} {v : V} (e : cs[i]? = some (k, v)) : ∃ a, ks[i]? = some a ∧ k = Sum.inr a := by
  have h1 : (cs.map (·.1))[i]? = some k := by rw [List.getElem?_map, e]; rfl
  rw [h.keys, List.getElem?_map] at h1
  obtain ⟨a, ha, rfl⟩ := Option.map_eq_some_iff.mp h1
  exact ⟨a, ha, rfl⟩
theorem DI.putNew {cs : List (L2.Key × V)} {ks : List Str} {f : Str → Int} (h : DI cs ks f) {a : Str} (n : a ∉ ks) (v : Int) : DI (putK cs (Sum.inr a) (.int v)) (ks ++ [a]) (fun b => if b = a then v else f b) := by
  have hn : valV cs (Sum.inr a) = none := by rw [h.val, if_neg n]
  refine ⟨?_, ?_, fun b => ?_⟩
  · rw [putK_new _ hn, List.map_append, List.map_append, h.keys]
    rfl
  · rw [List.nodup_append]
    refine ⟨h.nd, by simp, fun x hx y hy z => ?_⟩
    rw [List.mem_singleton.mp hy] at z
    exact n (z ▸ hx)
  · rw [valV_put]
    by_cases e : b = a
    · subst e
      rw [if_pos rfl, if_pos (List.mem_append_right _ (List.mem_singleton.mpr rfl)), if_pos rfl]
    · rw [if_neg (fun z => e (Sum.inr.inj z)), h.val, if_neg e]
      by_cases m : b ∈ ks
      · rw [if_pos m, if_pos (List.mem_append_left _ m)]
      · rw [if_neg m, if_neg (fun z => (List.mem_append.mp z).elim m fun z => e (List.mem_singleton.mp z))]
theorem DI.putOld {cs : List (L2.Key × V)} {ks : List Str} {f : Str → Int} (h : DI cs ks f) {a : Str} (n : a ∈ ks) (v : Int) : DI (putK cs (Sum.inr a) (.int v)) ks (fun b => if b = a then v else f b) := by
  have hn : (cs.any fun kv => decide (kv.1 = Sum.inr a)) = true := by rw [valV_any, h.has n]; rfl
  refine ⟨?_, h.nd, fun b => ?_⟩
  · unfold putK
    rw [if_pos hn, List.map_map, ← h.keys]
    refine List.map_congr_left fun kv _ => ?_
    show (if kv.1 = Sum.inr a then (kv.1, V.int v) else kv).1 = kv.1
    split <;> rfl
  · rw [valV_put]
    by_cases e : b = a
    · subst e
      rw [if_pos rfl, if_pos n, if_pos rfl]
    · rw [if_neg (fun z => e (Sum.inr.inj z)), h.val, if_neg e]
theorem DI.put {cs : List (L2.Key × V)} {ks : List Str} {f : Str → Int} (h : DI cs ks f) (a : Str) (v : Int) : ∃ ks', DI (putK cs (Sum.inr a) (.int v)) ks' (fun b => if b = a then v else f b) ∧ a ∈ ks' ∧ (∀ b, b ∈ ks' ↔ b ∈ ks ∨ b = a) ∧ ks'.length ≤ ks.length + 1 := by
  by_cases m : a ∈ ks
  · exact ⟨ks, h.putOld m v, m, fun b => ⟨.inl, fun z => z.elim id fun e => e ▸ m⟩, Nat.le_succ _⟩
  · refine ⟨ks ++ [a], h.putNew m v, List.mem_append_right _ (List.mem_singleton.mpr rfl), fun b => ?_, ?_⟩
    · rw [List.mem_append, List.mem_singleton]
    · rw [List.length_append, List.length_singleton]
      exact Nat.le_refl _
theorem w_din (q : ty σ H fun y H1 => td σ H1 fun x H2 => ∃ a o, x = .ref a ∧ DGet H2 a y o ∧ Q (.bl o.isSome) H2) : tDIn ty td σ H Q := q
theorem w_dnewT (q : ∀ p H2, H p = none → Same H H2 → H2 p = some (.dT []) → Q (.ref p) H2) : tDNewT σ H Q := fun p hp => q p _ hp (Same.upd (Same.refl H) hp) upd_same
theorem w_dnewK (q : ∀ p H2, H p = none → Same H H2 → H2 p = some (.dK []) → Q (.ref p) H2) : tDNewK σ H Q := fun p hp => q p _ hp (Same.upd (Same.refl H) hp) upd_same
theorem dputK {a : Addr} {kvs : List (L2.Key × V)} {k : L2.Key} {v : V} {R : Hp → Prop} (e : H a = some (.dK kvs)) (hl : kvs.length ≤ 100000) (q : ∀ H4, Kp a H H4 → H4 a = some (.dK (putK kvs k v)) → R H4) :
    ∃ a' H4, V.ref a = .ref a' ∧ DPut H a' (kV k) v H4 ∧ R H4 := ⟨a, _, rfl, DPut.k e (Nat.lt_of_le_of_lt hl (by decide)), q _ Kp.refl.updp upd_same⟩
theorem dputT {a b : Addr} {kvs : List (List L2.Key × V)} {k : List L2.Key} {v : V} {R : Hp → Prop} (e : H a = some (.dT kvs)) (eb : H b = some (.tup (k.map kV))) (hl : kvs.length ≤ 100000) (q : ∀ H4, Kp a H H4 → H4 a = some (.dT (putK kvs k v)) → R H4) :
    ∃ a' H4, V.ref a = .ref a' ∧ DPut H a' (.ref b) v H4 ∧ R H4 := ⟨a, _, rfl, .inr ⟨kvs, k, b, e, rfl, eb, Nat.lt_of_le_of_lt hl (by decide), rfl⟩, q _ Kp.refl.updp upd_same⟩
theorem sfldV {x dx : Addr} {fs : List (Str × V)} {f : Str} {y : V} {R : Hp → Prop} (h : H x = some (.ins C dx fs)) (c : Cls K C) (n : NoAttr K C f) (l : fs.length < 1000) (q : ∀ H4, Kp x H H4 → H4 x = some (.ins C dx (putF f y fs)) → R H4) :
    ∃ a C' dx' fs', V.ref x = .ref a ∧ H a = some (.ins C' dx' fs') ∧ Cls K C' ∧ NoAttr K C' f ∧ fs'.length < 1000 ∧ R (upd H a (.ins C' dx' (putF f y fs'))) := ⟨x, C, dx, fs, rfl, h, c, n, l, q _ Kp.refl.updp upd_same⟩
theorem w_sfldAug {ta tv : TE} {rd : V → V → Hp → VK → Prop} {f : Str} (q : ta σ H fun x H1 => ∃ a C dx fs v, x = .ref a ∧ H1 a = some (.ins C dx fs) ∧ Cls K C ∧ NoAttr K C f ∧ fs.lookup f = some v ∧
  tv σ H1 fun y H2 => rd v y H2 fun z H3 => ∃ dx' fs', H3 a = some (.ins C dx' fs') ∧ fs'.length < 1000 ∧ D.nx σ (upd H3 a (.ins C dx' (putF f z fs')))) : sFldAug K ta tv rd f D σ H := q
theorem ite_t {b : Bool} {A B : Prop} (h : b = true) (q : A) : if b = true then A else B := by rw [if_pos h]; exact q
theorem ite_f {b : Bool} {A B : Prop} (h : ¬ b = true) (q : B) : if b = true then A else B := by rw [if_neg h]; exact q
theorem same_made2 {x dx : Addr} {o o' : HO} {G : Hp} (hx : H x = none) (hdx : H dx = none) (k : Kp x (upd (upd H dx o) x o') G) : Same H G :=
  (((Kp.upd Kp.refl hdx).updp (H := H)).trans k).same hx
/-- [letter.value() for letter in ..] -/
theorem lcVals {ws : List Nat} {Qd : Addr → Hp → Prop} {a : Addr} {ls : List (Addr × Lt)} {i : Nat} (ha : H a = some (.lst (lsV ls))) (hok : LsOk Any C H ls) (hl : ls.length ≤ 1000) (hw : ∀ x, wipe ((wipe σ ws).set i (some x)) ws = wipe σ ws) (hi : ∀ x, ((wipe σ ws).set i (some x))[i]? = some (some x))
    (q : ∀ D ts H1, H D = none → Same H H1 → H1 D = some (.lst ts) → DnAll Any H1 ts (ls.map fun y => valD y.2) → Qd D H1) :
    ∀ D, H D = none → ∃ W : Nat → Nat → Hp → Prop, (∃ m, W 0 m (upd H D (.lst []))) ∧ ∀ i' m H, W i' m H →
  ((Itl K a).stop i' H ∧ Qd D H) ∨ ((Itl K a).go i' H ∧ ∃ Nx : Hp → Prop, (∀ H', Nx H' → ∃ m', m' < m ∧ W (i' + 1) m' H') ∧ ∀ x H', (Itl K a).yld i' H x H' → gName i x (wipe σ ws) H' fun σ2 H2 => wipe σ2 ws = wipe σ ws ∧ tYes σ2 H2 fun b H3 =>
    if b = true then tMeth C (Str.ofString "value") (spValue K C) [] C8.E0 (tVar i) tNil σ2 H3 fun y H4 => ∃ acc, H4 D = some (.lst acc) ∧ acc.length < sizeLine ∧ Nx (upd H4 D (.lst (acc ++ [y]))) else Nx H3) := by
  intro D hD
  refine lc_it (walk_list (xs := lsV ls)) (fun k G => Same H G ∧ ∃ ts, G D = some (.lst ts) ∧ ts.length ≤ k ∧ DnAll Any G ts ((ls.take k).map fun y => valD y.2)) ⟨Same.upd (Same.refl H) hD, [], upd_same, Nat.le_refl _, .nil⟩ (fun k G _ s => SqL.of (s.1 _ _ ha)) ?_ ?_
  · rintro k x G G' hk ⟨s, ts, eD, hts, dts⟩ ⟨rfl, hx⟩
    rw [List.getElem?_map] at hx
    obtain ⟨y, hy, rfl⟩ := Option.map_eq_some_iff.mp hx
    have hy' := hok.get hy
    obtain ⟨dx, d, sv, bv, hyx, _⟩ := id hy'.1
    rw [lsV_len] at hk
    refine w_name ⟨hw _, w_yes (iteT_ (w_methV (hi _) (s _ _ hyx) lfs_value (w_nil ⟨y.1, y.2, rfl, hy'.1.same s, fun v G2 s2 dv => ⟨ts, s2 _ _ eD, ?_, ?_, _, upd_same, ?_, ?_⟩⟩)))⟩
    · exact Nat.lt_of_le_of_lt (show ts.length ≤ 1000 by omega) (by decide)
    · exact fun b o e2 => by
        rw [upd_ne (ne_of_none e2 hD)]
        exact s2 _ _ (s _ _ e2)
    · rw [List.length_append, List.length_singleton]
      omega
    · have tk : Tk G2 (upd G2 D (.lst (ts ++ [v]))) := Tk.kpL Kp.refl.updp (s2 _ _ eD)
      rw [List.take_add_one, hy, Option.toList_some, List.map_append]
      refine DnAll.app (dnall_tk tk (plainAll_of fun d hd => ?_) (dts.same s2)) (.cons (dn_tk tk hy'.2.plain dv) .nil)
      obtain ⟨o, ho, rfl⟩ := List.mem_map.mp hd
      exact (hok o (List.mem_of_mem_take ho)).2.plain
  · rintro G ⟨s, ts, eD, hts, dts⟩
    rw [lsV_len, List.take_length] at dts
    exact q D ts G hD s eD dts
theorem lcLs {ws : List Nat} {Qd : Addr → Hp → Prop} {a : Addr} {ls : List (Addr × Lt)} {i : Nat} (p : Addr × Lt → Bool) (hS : ∀ H1, Same H H1 → SqL K H1 a (lsV ls)) (hl : ls.length ≤ 1000) (hw : ∀ x, wipe ((wipe σ ws).set i (some x)) ws = wipe σ ws) (hi : ∀ x, ((wipe σ ws).set i (some x))[i]? = some (some x))
    (ht : ∀ y ∈ ls, ∀ H1, Same H H1 → ∀ R : Bool → Hp → Prop, (∀ H2, Same H1 H2 → R (p y) H2) → tt ((wipe σ ws).set i (some (.ref y.1))) H1 R)
    (q : ∀ D H1, H D = none → Same H H1 → H1 D = some (.lst (lsV (ls.filter p))) → Qd D H1) :
    ∀ D, H D = none → ∃ W : Nat → Nat → Hp → Prop, (∃ m, W 0 m (upd H D (.lst []))) ∧ ∀ i' m H, W i' m H →
  ((Itl K a).stop i' H ∧ Qd D H) ∨ ((Itl K a).go i' H ∧ ∃ Nx : Hp → Prop, (∀ H', Nx H' → ∃ m', m' < m ∧ W (i' + 1) m' H') ∧ ∀ x H', (Itl K a).yld i' H x H' → gName i x (wipe σ ws) H' fun σ2 H2 => wipe σ2 ws = wipe σ ws ∧ tt σ2 H2 fun b H3 =>
    if b = true then tVar i σ2 H3 fun y H4 => ∃ acc, H4 D = some (.lst acc) ∧ acc.length < sizeLine ∧ Nx (upd H4 D (.lst (acc ++ [y]))) else Nx H3) := by
  intro D hD
  refine lc_it (walk_list (xs := lsV ls)) (fun k G => Same H G ∧ G D = some (.lst (lsV ((ls.take k).filter p)))) ⟨Same.upd (Same.refl H) hD, upd_same⟩ (fun k G _ s => hS _ s.1) ?_ ?_
  · rintro k x G G' hk ⟨s, e⟩ ⟨rfl, hx⟩
    rw [List.getElem?_map] at hx
    obtain ⟨y, hy, rfl⟩ := Option.map_eq_some_iff.mp hx
    refine w_name ⟨hw _, ht y (List.mem_of_getElem? hy) _ s _ fun H2 s2 => ?_⟩
    have et : ls.take (k + 1) = ls.take k ++ [y] := by rw [List.take_add_one, hy]; rfl
    cases hp : p y with
    | true =>
      refine ite_t rfl (w_var (hi _) ⟨_, s2 _ _ e, ?_, ?_, ?_⟩)
      · rw [List.length_map]
        have h1 := List.length_filter_le p (ls.take k)
        have h2 : (ls.take k).length ≤ ls.length := by rw [List.length_take]; omega
        exact Nat.lt_of_le_of_lt (show _ ≤ 1000 by omega) (by decide)
      · exact fun b o e2 => by
          rw [upd_ne (ne_of_none e2 hD)]
          exact s2 _ _ (s _ _ e2)
      · rw [upd_same, et, List.filter_append, List.filter_cons_of_pos hp, List.filter_nil]
        unfold lsV
        rw [List.map_append]
        rfl
    | false =>
      refine ite_f (by decide) ⟨s.trans s2, ?_⟩
      rw [et, List.filter_append, List.filter_cons_of_neg (by simp [hp]), List.filter_nil, List.append_nil]
      exact s2 _ _ e
  · rintro G ⟨s, e⟩
    rw [show (lsV ls).length = ls.length from List.length_map _, List.take_length] at e
    exact q D G hD s e
end

/-! ### people -/
def NAMES8 : List Str := ["an", "ann", "anna", "ann2", "b", "b7", "hugohugohugo", "h0"]
theorem ascii_of (z : String) : ascii (Str.ofString z) = true := by
  unfold ascii
  rw [List.all_eq_true]
  intro c hc
  have h : c ∈ z.toList.map fun x => x.toNat := by rw [Str.ofString_eq_toList] at hc; simpa using hc
  obtain ⟨x, _, rfl⟩ := List.mem_map.mp h
  have := x.valid
  exact decide_eq_true (by rcases this with h | ⟨_, h⟩ <;> (have e : x.toNat = x.val.toNat := rfl; omega))
theorem tl_app (a b : Str) : (a ++ b).cps.toList = a.cps.toList ++ b.cps.toList := TL.tl_append a b
theorem ascii_app {a b : Str} (h : ascii a = true) (h' : ascii b = true) : ascii (a ++ b) = true := by
  unfold ascii at h h' ⊢
  rw [tl_app, List.all_append, h, h']
  rfl
theorem names8_ascii : ∀ z ∈ NAMES8, ascii z = true := by decide
def spPeople (K : PySem.W.Frag) : Sp := fun vs H Q _ => ∃ (p : Addr) (n : Int), vs = [.ref p, .int n] ∧ Stm H p ∧ 0 ≤ n ∧ n ≤ 2 ∧
  ∀ a (ps : List Str) H', H a = none → Kp p H H' → Stm H' p → H' a = some (.lst (ps.map V.str)) → (∀ x ∈ ps, x ∈ NAMES8) → n ≤ ps.length → ps.length ≤ 8 → Q (.ref a) H'
section
variable {K : PySem.W.Frag} {vs : List V} {H : Hp} {Q : VK} {E : XK}
/-- _law_people: slots 0:stream 1:least 2:names 3:start 4:step 5:many 6:k -/
def t__law_people (K : PySem.W.Frag) : TS := (tSeq (tAsg (tLst (tCons (tC (.str "an")) (tCons (tC (.str "ann")) (tCons (tC (.str "anna")) (tCons (tC (.str "ann2")) (tCons (tC (.str "b")) (tCons (tC (.str "b7")) (tCons (tC (.str "hugohugohugo")) (tCons (tC (.str "h0")) tNil))))))))) (gName 2))
  (tSeq (tAsg (tCall (spNext K) [] C8.E0 (tCons (tVar 0) (tCons (tC (.int 8)) tNil))) (gName 3))
  (tSeq (tAsg (tOp qAdd (tC (.int 1)) (tOp qMul (tC (.int 2)) (tCall (spNext K) [] C8.E0 (tCons (tVar 0) (tCons (tC (.int 4)) tNil))))) (gName 4))
  (tSeq (tAsg (tOp qAdd (tVar 1) (tCall (spNext K) [] C8.E0 (tCons (tVar 0) (tCons (tOp qSub (tC (.int 6)) (tVar 1)) tNil)))) (gName 5))
  (tSeq (tIfS (tTest (tOp rEq (tCall (spNext K) [] C8.E0 (tCons (tVar 0) (tCons (tC (.int 16)) tNil))) (tC (.int 0)))) (tAsg (tOp qAdd (tC (.int 6)) (tCall (spNext K) [] C8.E0 (tCons (tVar 0) (tCons (tC (.int 3)) tNil)))) (gName 5)) tNext)
  (tRet (tLc (iRng1 (tCons (tVar 5) tNil)) (gName 6) tYes (tOp (rIxL K) (tVar 2) (tOp qMod (tOp qAdd (tVar 3) (tOp qMul (tVar 4) (tVar 6))) (tC (.int 8)))) [6])))))))
theorem l__law_people (h : spPeople K vs H Q E) : vs.length = 2 := by obtain ⟨p, n, rfl, _⟩ := h; rfl
theorem r__law_people (h : spPeople K vs H Q E) : t__law_people K { nx := fun _ H' => Q .non H', rt := Q } (start ["stream", "least", "names", "start", "step", "many", "k"] vs) H := by
  obtain ⟨p, n, rfl, hs, n0, n2, q⟩ := h
  unfold t__law_people
  refine w_seq (w_asg (w_lstV (w_cons (w_c (w_cons (w_c (w_cons (w_c (w_cons (w_c (w_cons (w_c (w_cons (w_c (w_cons (w_c (w_cons (w_c (w_nil ⟨sz (by simp), ?_⟩)))))))))))))))))))
  refine w_new fun N H1 f1 t1 e1 => w_name ?_
  have e1' : H1 N = some (.lst (NAMES8.map V.str)) := e1
  have s1 := hs.same t1
  walk_at "w"
  refine ⟨p, 8, rfl, s1, by decide, by decide, fun a0 H2 k2 s2 a1 a2 => ?_⟩
  walk_at "w"
  refine ⟨p, 4, rfl, s2, by decide, by decide, fun b0 H3 k3 s3 b1 b2 => ?_⟩
  walk_at "w"
  refine ⟨p, 6 - n, rfl, s3, by omega, by omega, fun c0 H4 k4 s4 c1 c2 => ?_⟩
  refine w_I0 (w_name ?_)
  walk_at "b"
  have nN : N ≠ p := hs.ne f1
  refine w_ifCut (Mid := fun σ' G => ∃ m : Int, σ' = [some (.ref p), some (.int n), some (.ref N), some (.int a0), some (.int (1 + 2 * b0)), some (.int m), none] ∧ Kp p H1 G ∧ Stm G p ∧ n ≤ m ∧ m ≤ 8) ?_ ?_
  · rintro σ' G ⟨m, rfl, kG, sG, m1, m2⟩
    have eN : G N = some (.lst (NAMES8.map V.str)) := kG _ _ nN e1'
    refine w_ret (w_lc (w_iRng1 (w_cons (w_var rfl (w_nil ⟨m, rfl, by omega, by omega, fun D hD => ?_⟩)))))
    refine lc_it walk_range (fun k G' => Same G G' ∧ ∃ ps : List Str, G' D = some (.lst (ps.map V.str)) ∧ ps.length = k ∧ ∀ x ∈ ps, x ∈ NAMES8) ⟨Same.upd (Same.refl G) hD, [], upd_same, rfl, fun x hx => nomatch hx⟩ (fun _ _ _ _ => trivial) ?_ ?_
    · rintro k x G1 G2 hk ⟨sG1, ps, eD, hl, hps⟩ ⟨rfl, rfl⟩
      refine w_name ⟨rfl, w_yes (iteT_ ?_)⟩
      walk_at "w"
      have h0 : 0 ≤ (a0 + (1 + 2 * b0) * (0 + (k : Int))) % 8 := Int.emod_nonneg _ (by decide)
      have h8 : (a0 + (1 + 2 * b0) * (0 + (k : Int))) % 8 < 8 := Int.emod_lt_of_pos _ (by decide)
      generalize (a0 + (1 + 2 * b0) * (0 + (k : Int))) % 8 = r at h0 h8
      have hr : r.toNat < NAMES8.length := by
        show r.toNat < 8
        omega
      refine w_ixL (SqL.of (sG1 _ _ eN)) (v := .str (NAMES8[r.toNat])) (atI_of h0 (by rw [List.getElem?_map, List.getElem?_eq_getElem hr]; rfl)) ⟨_, eD, ?_, ?_, ps ++ [NAMES8[r.toNat]], ?_, ?_, ?_⟩
      · rw [List.length_map, hl]
        exact Nat.lt_of_le_of_lt (show k ≤ 8 by omega) (by decide)
      · exact fun b o e2 => by
          rw [upd_ne (ne_of_none e2 hD)]
          exact sG1 _ _ e2
      · rw [upd_same, List.map_append]
        rfl
      · rw [List.length_append, hl]
        rfl
      · intro x hx
        rcases List.mem_append.mp hx with hx | hx
        · exact hps x hx
        · rw [List.mem_singleton.mp hx]
          exact List.getElem_mem hr
    · rintro G' ⟨sG', ps, eD, hl, hps⟩
      have nD : D ≠ p := sG.ne hD
      exact q D ps G' (same_none t1 (kG.free nD hD)) (((Same.kp t1).trans kG).trans (Same.kp sG')) (sG.same sG') eD hps (by omega) (by omega)
  · intro Rk hRk
    walk_at "w"
    refine ⟨p, 16, rfl, s4, by decide, by decide, fun d0 H5 k5 s5 d1 d2 => ?_⟩
    have k15 := ((k2.trans k3).trans k4).trans k5
    walk_at "w"
    refine w_ite (fun c => ?_) (fun c => ?_)
    · walk_at "w"
      refine ⟨p, 3, rfl, s5, by decide, by decide, fun m0 H6 k6 s6 m1 m2 => ?_⟩
      walk_at "w"
      exact hRk _ _ ⟨6 + m0, rfl, k15.trans k6, s6, by omega, by omega⟩
    · walk_at "w"
      exact hRk _ _ ⟨n + c0, rfl, k15, s5, by omega, by omega⟩
end

/-! ### texts and bodies that the laws of boards draw -/
theorem str_len (z : Str) : z.length = z.cps.toList.length := by simp [Str.length]
theorem cutS_to {z : Str} {i : Int} (h : 0 ≤ i) : (cutS z none (some i)).cps.toList = z.cps.toList.take i.toNat := by
  obtain ⟨j, rfl⟩ := Int.eq_ofNat_of_zero_le h
  show (z.cps.toList.drop (HT.sIx z.length 0 none)).take (HT.sIx z.length z.length (some (j : Int)) - HT.sIx z.length 0 none) = _
  rw [HT.sIx_none, HT.sIx_nat, Nat.sub_zero, List.drop_zero, Int.toNat_natCast, str_len]
  by_cases hj : j ≤ z.cps.toList.length
  · rw [Nat.min_eq_left hj]
  · rw [Nat.min_eq_right (by omega), List.take_of_length_le (Nat.le_refl _), List.take_of_length_le (by omega)]
theorem foldl_all (p : Nat → Bool) : ∀ (l : List (Array Nat)) (a : Array Nat), a.toList.all p = true → (∀ x ∈ l, x.toList.all p = true) → (l.foldl (· ++ ·) a).toList.all p = true
  | [], a, h, _ => h
  | x :: l, a, h, hl => by
    rw [List.foldl_cons]
    refine foldl_all p l _ ?_ fun y hy => hl y (List.mem_cons_of_mem _ hy)
    rw [Array.toList_append, List.all_append, h, hl x (List.mem_cons_self ..)]
    rfl
theorem ascii_mul {z : Str} (n : Int) (h : ascii z = true) : ascii (Txt.mul z n) = true := by
  unfold Txt.mul
  by_cases h1 : n < 1
  · rw [if_pos h1]
    rfl
  · rw [if_neg h1]
    by_cases h2 : (n == 1 || z.length == 0) = true
    · rw [if_pos h2]
      exact h
    · rw [if_neg h2]
      exact foldl_all _ _ _ rfl fun x hx => by
        rw [List.eq_of_mem_replicate hx]
        exact h
theorem ascii_cut {z : Str} {i : Nat} (h : ascii z = true) : ascii (cutS z none (some (i : Int))) = true := by
  unfold ascii at h ⊢
  rw [cutS_to (by omega), List.all_eq_true]
  rw [List.all_eq_true] at h
  exact fun c hc => h c (List.mem_of_mem_take hc)
theorem ascii_join {a : Str} (h : ascii a = true) : ∀ {ys : List Str}, (∀ y ∈ ys, ascii y = true) → ascii (Txt.join a ys) = true := by
  intro ys hy
  rw [join_eq]
  induction ys with
  | nil => rfl
  | cons y ys ih =>
    cases ys with
    | nil => exact hy y (List.mem_cons_self ..)
    | cons z ys => exact ascii_app (ascii_app (hy y (List.mem_cons_self ..)) h) (ih fun w hw => hy w (List.mem_cons_of_mem _ hw))
/-- a short text -/
abbrev shortD : PyData → Prop := fun d => ∃ z : Str, d = .str z ∧ ascii z = true ∧ z.length ≤ 12
/-- the bodies that the laws of boards draw -/
inductive Bb where
  | say (t : Str)
  | reply (a : Str) (n : Int) (t : Str)
  | edit (a : Str) (n : Int) (t : Str)
  | recall (a : Str) (n : Int)
  | mark (a : Str) (n : Int) (w : Str)
  | title (t : Str)
  | act (k nm : Str) (h : k = Str.ofString "add" ∨ k = Str.ofString "cut" ∨ k = Str.ofString "hand")
  | seen
  | found (t : Str) (ds : List PyData)
def Bb.kind : Bb → Str
  | .say _ => Str.ofString "say"
  | .reply _ _ _ => Str.ofString "reply"
  | .edit _ _ _ => Str.ofString "edit"
  | .recall _ _ => Str.ofString "recall"
  | .mark _ _ _ => Str.ofString "mark"
  | .title _ => Str.ofString "title"
  | .act k _ _ => k
  | .seen => Str.ofString "seen"
  | .found _ _ => Str.ofString "found"
def Bb.rest : Bb → List PyData
  | .say t => [.str t]
  | .reply a n t => [.tuple [.str a, .int n], .str t]
  | .edit a n t => [.tuple [.str a, .int n], .str t]
  | .recall a n => [.tuple [.str a, .int n]]
  | .mark a n w => [.tuple [.str a, .int n], .str w]
  | .title t => [.str t]
  | .act _ nm _ => [.str nm]
  | .seen => []
  | .found t ds => [.str t, .tuple ds]
def Bb.toD (b : Bb) : PyData := .tuple (.str b.kind :: b.rest)
structure BodyOk (b : PyData) : Prop where
  lay : Lay 3 b
  pl : plainB b = true
  sh : ∃ k ds, b = .tuple (.str k :: ds) ∧ ((k = Str.ofString "say" ∧ ∃ t, ds = [.str t] ∧ t.length ≤ 400) ∨ (k = Str.ofString "reply" ∧ ∃ r t, ds = [r, .str t] ∧ t.length ≤ 400) ∨ (k ≠ Str.ofString "say" ∧ k ≠ Str.ofString "reply"))
  bb : ∃ B : Bb, b = B.toD
def spLWord (K : PySem.W.Frag) : Sp := fun vs H Q _ => ∃ p, vs = [.ref p] ∧ Stm H p ∧ ∀ (z : Str) H', Kp p H H' → Stm H' p → z.length ≤ 4 → ascii z = true → Q (.str z) H'
def PeopleAt (H : Hp) (pa : Addr) (ps : List Str) : Prop := H pa = some (.lst (ps.map V.str)) ∧ 1 ≤ ps.length ∧ ps.length ≤ 20 ∧ ∀ x ∈ ps, ascii x = true ∧ x.length ≤ 12
def spLText (K : PySem.W.Frag) : Sp := fun vs H Q _ => ∃ (pa p : Addr) (ps : List Str), vs = [.ref pa, .ref p] ∧ Stm H p ∧ PeopleAt H pa ps ∧ ∀ (z : Str) H', Kp p H H' → Stm H' p → z.length ≤ 400 → ascii z = true → Q (.str z) H'
def spLRef (K : PySem.W.Frag) (C : Addr) : Sp := fun vs H Q _ => ∃ (l pa p : Addr) (ls : List (Addr × Lt)) (ps : List Str), vs = [.ref l, .ref pa, .ref p] ∧ Stm H p ∧ PeopleAt H pa ps ∧ H l = some (.lst (lsV ls)) ∧ LsOk Any C H ls ∧ ls.length ≤ 100 ∧
  ∀ t (a : Str) (n : Int) H', Kp p H H' → Stm H' p → H' t = some (.tup [.str a, .int n]) → ascii a = true → Q (.ref t) H'
def spLBody (K : PySem.W.Frag) (C : Addr) : Sp := fun vs H Q _ => ∃ (l pa p : Addr) (ls : List (Addr × Lt)) (ps : List Str), vs = [.ref l, .ref pa, .ref p] ∧ Stm H p ∧ PeopleAt H pa ps ∧ H l = some (.lst (lsV ls)) ∧ LsOk Any C H ls ∧ ls.length ≤ 100 ∧
  ∀ v b H', Kp p H H' → Stm H' p → Dn Any H' v b → BodyOk b → Q v H'
theorem stm_neS {H : Hp} {a p : Addr} {ps : List Str} (s : Stm H p) (e : H a = some (.lst (ps.map V.str))) : a ≠ p := fun z => by
  obtain ⟨x, y, h, _⟩ := s
  rw [z, h] at e
  cases ps with
  | nil => cases e
  | cons o ls =>
    injection e with e
    injection e with e
    have : V.int x = V.str o := (List.cons.inj e).1
    exact nomatch this
theorem PeopleAt.kp {H H' : Hp} {pa p : Addr} {ps : List Str} (h : PeopleAt H pa ps) (s : Stm H p) (k : Kp p H H') : PeopleAt H' pa ps := ⟨k _ _ (stm_neS s h.1) h.1, h.2⟩
theorem PeopleAt.same {H H' : Hp} {pa : Addr} {ps : List Str} (h : PeopleAt H pa ps) (s : Same H H') : PeopleAt H' pa ps := ⟨s _ _ h.1, h.2⟩
def SIG62 : Str := "abcdefghijklmnopqrstuvwxyzABCDEFGHIJKLMNOPQRSTUVWXYZ0123456789"
structure PartsAt (H G : Hp) (p P : Addr) (zs : List Str) : Prop where
  kp : Kp p H G
  st : Stm G p
  hp : G P = some (.lst (zs.map V.str))
  al : ∀ z ∈ zs, ascii z = true ∧ z.length ≤ 13
theorem PartsAt.draw {H G G' : Hp} {p P : Addr} {zs : List Str} (x : PartsAt H G p P zs) (n : P ≠ p) (k : Kp p G G') (s : Stm G' p) : PartsAt H G' p P zs := ⟨x.kp.trans k, s, k _ _ n x.hp, x.al⟩
theorem PartsAt.put {H G : Hp} {p P : Addr} {zs : List Str} {z : Str} {R : Hp → Prop} (x : PartsAt H G p P zs) (f : H P = none) (n : P ≠ p) (l : zs.length ≤ 100) (za : ascii z = true) (zl : z.length ≤ 13) (r : ∀ G', PartsAt H G' p P (zs ++ [z]) → R G') : rAppend (.ref P) [.str z] G (fun _ G' => R G') := by
  refine w_appV x.hp (by rw [List.length_map]; omega) fun G' k e => r G' ⟨fun b o nb e => k _ _ (ne_of_none e f) (x.kp _ _ nb e), stm_kp x.st k n.symm, by rw [e, List.map_append]; rfl, fun y hy => ?_⟩
  rcases List.mem_append.mp hy with hy | hy
  · exact x.al y hy
  · rw [List.mem_singleton.mp hy]
    exact ⟨za, zl⟩
section
variable {K : PySem.W.Frag} {C : Addr} {vs : List V} {H : Hp} {Q : VK} {E : XK}
theorem short_of {p : Addr} {σ : L2.St} {z : Str} (h : (ascii z && decide (z.length ≤ 12)) = true) : EvS p (tC (.str z)) σ H shortD := evs_str ⟨z, rfl, by
  rw [Bool.and_eq_true] at h
  exact ⟨h.1, of_decide_eq_true h.2⟩⟩
/-- _law_word: slots 0:stream 1:text 2:signs 3:k -/
def t__law_word (K : PySem.W.Frag) : TS := (tSeq (tAsg (tC (.str "")) (gName 1))
  (tSeq (tAsg (tC (.str "abcdefghijklmnopqrstuvwxyzABCDEFGHIJKLMNOPQRSTUVWXYZ0123456789")) (gName 2))
  (tSeq (tFor (iRng1 (tCons (tOp qAdd (tC (.int 1)) (tCall (spNext K) [] C8.E0 (tCons (tVar 0) (tCons (tC (.int 4)) tNil)))) tNil)) (gName 3) (tAsg (tOp qAddS (tVar 1) (tOp rIxS (tVar 2) (tCall (spNext K) [] C8.E0 (tCons (tVar 0) (tCons (tC (.int 62)) tNil))))) (gName 1)))
  (tRet (tVar 1)))))
theorem l__law_word (h : spLWord K vs H Q E) : vs.length = 1 := by obtain ⟨p, rfl, _⟩ := h; rfl
theorem r__law_word (h : spLWord K vs H Q E) : t__law_word K { nx := fun _ H' => Q .non H', rt := Q } (start ["stream", "text", "signs", "k"] vs) H := by
  obtain ⟨p, rfl, hs, q⟩ := h
  unfold t__law_word
  refine w_seq (w_asg (w_c (w_name ?_)))
  with_reducible refine w_seq ?_
  refine w_asg (w_c (w_name ?_))
  with_reducible refine w_seq ?_
  refine w_for (w_iRng1 (w_cons (w_op (w_c (w_call (w_cons (w_var rfl (w_cons (w_c (w_nil ⟨p, 4, rfl, hs, by decide, by decide, fun m H1 k1 s1 m0 m1 => w_I0 (w_nil ?_)⟩))))))))))
  refine w_rng (by omega) (by omega) (fun i σ G => (∃ (z : Str) (u3 : Option V), σ = [some (.ref p), some (.str z), some (.str SIG62), u3] ∧ z.length ≤ i ∧ ascii z = true) ∧ Kp p H G ∧ Stm G p) ⟨⟨_, _, rfl, Nat.le_refl _, rfl⟩, k1, s1⟩ ?_ ?_
  · rintro i σ G hi ⟨⟨z, u3, rfl, zl, za⟩, k, s⟩
    refine w_name (w_asg (w_op (w_var rfl (w_op (w_var rfl ?_)))))
    refine (evs_next (K := K) (H := G) rfl (by decide) (by decide)).use s fun v d H2 k2 s2 hv dv => ?_
    obtain ⟨j, rfl, j0, j1⟩ := hv
    cases dv
    have hj : j.toNat < SIG62.cps.toList.length := by
      have : SIG62.cps.toList.length = 62 := by decide
      omega
    have hc : SIG62.cps.toList[j.toNat] < 1114112 := by
      have h1 : SIG62.cps.toList.all (fun c => decide (c < 1114112)) = true := by decide
      exact of_decide_eq_true (List.all_eq_true.mp h1 _ (List.getElem_mem hj))
    refine w_ixS (by decide) (atI_of j0 (List.getElem?_eq_getElem hj)) (w_addS ?_ (w_name ⟨⟨_, _, rfl, ?_, ascii_app za ?_⟩, k.trans k2, s2⟩))
    · exact sz (by show z.length + 1 ≤ 100000; omega)
    · rw [str_len, tl_app, List.length_append, ← str_len]
      show z.length + 1 ≤ _
      omega
    · unfold ascii
      show (decide (SIG62.cps.toList[j.toNat] < 1114112) && true) = true
      rw [decide_eq_true hc]
      rfl
  · rintro σ G ⟨⟨z, u3, rfl, zl, za⟩, k, s⟩
    with_reducible refine w_ret ?_
    exact w_var rfl (q z G k s (by omega) za)
/-- _law_text: slots 0:people 1:stream 2:parts 3:k 4:kind -/
def t__law_text (K : PySem.W.Frag) : TS := (tSeq (tAsg (tLst tNil) (gName 2))
  (tSeq (tFor (iRng1 (tCons (tOp qAdd (tC (.int 1)) (tCall (spNext K) [] C8.E0 (tCons (tVar 1) (tCons (tC (.int 6)) tNil)))) tNil)) (gName 3) (tSeq (tAsg (tCall (spNext K) [] C8.E0 (tCons (tVar 1) (tCons (tC (.int 5)) tNil))) (gName 4))
  (tSeq (tIfS (tTest (tOp rEq (tVar 4) (tC (.int 0)))) (tDrop (tBM K "list" rAppend (tVar 2) (tCons (tOp qAddS (tC (.str "\x40")) (tOp (rIxL K) (tVar 0) (tCall (spNext K) [] C8.E0 (tCons (tVar 1) (tCons (tCB (qLenSeq K) (tCons (tVar 0) tNil)) tNil))))) tNil))) (tIfS (tTest (tOp rEq (tVar 4) (tC (.int 1)))) (tDrop (tBM K "list" rAppend (tVar 2) (tCons (tOp (rIxT K) (tTup (tCons (tC (.str "tea")) (tCons (tC (.str "Tea")) (tCons (tC (.str "at4")) (tCons (tC (.str "me")) (tCons (tC (.str "4")) (tCons (tC (.str "no")) tNil))))))) (tCall (spNext K) [] C8.E0 (tCons (tVar 1) (tCons (tC (.int 6)) tNil)))) tNil))) (tDrop (tBM K "list" rAppend (tVar 2) (tCons (tCall (spLWord K) [] C8.E0 (tCons (tVar 1) tNil)) tNil)))))
  (tDrop (tBM K "list" rAppend (tVar 2) (tCons (tOp (rIxT K) (tTup (tCons (tC (.str " ")) (tCons (tC (.str ", ")) (tCons (tC (.str "!")) (tCons (tC (.str "\n")) (tCons (tC (.str "-")) (tCons (tC (.str "\x40")) (tCons (tC (.str "a")) (tCons (tC (.str "7")) (tCons (tC (.str " \x40")) (tCons (tC (.str "_")) (tCons (tC (.str "Z")) tNil)))))))))))) (tCall (spNext K) [] C8.E0 (tCons (tVar 1) (tCons (tC (.int 11)) tNil)))) tNil))))))
  (tRet (tSl rSlS (tOp qMulS (tBM K "str" (qJoin K) (tC (.str "")) (tCons (tVar 2) tNil)) (tOp (rIxT K) (tTup (tCons (tC (.int 1)) (tCons (tC (.int 1)) (tCons (tC (.int 1)) (tCons (tC (.int 1)) (tCons (tC (.int 1)) (tCons (tC (.int 1)) (tCons (tC (.int 1)) (tCons (tC (.int 5)) tNil))))))))) (tCall (spNext K) [] C8.E0 (tCons (tVar 1) (tCons (tC (.int 8)) tNil))))) tNoPart (tPart (tC (.int 400)))))))
theorem l__law_text (h : spLText K vs H Q E) : vs.length = 2 := by obtain ⟨pa, p, ps, rfl, _⟩ := h; rfl
theorem r__law_text (h : spLText K vs H Q E) : t__law_text K { nx := fun _ H' => Q .non H', rt := Q } (start ["people", "stream", "parts", "k", "kind"] vs) H := by
  obtain ⟨pa, p, ps, rfl, hs, hpa, q⟩ := h
  unfold t__law_text
  refine w_seq (w_asg (w_lstV (w_nil ⟨sz (by simp), w_new fun P H1 f0 s1 e1 => w_name ?_⟩)))
  have st1 := hs.same s1
  have nP : P ≠ p := hs.ne f0
  have hP0 : H P = none := f0
  with_reducible refine w_seq ?_
  refine w_for (w_iRng1 (w_cons (w_op (w_c (w_call (w_cons (w_var rfl (w_cons (w_c (w_nil ⟨p, 6, rfl, st1, by decide, by decide, fun m H2 k2 s2 m0 m1 => w_I0 (w_nil ?_)⟩))))))))))
  refine w_rng (by omega) (by omega) (fun i σ G => (∃ u3 u4 : Option V, σ = [some (.ref pa), some (.ref p), some (.ref P), u3, u4]) ∧ ∃ zs, PartsAt H G p P zs ∧ zs.length ≤ 2 * i) ⟨⟨_, _, rfl⟩, [], ⟨(Same.kp s1).trans k2, s2, k2 _ _ nP e1, fun z hz => nomatch hz⟩, Nat.le_refl _⟩ ?_ ?_
  · rintro i σ G hi ⟨⟨u3, u4, rfl⟩, zs, x, zl⟩
    have hi6 : i < 6 := by omega
    refine w_name ?_
    with_reducible refine w_seq ?_
    refine w_asg (w_call (w_cons (w_var rfl (w_cons (w_c (w_nil ⟨p, 5, rfl, x.st, by decide, by decide, fun kd G2 k2 s2 _ _ => w_name ?_⟩))))))
    have x2 := x.draw nP k2 s2
    -- the first part
    with_reducible refine w_seq ?_
    refine w_ifCut (Mid := fun σ' G => (∃ u3 u4 : Option V, σ' = [some (.ref pa), some (.ref p), some (.ref P), u3, u4]) ∧ ∃ zs, PartsAt H G p P zs ∧ zs.length ≤ 2 * i + 1) ?_ ?_
    rotate_left
    · intro Rk hRk
      refine w_ifS (w_test (w_op (w_var rfl (w_c (w_eqI (w_exb (w_ite (fun c => ?_) (fun c => w_ifS ?_))))))))
      · refine w_drop (w_bm (w_var rfl (w_tyL x2.hp (w_cons (w_op (w_c (w_op (w_var rfl ?_))))))))
        have hp2 := hpa.kp hs x2.kp
        refine w_call (w_cons (w_var rfl (w_cons (w_cb (w_cons (w_var rfl (w_nil (w_lenL (SqL.of hp2.1) (w_nil ⟨p, _, rfl, x2.st, by rw [List.length_map]; have := hp2.2.1; omega, by rw [List.length_map]; have := hp2.2.2.1; omega, fun v G3 k3 s3 v0 v1 => ?_⟩)))))))))
        have hp3 := hp2.kp x2.st k3
        rw [List.length_map] at v1
        have hvl : v.toNat < ps.length := by omega
        have hn := hpa.2.2.2 _ (List.getElem_mem hvl)
        refine w_ixL (SqL.of hp3.1) (v := .str ps[v.toNat]) (atI_of v0 (by rw [List.getElem?_map, List.getElem?_eq_getElem hvl]; rfl)) (w_addS (sz (by have := hn.2; show 1 + ps[v.toNat].length ≤ 100000; omega)) (w_nil ?_))
        exact (x2.draw nP k3 s3).put hP0 nP (by omega) (ascii_app rfl hn.1) (by rw [str_len, tl_app, List.length_append, ← str_len]; have := hn.2; show 1 + ps[v.toNat].length ≤ 13; omega) fun G4 x4 => hRk _ _ ⟨⟨_, _, rfl⟩, _, x4, by rw [List.length_append, List.length_singleton]; omega⟩
      · refine w_test (w_op (w_var rfl (w_c (w_eqI (w_exb (w_ite (fun c => ?_) (fun c => ?_)))))))
        · refine w_drop (w_bm (w_var rfl (w_tyL x2.hp (w_cons ?_))))
          refine (evs_pickT (P := shortD) (are_cons (short_of rfl) (are_cons (short_of rfl) (are_cons (short_of rfl) (are_cons (short_of rfl) (are_cons (short_of rfl) (are_cons (short_of rfl) are_nil)))))) rfl (by decide) (by decide) (are_pick rfl)).use x2.st fun v d G3 k3 s3 hd dn => ?_
          obtain ⟨z, rfl, za, zl'⟩ := hd
          cases dn
          exact w_nil ((x2.draw nP k3 s3).put hP0 nP (by omega) za (by omega) fun G4 x4 => hRk _ _ ⟨⟨_, _, rfl⟩, _, x4, by rw [List.length_append, List.length_singleton]; omega⟩)
        · refine w_drop (w_bm (w_var rfl (w_tyL x2.hp (w_cons (w_call (w_cons (w_var rfl (w_nil ⟨p, rfl, x2.st, fun z G3 k3 s3 zl' za => w_nil ?_⟩))))))))
          exact (x2.draw nP k3 s3).put hP0 nP (by omega) za (by omega) fun G4 x4 => hRk _ _ ⟨⟨_, _, rfl⟩, _, x4, by rw [List.length_append, List.length_singleton]; omega⟩
    · rintro σ' G3 ⟨⟨u3, u4, rfl⟩, zs3, x3, zl3⟩
      with_reducible refine w_drop ?_
      refine w_bm (w_var rfl (w_tyL x3.hp (w_cons ?_)))
      refine (evs_pickT (P := shortD) (are_cons (short_of rfl) (are_cons (short_of rfl) (are_cons (short_of rfl) (are_cons (short_of rfl) (are_cons (short_of rfl) (are_cons (short_of rfl) (are_cons (short_of rfl) (are_cons (short_of rfl) (are_cons (short_of rfl) (are_cons (short_of rfl) (are_cons (short_of rfl) are_nil))))))))))) rfl (by decide) (by decide) (are_pick rfl)).use x3.st fun v d G4 k4 s4 hd dn => ?_
      obtain ⟨z, rfl, za, zl'⟩ := hd
      cases dn
      exact w_nil ((x3.draw nP k4 s4).put hP0 nP (by omega) za (by omega) fun G5 x5 => ⟨⟨_, _, rfl⟩, _, x5, by rw [List.length_append, List.length_singleton]; omega⟩)
  · rintro σ G ⟨⟨u3, u4, rfl⟩, zs, x, zl⟩
    have hzl : zs.length ≤ 12 := by omega
    have hsum : (zs.map (·.length)).sum + zs.length * (Str.ofString "").length ≤ 156 := by
      have h1 := Wp.sum_le (fun z : Str => z.length) 13 (l := zs) fun z hz => (x.al z hz).2
      have h2 : (Str.ofString "").length = 0 := by decide
      rw [h2]
      have : zs.length * 13 ≤ 12 * 13 := Nat.mul_le_mul_right _ hzl
      omega
    have hj : (Txt.join (Str.ofString "") zs).length ≤ 156 := Nat.le_trans (Wp.join_len _ _) hsum
    have hja : ascii (Txt.join (Str.ofString "") zs) = true := ascii_join rfl fun z hz => (x.al z hz).1
    with_reducible refine w_ret ?_
    refine w_sl (w_op (w_bm (w_c ⟨rfl, w_cons (w_var rfl (w_nil (w_joinL (SqL.of x.hp) (Nat.le_trans hsum (by decide)) ?_)))⟩)))
    generalize Txt.join (Str.ofString "") zs = J at hj hja
    refine (evs_pickT (P := isInt 0 5) (are_cons (evs_intIn (by decide) (by decide)) (are_cons (evs_intIn (by decide) (by decide)) (are_cons (evs_intIn (by decide) (by decide)) (are_cons (evs_intIn (by decide) (by decide)) (are_cons (evs_intIn (by decide) (by decide)) (are_cons (evs_intIn (by decide) (by decide)) (are_cons (evs_intIn (by decide) (by decide)) (are_cons (evs_intIn (by decide) (by decide)) are_nil)))))))) rfl (by decide) (by decide) (are_pick rfl)).use x.st fun v d G3 k3 s3 hd dn => ?_
    obtain ⟨n, rfl, n0, n1⟩ := hd
    cases dn
    refine w_mulS n0 (by omega) (by omega) fun hml => w_noPart (w_part (w_c (w_exi (w_slS ?_ ?_))))
    · exact Nat.le_trans hml (Nat.le_trans (Nat.mul_le_mul hj (show n.toNat ≤ 5 by omega)) (by decide))
    · refine q _ G3 (x.kp.trans k3) s3 ?_ (ascii_cut (i := 400) (ascii_mul n hja))
      rw [str_len, cutS_to (by decide), List.length_take]
      exact Nat.min_le_left _ _
/-- _law_ref: slots 0:letters 1:people 2:stream -/
def t__law_ref (K : PySem.W.Frag) (C_Letter : Addr) : TS := (tSeq (tIfS (tAnd (tTest (tOp qGt (tCB (qLenSeq K) (tCons (tVar 0) tNil)) (tC (.int 0)))) (tTest (tOp qGt (tCall (spNext K) [] C8.E0 (tCons (tVar 2) (tCons (tC (.int 8)) tNil))) (tC (.int 0))))) (tRet (tProp C_Letter (spRefP K C_Letter) [] C8.E0 (tOp (rIxL K) (tVar 0) (tCall (spNext K) [] C8.E0 (tCons (tVar 2) (tCons (tCB (qLenSeq K) (tCons (tVar 0) tNil)) tNil)))))) tNext)
  (tRet (tTup (tCons (tOp (rIxL K) (tVar 1) (tCall (spNext K) [] C8.E0 (tCons (tVar 2) (tCons (tCB (qLenSeq K) (tCons (tVar 1) tNil)) tNil)))) (tCons (tOp qAdd (tC (.int 1)) (tCall (spNext K) [] C8.E0 (tCons (tVar 2) (tCons (tC (.int 30)) tNil)))) tNil)))))
theorem l__law_ref (h : spLRef K C vs H Q E) : vs.length = 3 := by obtain ⟨l, pa, p, ls, ps, rfl, _⟩ := h; rfl
theorem r__law_ref (LC : IsC_Letter K C) (h : spLRef K C vs H Q E) : t__law_ref K C { nx := fun _ H' => Q .non H', rt := Q } (start ["letters", "people", "stream"] vs) H := by
  obtain ⟨l, pa, p, ls, ps, rfl, hs, hpa, hl, hok, hll, q⟩ := h
  have npl := stm_ne hs hl
  have fin : ∀ G, Kp p H G → Stm G p → (tRet (tTup (tCons (tOp (rIxL K) (tVar 1) (tCall (spNext K) [] C8.E0 (tCons (tVar 2) (tCons (tCB (qLenSeq K) (tCons (tVar 1) tNil)) tNil)))) (tCons (tOp qAdd (tC (.int 1)) (tCall (spNext K) [] C8.E0 (tCons (tVar 2) (tCons (tC (.int 30)) tNil)))) tNil)))) { nx := fun _ H' => Q .non H', rt := Q } [some (.ref l), some (.ref pa), some (.ref p)] G := by
    intro G k s
    have hp2 := hpa.kp hs k
    refine w_ret (w_tupV (w_cons (w_op (w_var rfl (w_call (w_cons (w_var rfl (w_cons (w_cb (w_cons (w_var rfl (w_nil (w_lenL (SqL.of hp2.1) (w_nil ⟨p, _, rfl, s, by rw [List.length_map]; have := hp2.2.1; omega, by rw [List.length_map]; have := hp2.2.2.1; omega, fun v G3 k3 s3 v0 v1 => ?_⟩))))))))))))))
    have hp3 := hp2.kp s k3
    rw [List.length_map] at v1
    have hvl : v.toNat < ps.length := by omega
    refine w_ixL (SqL.of hp3.1) (v := .str ps[v.toNat]) (atI_of v0 (by rw [List.getElem?_map, List.getElem?_eq_getElem hvl]; rfl)) (w_cons (w_op (w_c (w_call (w_cons (w_var rfl (w_cons (w_c (w_nil ⟨p, 30, rfl, s3, by decide, by decide, fun w G4 k4 s4 _ _ => w_I0 (w_nil ⟨sz (by simp), ?_⟩)⟩)))))))))
    exact w_new fun t G5 _ s5 e5 => q t _ _ G5 (((k.trans k3).trans k4).trans (Same.kp s5)) (s4.same s5) e5 (hpa.2.2.2 _ (List.getElem_mem hvl)).1
  unfold t__law_ref
  refine w_seq (w_ifS (w_and (w_test (w_op (w_cb (w_cons (w_var rfl (w_nil (w_lenL (SqL.of hl) (w_c (w_I0 (w_exb (w_ite (fun c => ?_) (fun c => ite_f (by decide) (w_next (fin H Kp.refl hs))))))))))))))))
  rw [lsV_len] at c
  refine w_test (w_op (w_call (w_cons (w_var rfl (w_cons (w_c (w_nil ⟨p, 8, rfl, hs, by decide, by decide, fun v G3 k3 s3 v0 v1 => w_c (w_I0 (w_exb (w_ite (fun c2 => ?_) (fun c2 => w_next (fin G3 k3 s3)))))⟩)))))))
  have hl3 := k3 _ _ npl hl
  refine w_ret (w_prop (w_op (w_var rfl (w_call (w_cons (w_var rfl (w_cons (w_cb (w_cons (w_var rfl (w_nil (w_lenL (SqL.of hl3) (w_nil ⟨p, _, rfl, s3, by rw [lsV_len]; omega, by rw [lsV_len]; omega, fun w G4 k4 s4 w0 w1 => ?_⟩)))))))))))))
  rw [lsV_len] at w1
  have hwl : w.toNat < ls.length := by omega
  have ho := hok _ (List.getElem_mem hwl)
  have ho4 := (ho.1.fm ho.2 (Fm.stm k3 hs)).fm ho.2 (Fm.stm k4 s3)
  obtain ⟨dx, d, sv, bv, hx, _⟩ := id ho4
  refine w_ixL (SqL.of (k4 _ _ npl hl3)) (v := .ref ls[w.toNat].1) (atI_of w0 (by rw [List.getElem?_map, List.getElem?_eq_getElem hwl]; rfl)) ⟨_, dx, _, rfl, hx, _, _, rfl, ho4, fun t G5 _ s5 e5 => q t _ _ G5 ((k3.trans k4).trans (Same.kp s5)) (s4.same s5) e5 ho.2.aa⟩
end

/-! ### bodies and letters that the laws of boards draw -/
theorem bodyOk_say {z : Str} (hl : z.length ≤ 400) (ha : ascii z = true) : BodyOk (.tuple [.str (Str.ofString "say"), .str z]) := ⟨(lay2 (k := 1) (lay_str (ascii_of _)) (lay_str ha)).up, rfl, ⟨_, _, rfl, .inl ⟨rfl, z, rfl, hl⟩⟩, ⟨.say z, rfl⟩⟩
theorem bodyOk_ref3 {k : String} {a z : Str} {n : Int} (hk : Str.ofString k ≠ Str.ofString "say") (ha : ascii a = true) (hz : ascii z = true) (hl : z.length ≤ 400) (hb : ∃ B : Bb, (PyData.tuple [.str (Str.ofString k), .tuple [.str a, .int n], .str z]) = B.toD) : BodyOk (.tuple [.str (Str.ofString k), .tuple [.str a, .int n], .str z]) :=
  ⟨lay3 (k := 2) (lay_str (ascii_of _)) (lay2 (k := 1) (lay_str ha) lay_int) (lay_str hz), rfl, ⟨_, _, rfl, (if h : Str.ofString k = Str.ofString "reply" then .inr (.inl ⟨h, _, z, rfl, hl⟩) else .inr (.inr ⟨hk, h⟩))⟩, hb⟩
theorem bodyOk_ref2 {k : String} {a : Str} {n : Int} (hk : Str.ofString k ≠ Str.ofString "say") (hk2 : Str.ofString k ≠ Str.ofString "reply") (ha : ascii a = true) (hb : ∃ B : Bb, (PyData.tuple [.str (Str.ofString k), .tuple [.str a, .int n]]) = B.toD) : BodyOk (.tuple [.str (Str.ofString k), .tuple [.str a, .int n]]) :=
  ⟨lay2 (k := 2) (lay_str (ascii_of _)) (lay2 (k := 1) (lay_str ha) lay_int), rfl, ⟨_, _, rfl, .inr (.inr ⟨hk, hk2⟩)⟩, hb⟩
theorem bodyOk_str2 {k z : Str} (hk : k ≠ Str.ofString "say") (hk2 : k ≠ Str.ofString "reply") (ak : ascii k = true) (ha : ascii z = true) (hb : ∃ B : Bb, (PyData.tuple [.str k, .str z]) = B.toD) : BodyOk (.tuple [.str k, .str z]) :=
  ⟨(lay2 (k := 1) (lay_str ak) (lay_str ha)).up, rfl, ⟨_, _, rfl, .inr (.inr ⟨hk, hk2⟩)⟩, hb⟩
theorem bodyOk_seen : BodyOk (.tuple [.str (Str.ofString "seen")]) := ⟨(lay1 (k := 1) (lay_str (ascii_of _))).up, rfl, ⟨_, _, rfl, .inr (.inr ⟨by decide, by decide⟩)⟩, ⟨.seen, rfl⟩⟩
def spLetters (K : PySem.W.Frag) (C : Addr) : Sp := fun vs H Q _ => ∃ (sc : Addr) (ns : List Int) (pa : Addr) (ps : List Str), vs = [.ref sc, .ref pa, .int 1] ∧ SqL K H sc (ns.map V.int) ∧ ns.length ≤ 63 ∧ PeopleAt H pa ps ∧
  ∀ p (ls : List (Addr × Lt)) H', H p = none → Same H H' → H' p = some (.lst (lsV ls)) → LsOk Any C H' ls → (∀ y ∈ ls, BodyOk y.2.b) → ls.length ≤ 60 → Q (.ref p) H'
theorem Fm.kx {p1 c : Addr} {ys : List V} {cs : List (L2.Key × V)} {G3 G : Hp} (h1 : G3 p1 = some (.lst ys)) (hc : G3 c = some (.dK cs)) (k : ∀ b o, b ≠ p1 → b ≠ c → G3 b = some o → G b = some o) : Fm (Off c) G3 G :=
  ⟨fun b xs e => k b _ (ne_kind e h1 fun z => by cases z) (ne_kind e hc fun z => by cases z) e, fun b C dx fs e => k b _ (ne_kind e h1 fun z => by cases z) (ne_kind e hc fun z => by cases z) e, fun b kvs e n => k b _ (ne_kind e h1 fun z => by cases z) n e⟩
section
variable {K : PySem.W.Frag} {C : Addr} {vs : List V} {H : Hp} {Q : VK} {E : XK}
theorem dn_strD {ok : Addr → Prop} {z : Str} {v : V} {H : Hp} (h : v = .str z) : Dn ok H v (.str z) := h ▸ .str z
/-- _law_body: slots 0:letters 1:people 2:stream 3:kind 4:ref 5:name 6:act -/
def t__law_body (K : PySem.W.Frag) (C_Letter : Addr) : TS := (tSeq (tAsg (tCall (spNext K) [] C8.E0 (tCons (tVar 2) (tCons (tC (.int 20)) tNil))) (gName 3))
  (tSeq (tAsg (tCall (spLRef K C_Letter) [] C8.E0 (tCons (tVar 0) (tCons (tVar 1) (tCons (tVar 2) tNil)))) (gName 4))
  (tSeq (tIfS (tTest (tOp qLt (tVar 3) (tC (.int 5)))) (tRet (tTup (tCons (tC (.str "say")) (tCons (tCall (spLText K) [] C8.E0 (tCons (tVar 1) (tCons (tVar 2) tNil))) tNil)))) tNext)
  (tSeq (tIfS (tTest (tOp qLt (tVar 3) (tC (.int 10)))) (tRet (tTup (tCons (tC (.str "reply")) (tCons (tVar 4) (tCons (tCall (spLText K) [] C8.E0 (tCons (tVar 1) (tCons (tVar 2) tNil))) tNil))))) tNext)
  (tSeq (tIfS (tTest (tOp qLt (tVar 3) (tC (.int 12)))) (tRet (tTup (tCons (tC (.str "edit")) (tCons (tVar 4) (tCons (tCall (spLText K) [] C8.E0 (tCons (tVar 1) (tCons (tVar 2) tNil))) tNil))))) tNext)
  (tSeq (tIfS (tTest (tOp qLt (tVar 3) (tC (.int 15)))) (tRet (tTup (tCons (tC (.str "mark")) (tCons (tVar 4) (tCons (tOp (rIxT K) (tTup (tCons (tC (.str "ha")) (tCons (tC (.str "yes")) (tCons (tC (.str "a0")) (tCons (tC (.str "zz")) tNil))))) (tCall (spNext K) [] C8.E0 (tCons (tVar 2) (tCons (tC (.int 4)) tNil)))) tNil))))) tNext)
  (tSeq (tAsg (tOp (rIxL K) (tVar 1) (tCall (spNext K) [] C8.E0 (tCons (tVar 2) (tCons (tCB (qLenSeq K) (tCons (tVar 1) tNil)) tNil)))) (gName 5))
  (tSeq (tAsg (tTup (tCons (tOp (rIxT K) (tTup (tCons (tC (.str "cut")) (tCons (tC (.str "hand")) tNil))) (tCall (spNext K) [] C8.E0 (tCons (tVar 2) (tCons (tC (.int 2)) tNil)))) (tCons (tVar 5) tNil))) (gName 6))
  (tRet (tOp (rIxT K) (tTup (tCons (tTup (tCons (tC (.str "recall")) (tCons (tVar 4) tNil))) (tCons (tTup (tCons (tC (.str "title")) (tCons (tOp qMulS (tCall (spLWord K) [] C8.E0 (tCons (tVar 2) tNil)) (tCall (spNext K) [] C8.E0 (tCons (tVar 2) (tCons (tC (.int 2)) tNil)))) tNil))) (tCons (tTup (tCons (tC (.str "add")) (tCons (tVar 5) tNil))) (tCons (tVar 6) (tCons (tTup (tCons (tC (.str "seen")) tNil)) tNil)))))) (tOp qSub (tVar 3) (tC (.int 15)))))))))))))
theorem l__law_body (h : spLBody K C vs H Q E) : vs.length = 3 := by obtain ⟨l, pa, p, ls, ps, rfl, _⟩ := h; rfl
theorem r__law_body (LC : IsC_Letter K C) (h : spLBody K C vs H Q E) : t__law_body K C { nx := fun _ H' => Q .non H', rt := Q } (start ["letters", "people", "stream", "kind", "ref", "name", "act"] vs) H := by
  obtain ⟨l, pa, p, ls, ps, rfl, hs, hpa, hl, hok, hll, q⟩ := h
  have npl := stm_ne hs hl
  unfold t__law_body
  refine w_seq (w_asg (w_call (w_cons (w_var rfl (w_cons (w_c (w_nil ⟨p, 20, rfl, hs, by decide, by decide, fun kd H1 k1 s1 c0 c1 => w_name ?_⟩)))))))
  with_reducible refine w_seq ?_
  refine w_asg (w_call (w_cons (w_var rfl (w_cons (w_var rfl (w_cons (w_var rfl (w_nil ⟨l, pa, p, ls, ps, rfl, s1, hpa.kp hs k1, k1 _ _ npl hl, hok.fm (Fm.stm k1 hs), hll, fun t a n H2 k2 s2 et ha => w_name ?_⟩))))))))
  have k12 := k1.trans k2
  have hp2 := hpa.kp hs k12
  have dref : ∀ {G : Hp}, Tk H2 G → Dn Any G (.ref t) (.tuple [.str a, .int n]) := fun tk => .tup trivial (tk _ _ et) (.cons (.str _) (.cons (.int _) .nil))
  -- say
  with_reducible refine w_seq ?_
  refine w_ifS (w_test (w_op (w_var rfl (w_c (w_I0 (w_exb (w_ite (fun c2 => ?_) (fun c2 => w_next ?_))))))))
  · refine w_ret (w_tupV (w_cons (w_c (w_cons (w_call (w_cons (w_var rfl (w_cons (w_var rfl (w_nil ⟨pa, p, ps, rfl, s2, hp2, fun z H3 k3 s3 zl za => w_nil ⟨sz (by simp), w_new fun r H4 _ s4 e4 => ?_⟩⟩))))))))))
    exact q _ _ H4 ((k12.trans k3).trans (Same.kp s4)) (s3.same s4) (.tup trivial e4 (.cons (.str _) (.cons (.str _) .nil))) (bodyOk_say zl za)
  -- reply
  with_reducible refine w_seq ?_
  refine w_ifS (w_test (w_op (w_var rfl (w_c (w_I0 (w_exb (w_ite (fun c3 => ?_) (fun c3 => w_next ?_))))))))
  · refine w_ret (w_tupV (w_cons (w_c (w_cons (w_var rfl (w_cons (w_call (w_cons (w_var rfl (w_cons (w_var rfl (w_nil ⟨pa, p, ps, rfl, s2, hp2, fun z H3 k3 s3 zl za => w_nil ⟨sz (by simp), w_new fun r H4 _ s4 e4 => ?_⟩⟩))))))))))))
    exact q _ _ H4 ((k12.trans k3).trans (Same.kp s4)) (s3.same s4) (.tup trivial e4 (.cons (.str _) (.cons (dref ((Fm.stm (ok := Any) k3 s2).1.trans (Tk.same s4))) (.cons (.str _) .nil)))) (bodyOk_ref3 (by decide) ha za zl ⟨.reply _ _ _, rfl⟩)
  -- edit
  with_reducible refine w_seq ?_
  refine w_ifS (w_test (w_op (w_var rfl (w_c (w_I0 (w_exb (w_ite (fun c4 => ?_) (fun c4 => w_next ?_))))))))
  · refine w_ret (w_tupV (w_cons (w_c (w_cons (w_var rfl (w_cons (w_call (w_cons (w_var rfl (w_cons (w_var rfl (w_nil ⟨pa, p, ps, rfl, s2, hp2, fun z H3 k3 s3 zl za => w_nil ⟨sz (by simp), w_new fun r H4 _ s4 e4 => ?_⟩⟩))))))))))))
    exact q _ _ H4 ((k12.trans k3).trans (Same.kp s4)) (s3.same s4) (.tup trivial e4 (.cons (.str _) (.cons (dref ((Fm.stm (ok := Any) k3 s2).1.trans (Tk.same s4))) (.cons (.str _) .nil)))) (bodyOk_ref3 (by decide) ha za zl ⟨.edit _ _ _, rfl⟩)
  -- mark
  with_reducible refine w_seq ?_
  refine w_ifS (w_test (w_op (w_var rfl (w_c (w_I0 (w_exb (w_ite (fun c5 => ?_) (fun c5 => w_next ?_))))))))
  · refine w_ret (w_tupV (w_cons (w_c (w_cons (w_var rfl (w_cons ?_))))))
    refine (evs_pickT (P := shortD) (are_cons (short_of rfl) (are_cons (short_of rfl) (are_cons (short_of rfl) (are_cons (short_of rfl) are_nil)))) rfl (by decide) (by decide) (are_pick rfl)).use s2 fun v d H3 k3 s3 hd dn => ?_
    obtain ⟨z, rfl, za, zl⟩ := hd
    cases dn
    refine w_nil ⟨sz (by simp), w_new fun r H4 _ s4 e4 => ?_⟩
    exact q _ _ H4 ((k12.trans k3).trans (Same.kp s4)) (s3.same s4) (.tup trivial e4 (.cons (.str _) (.cons (dref ((Fm.stm (ok := Any) k3 s2).1.trans (Tk.same s4))) (.cons (.str _) .nil)))) (bodyOk_ref3 (by decide) ha za (by omega) ⟨.mark _ _ _, rfl⟩)
  -- a name
  with_reducible refine w_seq ?_
  refine w_asg (w_op (w_var rfl (w_call (w_cons (w_var rfl (w_cons (w_cb (w_cons (w_var rfl (w_nil (w_lenL (SqL.of hp2.1) (w_nil ⟨p, _, rfl, s2, by rw [List.length_map]; have := hp2.2.1; omega, by rw [List.length_map]; have := hp2.2.2.1; omega, fun v H3 k3 s3 v0 v1 => ?_⟩))))))))))))
  rw [List.length_map] at v1
  have hvl : v.toNat < ps.length := by omega
  have hn := (hpa.2.2.2 _ (List.getElem_mem hvl)).1
  have hp3 := hp2.kp s2 k3
  refine w_ixL (SqL.of hp3.1) (v := .str ps[v.toNat]) (atI_of v0 (by rw [List.getElem?_map, List.getElem?_eq_getElem hvl]; rfl)) (w_name ?_)
  generalize ps[v.toNat] = nm at hn
  -- an act
  with_reducible refine w_seq ?_
  refine w_asg (w_tupV (w_cons ?_))
  refine (evs_pickT (P := fun d => ∃ k : Str, d = .str k ∧ (k = Str.ofString "cut" ∨ k = Str.ofString "hand")) (are_cons (evs_str ⟨_, rfl, .inl rfl⟩) (are_cons (evs_str ⟨_, rfl, .inr rfl⟩) are_nil)) rfl (by decide) (by decide) (are_pick rfl)).use s3 fun w d H4 k4 s4 hd dn => ?_
  obtain ⟨ak, rfl, hak⟩ := hd
  cases dn
  refine w_cons (w_var rfl (w_nil ⟨sz (by simp), w_new fun act H5 _ s5 e5 => w_name ?_⟩))
  have hbA : BodyOk (.tuple [.str ak, .str nm]) := bodyOk_str2 (by rcases hak with rfl | rfl <;> decide) (by rcases hak with rfl | rfl <;> decide) (by rcases hak with rfl | rfl <;> exact ascii_of _) hn ⟨.act _ _ (by rcases hak with rfl | rfl <;> simp), rfl⟩
  have tk5 : Tk H2 H5 := ((Fm.stm (ok := Any) k3 s2).1.trans (Fm.stm (ok := Any) k4 s3).1).trans (Tk.same s5)
  have s45 := s4.same s5
  have kp5 : Kp p H H5 := ((k12.trans k3).trans k4).trans (Same.kp s5)
  with_reducible refine w_ret ?_
  refine w_op (w_tupV (w_cons (w_tupV (w_cons (w_c (w_cons (w_var rfl (w_nil ⟨sz (by simp), w_new fun t0 H6 _ s6 e6 => ?_⟩))))))))
  refine w_cons (w_tupV (w_cons (w_c (w_cons (w_op (w_call (w_cons (w_var rfl (w_nil ⟨p, rfl, s45.same s6, fun z H7 k7 s7 zl za => ?_⟩)))))))))
  refine w_call (w_cons (w_var rfl (w_cons (w_c (w_nil ⟨p, 2, rfl, s7, by decide, by decide, fun m H8 k8 s8 m0 m1 => ?_⟩)))))
  refine w_mulS m0 (by omega) (by omega) fun hml => w_nil ⟨sz (by simp), w_new fun t1 H9 _ s9 e9 => ?_⟩
  refine w_cons (w_tupV (w_cons (w_c (w_cons (w_var rfl (w_nil ⟨sz (by simp), w_new fun t2 H10 _ s10 e10 => ?_⟩))))))
  refine w_cons (w_var rfl (w_cons (w_tupV (w_cons (w_c (w_nil ⟨sz (by simp), w_new fun t4 H11 _ s11 e11 => ?_⟩))))))
  refine w_nil ⟨sz (by simp), w_new fun T H12 _ s12 e12 => w_op (w_var rfl (w_c (w_I0 ?_)))⟩
  have tk7 : Tk H6 H8 := (Fm.stm (ok := Any) k7 (s45.same s6)).1.trans (Fm.stm (ok := Any) k8 s7).1
  have tkE : Tk H8 H12 := (((Tk.same s9).trans (Tk.same s10)).trans (Tk.same s11)).trans (Tk.same s12)
  have tk6 : Tk H6 H12 := tk7.trans tkE
  have tk2 : Tk H2 H12 := (tk5.trans (Tk.same s6)).trans tk6
  have kpE : Kp p H H12 := (((((((kp5.trans (Same.kp s6)).trans k7).trans k8).trans (Same.kp s9)).trans (Same.kp s10)).trans (Same.kp s11)).trans (Same.kp s12))
  have sE : Stm H12 p := (((s8.same s9).same s10).same s11).same s12
  have hj : kd - 15 = 0 ∨ kd - 15 = 1 ∨ kd - 15 = 2 ∨ kd - 15 = 3 ∨ kd - 15 = 4 := by omega
  rcases hj with e | e | e | e | e <;> rw [e]
  · refine w_ixT (SqT.of e12) (atI_nat (j := 0) rfl) (q _ _ H12 kpE sE (.tup trivial (tk6 _ _ e6) (.cons (.str _) (.cons (dref tk2) .nil))) (bodyOk_ref2 (by decide) (by decide) ha ⟨.recall _ _, rfl⟩))
  · refine w_ixT (SqT.of e12) (atI_nat (j := 1) rfl) (q _ _ H12 kpE sE (.tup trivial (s12 _ _ (s11 _ _ (s10 _ _ e9))) (.cons (.str _) (.cons (.str _) .nil))) (bodyOk_str2 (by decide) (by decide) (ascii_of _) (ascii_mul m za) ⟨.title _, rfl⟩))
  · refine w_ixT (SqT.of e12) (atI_nat (j := 2) rfl) (q _ _ H12 kpE sE (.tup trivial (s12 _ _ (s11 _ _ e10)) (.cons (.str _) (.cons (.str _) .nil))) (bodyOk_str2 (by decide) (by decide) (ascii_of _) hn ⟨.act _ _ (.inl rfl), rfl⟩))
  · refine w_ixT (SqT.of e12) (atI_nat (j := 3) rfl) (q _ _ H12 kpE sE (.tup trivial (tk6 _ _ (s6 _ _ e5)) (.cons (.str _) (.cons (.str _) .nil))) hbA)
  · refine w_ixT (SqT.of e12) (atI_nat (j := 4) rfl) (q _ _ H12 kpE sE (.tup trivial (s12 _ _ e11) (.cons (.str _) .nil)) bodyOk_seen)
/-- _law_letters: slots 0:script 1:people 2:least 3:letters 4:counts 5:k 6:stream 7:author 8:name 9:seen 10:body -/
def t__law_letters (K : PySem.W.Frag) (C_Letter : Addr) : TS := (tSeq (tAsg (tLst tNil) (gName 3))
  (tSeq (tAsg tDNewK (gName 4))
  (tSeq (tFor (iRng2 (tCons (tVar 2) (tCons (tCB qMin2 (tCons (tCB (qLenSeq K) (tCons (tVar 0) tNil)) (tCons (tC (.int 61)) tNil))) tNil))) (gName 5) (tSeq (tAsg (tCall (spStream K) [] C8.E0 (tCons (tOp (rIxL K) (tVar 0) (tVar 5)) (tCons (tVar 5) tNil))) (gName 6))
  (tSeq (tAsg (tOp (rIxL K) (tVar 1) (tCall (spNext K) [] C8.E0 (tCons (tVar 6) (tCons (tCB (qLenSeq K) (tCons (tVar 1) tNil)) tNil)))) (gName 7))
  (tSeq (sDPut (tVar 4) (tVar 7) (tOp qAdd (tDGet2 (tVar 4) (tVar 7) (tC (.int 0))) (tC (.int 1))))
  (tSeq (tAsg (tCB (qTupleOf K) (tCons (tLc (iList K (tCB Wp.qSortedD (tCons (tVar 4) tNil))) (gName 8) tYes (tTup (tCons (tVar 8) (tCons (tDGet (tVar 4) (tVar 8)) tNil))) [8]) tNil)) (gName 9))
  (tSeq (tAsg (tCall (spLBody K C_Letter) [] C8.E0 (tCons (tVar 3) (tCons (tVar 1) (tCons (tVar 6) tNil)))) (gName 10))
  (tDrop (tBM K "list" rAppend (tVar 3) (tCons (tMake C_Letter (spInit K C_Letter) [] C8.E0 (tCons (tVar 7) (tCons (tDGet (tVar 4) (tVar 7)) (tCons (tOp qAdd (tVar 5) (tC (.int 2))) (tCons (tVar 9) (tCons (tVar 10) tNil)))))) tNil)))))))))
  (tRet (tVar 3)))))
theorem l__law_letters (h : spLetters K C vs H Q E) : vs.length = 3 := by obtain ⟨sc, ns, pa, ps, rfl, _⟩ := h; rfl
theorem r__law_letters (LC : IsC_Letter K C) (h : spLetters K C vs H Q E) : t__law_letters K C { nx := fun _ H' => Q .non H', rt := Q } (start ["script", "people", "least", "letters", "counts", "k", "stream", "author", "name", "seen", "body"] vs) H := by
  obtain ⟨sc, ns, pa, ps, rfl, hS, hn, hpa, q⟩ := h
  unfold t__law_letters
  refine w_seq (w_asg (w_lstV (w_nil ⟨sz (by simp), w_new fun p H1 p0 s1 e1 => w_name ?_⟩)))
  with_reducible refine w_seq ?_
  refine w_asg (w_dnewK fun c H2 c0 s2 e2 => w_name ?_)
  with_reducible refine w_seq ?_
  refine w_for (w_iRng2 (w_cons (w_var rfl (w_cons (w_cb (w_cons (w_cb (w_cons (w_var rfl (w_nil (w_lenL ((s1.trans s2).seq hS) (w_cons (w_c (w_nil (w_min2 (w_nil ?_))))))))))))))))
  rw [List.length_map]
  have hm : (if (61 : Int) < (ns.length : Int) then (61 : Int) else (ns.length : Int)) ≤ 61 ∧ (if (61 : Int) < (ns.length : Int) then (61 : Int) else (ns.length : Int)) ≤ ns.length ∧ 0 ≤ (if (61 : Int) < (ns.length : Int) then (61 : Int) else (ns.length : Int)) := by
    split <;> omega
  generalize (if (61 : Int) < (ns.length : Int) then (61 : Int) else (ns.length : Int)) = m at hm
  refine ⟨1, m, rfl, ⟨by decide, by decide, by omega, by omega⟩, ?_⟩
  refine for_it walk_range (fun i σ G => (∃ u5 u6 u7 u8 u9 u10, σ = [some (.ref sc), some (.ref pa), some (.int 1), some (.ref p), some (.ref c), u5, u6, u7, u8, u9, u10]) ∧ Same H G ∧ ∃ ls cs ks f, G p = some (.lst (lsV ls)) ∧ ls.length = i ∧ LsOk (Off c) C G ls ∧ (∀ y ∈ ls, BodyOk y.2.b) ∧ G c = some (.dK cs) ∧ DI cs ks f ∧ (∀ a ∈ ks, a ∈ ps) ∧ ks.length ≤ i ∧ ∀ a ∈ ks, 1 ≤ f a) ?_ (fun _ _ _ _ _ => trivial) ?_ ?_
  · exact ⟨⟨_, _, _, _, _, _, rfl⟩, s1.trans s2, [], [], [], fun _ => 0, s2 _ _ e1, rfl, fun y hy => (nomatch hy), fun y hy => (nomatch hy), e2, DI.nil, fun a ha => (nomatch ha), Nat.le_refl _, fun a ha => (nomatch ha)⟩
  · rintro i x σ G G' hi ⟨⟨u5, u6, u7, u8, u9, u10, rfl⟩, sG, ls, cs, ks, f, gp, hlen, hok, hbd, gc0, di, hks, hkl, hf⟩ ⟨rfl, rfl⟩
    have hc0 : H c = none := same_none s1 c0
    have ncp : c ≠ p := (ne_of_none e1 c0).symm
    have hiI : (1 : Int) + (i : Int) < ns.length := by omega
    have hi60 : i < 60 := by omega
    refine w_name ?_
    -- the stream
    with_reducible refine w_seq ?_
    refine w_asg (w_call (w_cons (w_op (w_var rfl (w_var rfl (w_ixL (v := .int ns[1 + i]) (sG.seq hS) (atI_of (by omega) ?_) (w_cons (w_var rfl (w_nil ⟨_, _, rfl, fun p1 G1 f1 t1 st1 => w_name ?_⟩)))))))))
    · rw [List.getElem?_map, show (1 + (i : Int)).toNat = 1 + i by omega, List.getElem?_eq_getElem (by omega)]
      rfl
    have p10 : H p1 = none := same_none sG f1
    have npp : p ≠ p1 := ne_of_none gp f1
    have ncp1 : c ≠ p1 := ne_of_none gc0 f1
    have hpa1 := (hpa.same sG).same t1
    -- the author
    with_reducible refine w_seq ?_
    refine w_asg (w_op (w_var rfl (w_call (w_cons (w_var rfl (w_cons (w_cb (w_cons (w_var rfl (w_nil (w_lenL (SqL.of hpa1.1) (w_nil ?_))))))))))))
    rw [List.length_map]
    refine ⟨p1, ps.length, rfl, st1, by have := hpa.2.1; omega, by have := hpa.2.2.1; omega, fun r G2 k2 st2 r0 r1 => ?_⟩
    have hrl : r.toNat < ps.length := by omega
    have hpa2 := hpa1.kp st1 k2
    refine w_ixL (SqL.of hpa2.1) (v := .str ps[r.toNat]) (atI_of r0 (by rw [List.getElem?_map, List.getElem?_eq_getElem hrl]; rfl)) (w_name ?_)
    have ham : ps[r.toNat] ∈ ps := List.getElem_mem hrl
    generalize ps[r.toNat] = a at ham
    have sG2 : Same H G2 := Same.kp0 (sG.trans t1) k2 p10
    have gp2 := k2 _ _ npp (t1 _ _ gp)
    have gc2 := k2 _ _ ncp1 (t1 _ _ gc0)
    have ok2 : LsOk (Off c) C G2 ls := (hok.same t1).fm (Fm.stm k2 st1)
    -- its count
    with_reducible refine w_seq ?_
    refine w_dput (w_op (w_dget2 (w_var rfl ⟨c, rfl, .inl ⟨_, .inl gc2⟩, w_var rfl (w_c ⟨_, DGet.k (k := Sum.inr a) gc2, ?_⟩)⟩)))
    rw [di.getD a]
    refine w_c (w_I0 (w_var rfl (w_var rfl (dputK (k := Sum.inr a) gc2 (by rw [di.len]; omega) fun G3 k3 gc3 => ?_))))
    obtain ⟨ks', di', hak, hmk, hkl'⟩ := di.put a (cv ks f a + 1)
    have sG3 : Same H G3 := Same.kp0 sG2 k3 hc0
    have gp3 := k3 _ _ ncp.symm gp2
    have st3 : Stm G3 p1 := stm_kp st2 k3 ncp1.symm
    have ok3 : LsOk (Off c) C G3 ls := ok2.fm (Fm.kpD k3 gc2 (fun _ z => by cases z) fun _ _ _ z => by cases z)
    have hks' : ∀ b ∈ ks', b ∈ ps := fun b hb => ((hmk b).mp hb).elim (hks b) fun e => e ▸ ham
    have hf' : ∀ b ∈ ks', 1 ≤ (if b = a then cv ks f a + 1 else f b) := fun b hb => by
      have h1 : 0 ≤ cv ks f a := by
        unfold cv
        split
        · rename_i m
          have := hf a m
          omega
        · exact Int.le_refl _
      split
      · omega
      · rename_i nb
        exact hf b (((hmk b).mp hb).elim id fun e => absurd e nb)
    generalize hfg : (fun b => if b = a then cv ks f a + 1 else f b) = f' at di'
    have hf' : ∀ b ∈ ks', 1 ≤ f' b := fun b hb => by
      rw [← hfg]
      exact hf' b hb
    generalize putK cs (Sum.inr a) (.int (cv ks f a + 1)) = cs' at di' gc3
    have hks5 : ks'.length < 64 := by omega
    -- what it has seen
    with_reducible refine w_seq ?_
    refine w_asg (w_cb (w_cons (w_lc (w_iList (w_cb (w_cons (w_var rfl (w_nil ⟨c, cs', ks', rfl, .inl gc3, di'.keys, hks5, fun ys q0 perm srt hq0 => ?_⟩))))))))
    obtain ⟨G6, eG6, s6, e6⟩ := newT (o := .lst (ys.map V.str)) hq0
    rw [← eG6]
    refine ⟨q0, rfl, ⟨_, SqL.of e6⟩, fun D hD => ?_⟩
    have hyl : ys.length < 64 := by rw [perm.length_eq]; exact hks5
    refine lc_it (walk_list (xs := ys.map V.str)) (fun k G' => Same G6 G' ∧ ∃ ts, G' D = some (.lst ts) ∧ ts.length ≤ k ∧ DnAll Any G' ts ((ys.take k).map fun y => pairD (y, f' y))) ⟨Same.upd (Same.refl G6) hD, [], upd_same, Nat.le_refl _, .nil⟩ (fun k G' _ e => SqL.of (e.1 _ _ e6)) ?_ ?_
    · rintro k x G7 G7' hk ⟨s7, ts, eD, hts, dts⟩ ⟨rfl, hx⟩
      rw [List.getElem?_map] at hx
      obtain ⟨y, hy, rfl⟩ := Option.map_eq_some_iff.mp hx
      have hym : y ∈ ks' := perm.mem_iff.mp (List.mem_of_getElem? hy)
      have hk7 := s7 _ _ (s6 _ _ gc3)
      have et : ys.take (k + 1) = ys.take k ++ [y] := by rw [List.take_add_one, hy]; rfl
      have hkk : k < 64 := by
        rw [List.length_map] at hk
        omega
      refine w_name ⟨rfl, w_yes (iteT_ ?_)⟩
      refine w_tupV (w_cons (w_var rfl (w_cons (w_dget (w_var rfl (w_var rfl ⟨c, .int (f' y), rfl, by rw [← di'.has hym]; exact DGet.k (k := Sum.inr y) hk7, w_nil ⟨sz (by simp), w_new fun t G8 t0 s8 et8 => ⟨ts, s8 _ _ eD, ?_, ?_, _, upd_same, ?_, ?_⟩⟩⟩))))))
      · exact Nat.lt_of_le_of_lt (show ts.length ≤ 64 by omega) (by decide)
      · exact fun b o e2 => by
          rw [upd_ne (ne_of_none e2 hD)]
          exact s8 _ _ (s7 _ _ e2)
      · rw [List.length_append, List.length_singleton]
        omega
      · have tk : Tk G8 (upd G8 D (.lst (ts ++ [V.ref t]))) := Tk.kpL Kp.refl.updp (s8 _ _ eD)
        rw [et, List.map_append]
        refine DnAll.app (dnall_tk tk (plainAll_of fun d hd => ?_) (dts.same s8)) (.cons (.tup trivial (tk _ _ et8) (.cons (.str _) (.cons (.int _) .nil))) .nil)
        obtain ⟨y', _, rfl⟩ := List.mem_map.mp hd
        rfl
    rintro G7 ⟨s7, ts, eD, hts, dts⟩
    rw [show (ys.map V.str).length = ys.length from List.length_map _, List.take_length] at dts
    refine w_nil (w_tupleOfL (SqL.of eD) fun l hl => ?_)
    obtain ⟨G8, eG8, s8, e8⟩ := newT (o := .tup ts) hl
    rw [← eG8]
    refine w_name ?_
    obtain ⟨PS, hPS⟩ : ∃ PS : List (Str × Int), PS = ys.map fun y => (y, f' y) := ⟨_, rfl⟩
    have hsv : Dn Any G8 (.ref l) (seenD PS) := by
      refine .tup trivial e8 ?_
      rw [hPS, List.map_map]
      exact dts.same s8
    have hPm : ∀ q ∈ PS, q.1 ∈ ks' := fun q hq => by
      rw [hPS] at hq
      obtain ⟨y, hy, rfl⟩ := List.mem_map.mp hq
      exact perm.mem_iff.mp hy
    have hPn : (PS.map (·.1)).Nodup := by
      rw [hPS, List.map_map, show ((fun x : Str × Int => x.1) ∘ fun y => (y, f' y)) = id from rfl, List.map_id]
      exact perm.nodup_iff.mpr di'.nd
    have hPl : PS.length ≤ 63 := by
      rw [hPS, List.length_map]
      omega
    have s58 := (s6.trans s7).trans s8
    have gp8 := s58 _ _ gp3
    have hc8 := s58 _ _ gc3
    have st8 := st3.same s58
    have ok8 := ok3.same s58
    -- the body
    with_reducible refine w_seq ?_
    refine w_asg (w_call (w_cons (w_var rfl (w_cons (w_var rfl (w_cons (w_var rfl (w_nil ⟨p, pa, p1, ls, ps, rfl, st8, hpa.same (sG3.trans s58), gp8, ok8.any, by omega, fun bv B G9 k9 st9 dB okB => w_name ?_⟩))))))))
    have gp9 := k9 _ _ npp gp8
    have hc9 := k9 _ _ ncp1 hc8
    have ok9 := ok8.fm (Fm.stm k9 st8)
    have hsv9 := dn_tk (Fm.stm (ok := Any) k9 st8).1 (plain_seen PS) hsv
    -- the letter
    with_reducible refine w_drop ?_
    refine w_bm (w_var rfl (w_tyL gp9 (w_cons (w_make ?_))))
    refine w_cons (w_var rfl (w_cons (w_dget (w_var rfl (w_var rfl ⟨c, .int (f' a), rfl, by rw [← di'.has hak]; exact DGet.k (k := Sum.inr a) hc9, ?_⟩)))))
    refine w_cons (w_op (w_var rfl (w_c (w_I0 (w_cons (w_var rfl (w_cons (w_var rfl (w_nil fun x dx hx hdx ndx => ?_)))))))))
    refine ⟨x, dx, a, f' a, _, PS, .ref l, bv, rfl, upd_same, dn_made2 hsv9 hx hdx _, hPn, by omega, fun G11 d hd k11 e11 ed => ⟨rfl, ?_⟩⟩
    have s11 : Same G9 G11 := same_made2 hx hdx k11
    have ndc : d ≠ c := by
      have hM : upd (upd G9 dx (.own x)) x (.ins C dx []) c = some (.dK cs') := by
        rw [upd_ne (ne_of_none hc9 hx), upd_ne (ne_of_none hc9 hdx)]
        exact hc9
      exact (ne_of_none hM hd).symm
    have gp11 := s11 _ _ gp9
    obtain ⟨L, hL⟩ : ∃ L : Lt, L = ⟨a, f' a, 1 + (i : Int) + 2, PS, B⟩ := ⟨_, rfl⟩
    have wL : Wf L := by
      subst hL
      exact ⟨hf' a hak, hPn, by show PS.length ≤ 100; omega, (hpa.2.2.2 a ham).1, fun q hq => (hpa.2.2.2 _ (hks' _ (hPm q hq))).1, okB.lay, okB.pl⟩
    have aL : LtAt (Off c) C G11 x L := by
      subst hL
      exact ⟨dx, d, .ref l, bv, e11, ndc, ed, hsv9.same s11, dB.same s11⟩
    refine w_nil (w_appV gp11 (by rw [List.length_map]; omega) fun G12 k12 e12 => ?_)
    refine ⟨⟨_, _, _, _, _, _, rfl⟩, fun b o e => ?_, ls ++ [(x, L)], cs', ks', f', ?_, by rw [List.length_append, hlen]; rfl, ?_, fun y hy => ?_, k12 _ _ ncp (s11 _ _ hc9), di', hks', by omega, hf'⟩
    · exact k12 _ _ (ne_of_none e p0) (s11 _ _ (k9 _ _ (ne_of_none e p10) (s58 _ _ (sG3 _ _ e))))
    · rw [e12, lsV_app]
      rfl
    · refine LsOk.fm (LsOk.app (ok9.same s11) fun y hy => ?_) (Fm.kpL k12 gp11)
      rw [List.mem_singleton.mp hy]
      exact ⟨aL, wL⟩
    · rcases List.mem_append.mp hy with hy | hy
      · exact hbd y hy
      · rw [List.mem_singleton.mp hy, hL]
        exact okB
  · rintro σ G ⟨⟨u5, u6, u7, u8, u9, u10, rfl⟩, sG, ls, cs, ks, f, gp, hlen, hok, hbd, gc0, di, hks, hkl, hf⟩
    with_reducible refine w_ret ?_
    exact w_var rfl (q p ls G p0 sG gp hok.any hbd (by omega))
end

/-! ### who is called in a text -/
def LOW : Str := "abcdefghijklmnopqrstuvwxyz"
def DIG : Str := "0123456789"
def alnum (c : Nat) : Bool := decide (c ∈ LOW.cps.toList) || decide (c ∈ DIG.cps.toList)
def callsL (nm : List Nat) : List Nat → Bool
  | [] => false
  | c :: r => (decide (c = 64) && decide (r.takeWhile alnum = nm)) || callsL nm r
def NmOk (nm : Str) : Prop := nm.cps.toList ≠ [] ∧ nm.cps.toList.all alnum = true ∧ nm.length ≤ 12
def callsS (t nm : Str) : Bool := callsL nm.cps.toList t.cps.toList
theorem al64 : alnum 64 = false := by decide
theorem tw_tw (r : List Nat) : (r.takeWhile fun c => decide (c ≠ 64)).takeWhile alnum = r.takeWhile alnum := by
  induction r with
  | nil => rfl
  | cons c r ih =>
    by_cases h : c = 64
    · subst h
      rw [List.takeWhile_cons_of_neg (by simp), List.takeWhile_cons_of_neg (by rw [al64]; decide)]
      rfl
    · rw [List.takeWhile_cons_of_pos (by simpa using h)]
      cases ha : alnum c with
      | true => rw [List.takeWhile_cons_of_pos ha, List.takeWhile_cons_of_pos ha, ih]
      | false => rw [List.takeWhile_cons_of_neg (by simp [ha]), List.takeWhile_cons_of_neg (by simp [ha])]
theorem pre1 (c : Nat) (r : List Nat) : TL.pre [64] (c :: r) = decide (c = 64) := by
  unfold TL.pre
  rw [Bool.eq_iff_iff, beq_iff_eq, decide_eq_true_eq]
  show [c] = [64] ↔ _
  simp
theorem spl1_head : ∀ (t acc : List Nat), ∃ rest, TL.spl [64] 0 acc t = (acc ++ t.takeWhile fun c => decide (c ≠ 64)) :: rest
  | [], acc => ⟨[], by rw [TL.spl_nil]; simp⟩
  | c :: r, acc => by
    by_cases h : c = 64
    · subst h
      exact ⟨TL.spl [64] 0 [] r, by rw [TL.spl_hit (by rw [pre1]; rfl), List.takeWhile_cons_of_neg (by simp), List.append_nil]; rfl⟩
    · obtain ⟨rest, e⟩ := spl1_head r (acc ++ [c])
      exact ⟨rest, by rw [TL.spl_miss (by rw [pre1]; exact decide_eq_false h), e, List.takeWhile_cons_of_pos (by simpa using h), List.append_assoc]; rfl⟩
theorem calls1 (nm : List Nat) : ∀ (t acc : List Nat), (((TL.spl [64] 0 acc t).drop 1).any fun p => decide (p.takeWhile alnum = nm)) = callsL nm t
  | [], acc => by rw [TL.spl_nil]; rfl
  | c :: r, acc => by
    by_cases h : c = 64
    · subst h
      rw [TL.spl_hit (by rw [pre1]; rfl), List.drop_succ_cons, List.drop_zero]
      show ((TL.spl [64] 0 [] r).any _) = _
      have ih := calls1 nm r []
      obtain ⟨rest, e⟩ := spl1_head r []
      rw [e, List.drop_succ_cons, List.drop_zero] at ih
      rw [e, List.any_cons, ih, List.nil_append, tw_tw]
      rfl
    · rw [TL.spl_miss (by rw [pre1]; exact decide_eq_false h), calls1 nm r (acc ++ [c])]
      show _ = ((decide (c = 64) && _) || _)
      rw [decide_eq_false h]
      rfl
theorem callsL_app (nm : List Nat) : ∀ (a : List Nat) (r : List Nat), (∀ c ∈ a, c ≠ 64) → callsL nm (a ++ r) = callsL nm r
  | [], r, _ => rfl
  | c :: a, r, h => by
    show ((decide (c = 64) && _) || callsL nm (a ++ r)) = _
    rw [decide_eq_false (h c (List.mem_cons_self ..)), callsL_app nm a r fun x hx => h x (List.mem_cons_of_mem _ hx)]
    rfl
theorem tw_app (nm r : List Nat) (h : nm.all alnum = true) : (nm ++ r).takeWhile alnum = nm ++ r.takeWhile alnum := by
  induction nm with
  | nil => rfl
  | cons c nm ih =>
    rw [List.all_cons, Bool.and_eq_true] at h
    rw [List.cons_append, List.takeWhile_cons_of_pos h.1, ih h.2]
    rfl
/-- what the law's plain test asks of a part -/
def openB (p : List Nat) : Bool := match p with | [] => true | c :: _ => !alnum c
theorem open_tw (r : List Nat) : openB r = decide (r.takeWhile alnum = []) := by
  cases r with
  | nil => rfl
  | cons c r =>
    unfold openB
    cases ha : alnum c with
    | true => rw [List.takeWhile_cons_of_pos ha]; simp [ha]
    | false => rw [List.takeWhile_cons_of_neg (by simp [ha])]; simp [ha]
theorem splN_head (nm : List Nat) : ∀ (t acc : List Nat), ∃ h rest, TL.spl (64 :: nm) 0 acc t = (acc ++ h) :: rest ∧ (openB h = openB t)
  | [], acc => ⟨[], [], by rw [TL.spl_nil, List.append_nil], rfl⟩
  | c :: r, acc => by
    cases hp : TL.pre (64 :: nm) (c :: r) with
    | true =>
      refine ⟨[], _, by rw [TL.spl_hit hp, List.append_nil], ?_⟩
      have hc : c = 64 := by
        by_cases z : c = 64
        · exact z
        · rw [TL.pre_of_head nm r z] at hp
          exact nomatch hp
      subst hc
      show true = !alnum 64
      rw [al64]
      rfl
    | false =>
      obtain ⟨h, rest, e, _⟩ := splN_head nm r (acc ++ [c])
      exact ⟨c :: h, rest, by rw [TL.spl_miss hp, e, List.append_assoc]; rfl, rfl⟩
theorem callsN (nm : List Nat) (hn : nm.all alnum = true) (n0 : nm ≠ []) : ∀ (n : Nat) (t acc : List Nat), t.length ≤ n → ((TL.spl (64 :: nm) 0 acc t).drop 1).any openB = callsL nm t
  | _, [], acc, _ => by rw [TL.spl_nil]; rfl
  | 0, c :: r, acc, h => absurd h (by simp)
  | n + 1, c :: r, acc, hl => by
    have hr : r.length ≤ n := by
      rw [List.length_cons] at hl
      omega
    have n64 : ∀ c ∈ nm, c ≠ 64 := fun c hc z => by
      have := List.all_eq_true.mp hn c hc
      rw [z, al64] at this
      exact nomatch this
    cases hp : TL.pre (64 :: nm) (c :: r) with
    | true =>
      have hc : c = 64 := by
        by_cases z : c = 64
        · exact z
        · rw [TL.pre_of_head nm r z] at hp
          exact nomatch hp
      subst hc
      have e : (64 :: r).take (64 :: nm).length = 64 :: nm := eq_of_beq hp
      rw [List.length_cons, List.take_succ_cons] at e
      injection e with _ e
      obtain ⟨r', rfl⟩ : ∃ r', r = nm ++ r' := ⟨r.drop nm.length, by conv => lhs; rw [← List.take_append_drop nm.length r, e]⟩
      rw [TL.spl_hit hp, List.drop_succ_cons, List.drop_zero, TL.spl_pass]
      show (TL.spl (64 :: nm) 0 [] ((nm ++ r').drop nm.length)).any openB = _
      rw [List.drop_left]
      obtain ⟨h, rest, e1, e2⟩ := splN_head nm r' []
      have ih := callsN nm hn n0 n r' [] (by rw [List.length_append] at hr; omega)
      rw [e1, List.drop_succ_cons, List.drop_zero] at ih
      rw [e1, List.any_cons, ih, List.nil_append, e2, open_tw]
      show _ = ((decide ((64 : Nat) = 64) && decide ((nm ++ r').takeWhile alnum = nm)) || callsL nm (nm ++ r'))
      rw [callsL_app nm nm r' n64, tw_app nm r' hn, decide_eq_true rfl, Bool.true_and]
      congr 1
      rw [decide_eq_decide]
      constructor
      · intro z
        rw [z, List.append_nil]
      · intro z
        have := congrArg List.length z
        rw [List.length_append] at this
        exact List.length_eq_zero_iff.mp (by omega)
    | false =>
      rw [TL.spl_miss hp, callsN nm hn n0 n r (acc ++ [c]) hr]
      show _ = ((decide (c = 64) && decide (r.takeWhile alnum = nm)) || callsL nm r)
      have : (decide (c = 64) && decide (r.takeWhile alnum = nm)) = false := by
        rw [Bool.and_eq_false_iff]
        by_cases z : c = 64
        · refine .inr (decide_eq_false fun e => ?_)
          subst z
          have : TL.pre (64 :: nm) (64 :: r) = true := by
            unfold TL.pre
            rw [List.length_cons, List.take_succ_cons]
            have h2 : r.take nm.length = nm := by
              conv => lhs; rw [← List.takeWhile_append_dropWhile (p := alnum) (l := r), e]
              rw [List.take_left]
            rw [h2]
            exact beq_self_eq_true _
          rw [this] at hp
          exact nomatch hp
        · exact .inl (decide_eq_false z)
      rw [this, Bool.false_or]
def spFront (K : PySem.W.Frag) : Sp := fun vs H Q _ => ∃ t : Str, vs = [.str t] ∧ t.length ≤ 1000 ∧ ∀ r : Str, r.cps.toList = t.cps.toList.takeWhile alnum → Q (.str r) H
def spCalls (K : PySem.W.Frag) : Sp := fun vs H Q _ => ∃ t nm : Str, vs = [.str t, .str nm] ∧ t.length ≤ 1000 ∧ NmOk nm ∧ ∀ H', Same H H' → Q (.bl (callsS t nm)) H'
def spLawCalls (K : PySem.W.Frag) : Sp := fun vs H Q _ => ∃ t nm : Str, vs = [.str t, .str nm] ∧ t.length ≤ 1000 ∧ NmOk nm ∧ ∀ H', Same H H' → Q (.bl (callsS t nm)) H'
section
variable {K : PySem.W.Frag} {vs : List V} {H : Hp} {Q : VK} {E : XK} {σ : L2.St} {D : Ends}
theorem w_while {c : TT} {tb : TS} (q : ∃ W : Nat → L2.St → Hp → Prop, (∃ m, W m σ H) ∧ ∀ m σ H, W m σ H →
  c σ H fun b H1 => if b = true then ∃ N : L2.St → Hp → Prop, (∀ σ' H', N σ' H' → ∃ m', m' < m ∧ W m' σ' H') ∧ tb { D with nx := N, ct := N, bk := D.nx } σ H1 else D.nx σ H1) : tWhile c tb D σ H := q
theorem tw_take (l : List Nat) : ∀ n, (∀ i, i < n → ∃ c, l[i]? = some c ∧ alnum c = true) → (n = l.length ∨ ∃ c, l[n]? = some c ∧ alnum c = false) → l.takeWhile alnum = l.take n := by
  induction l with
  | nil =>
    intro n h hn
    rw [List.take_nil]
    rfl
  | cons c l ih =>
    intro n h hn
    cases n with
    | zero =>
      rcases hn with hn | ⟨d, e, ha⟩
      · exact nomatch hn
      · cases Option.some.inj e
        rw [List.takeWhile_cons_of_neg (by simp [ha])]
        rfl
    | succ n =>
      obtain ⟨d, e, ha⟩ := h 0 (by omega)
      cases Option.some.inj e
      rw [List.takeWhile_cons_of_pos ha, List.take_succ_cons, ih n (fun i hi => h (i + 1) (by omega)) (hn.imp (fun z => by rw [List.length_cons] at z; omega) id)]
/-- _front_signs: slots 0:text 1:end -/
def t__front_signs (K : PySem.W.Frag) : TS := (tSeq (tAsg (tC (.int 0)) (gName 1))
  (tSeq (tWhile (tAnd (tTest (tOp qLt (tVar 1) (tCB qLenStr (tCons (tVar 0) tNil)))) (tOr (tTest (tOp qInSign (tOp rIxS (tVar 0) (tVar 1)) (tC v_LETTERS))) (tTest (tOp qInSign (tOp rIxS (tVar 0) (tVar 1)) (tC v_DIGITS))))) (tAug 1 (tC (.int 1)) (ipI fun i j => i + j)))
  (tRet (tSl rSlS (tVar 0) tNoPart (tPart (tVar 1))))))
theorem l__front_signs (h : spFront K vs H Q E) : vs.length = 1 := by obtain ⟨t, rfl, _⟩ := h; rfl
theorem r__front_signs (h : spFront K vs H Q E) : t__front_signs K { nx := fun _ H' => Q .non H', rt := Q } (start ["text", "end"] vs) H := by
  obtain ⟨t, rfl, hl, q⟩ := h
  have hlen := str_len t
  unfold t__front_signs
  refine w_seq (w_asg (w_c (w_name ?_)))
  with_reducible refine w_seq ?_
  refine w_while ⟨fun m σ G => ∃ n : Nat, m = t.length - n ∧ n ≤ t.length ∧ σ = [some (.str t), some (.int n)] ∧ G = H ∧ ∀ i, i < n → ∃ c, t.cps.toList[i]? = some c ∧ alnum c = true, ⟨_, 0, rfl, Nat.zero_le _, rfl, rfl, fun i hi => absurd hi (Nat.not_lt_zero _)⟩, ?_⟩
  rintro m σ G ⟨n, rfl, hn, rfl, rfl, hall⟩
  have fin : (n = t.cps.toList.length ∨ ∃ c, t.cps.toList[n]? = some c ∧ alnum c = false) → Q (.str (cutS t none (some (n : Int)))) G := fun h => q _ (by rw [cutS_to (by omega), tw_take _ n hall h, Int.toNat_natCast])
  refine w_and (w_test (w_op (w_var rfl (w_cb (w_cons (w_var rfl (w_nil (w_lenStr (sz (by omega)) (w_I0 (w_exb (w_ite (fun c => ?_) (fun c => ?_)))))))))))) 
  · have hlt : n < t.cps.toList.length := by omega
    have e := List.getElem?_eq_getElem hlt
    generalize t.cps.toList[n] = d at e
    have more : alnum d = true → ∃ N : L2.St → Hp → Prop, (∀ σ' H', N σ' H' → ∃ m', m' < t.length - n ∧ ∃ n : Nat, m' = t.length - n ∧ n ≤ t.length ∧ σ' = [some (.str t), some (.int n)] ∧ H' = G ∧ ∀ i, i < n → ∃ c, t.cps.toList[i]? = some c ∧ alnum c = true) ∧ tAug 1 (tC (.int 1)) (ipI fun i j => i + j) { nx := N, rt := Q, bk := (fun σ H => (tRet (tSl rSlS (tVar 0) tNoPart (tPart (tVar 1)))) { nx := fun _ H' => Q .non H', rt := Q } σ H), ct := N } [some (.str t), some (.int n)] G := fun ha => by
      refine ⟨fun σ' H' => σ' = [some (.str t), some (.int ((n : Int) + 1))] ∧ H' = G, ?_, ?_⟩
      · rintro σ' H' ⟨rfl, rfl⟩
        refine ⟨t.length - (n + 1), by omega, n + 1, rfl, by omega, by rw [show ((n + 1 : Nat) : Int) = (n : Int) + 1 by omega], rfl, fun i hi => ?_⟩
        by_cases hin : i < n
        · exact hall i hin
        · have : i = n := by omega
          subst this
          exact ⟨d, e, ha⟩
      · exact ⟨_, rfl, ⟨_, _, rfl, rfl, rfl, rfl⟩⟩
    refine w_or (w_test (w_op (w_op (w_var rfl (w_var rfl (w_ixS (sz (by omega)) (atI_nat e) (w_c (w_inSign (w_exb (w_ite (fun c1 => ?_) (fun c1 => ?_)))))))))))
    · refine ite_t rfl (more ?_)
      unfold alnum
      rw [Bool.or_eq_true]
      exact .inl (decide_eq_true c1)
    · refine w_test (w_op (w_op (w_var rfl (w_var rfl (w_ixS (sz (by omega)) (atI_nat e) (w_c (w_inSign (w_exb ?_))))))))
      refine w_ite (fun c2 => more ?_) (fun c2 => ?_)
      · unfold alnum
        rw [Bool.or_eq_true]
        exact .inr (decide_eq_true c2)
      · with_reducible refine w_ret ?_
        refine w_sl (w_var rfl (w_noPart (w_part (w_var rfl (w_exi (w_slS (sz (by omega)) (fin (.inr ⟨d, e, ?_⟩))))))))
        unfold alnum
        rw [Bool.or_eq_false_iff]
        exact ⟨decide_eq_false c1, decide_eq_false c2⟩
  · refine ite_f (by decide) ?_
    with_reducible refine w_ret ?_
    refine w_sl (w_var rfl (w_noPart (w_part (w_var rfl (w_exi (w_slS (sz (by omega)) (fin (.inl (by omega)))))))))
theorem spl_len (S : List Nat) : ∀ (t : List Nat) (k : Nat) (acc : List Nat), ∀ x ∈ TL.spl S k acc t, x.length ≤ acc.length + t.length
  | [], k, acc, x, hx => by
    rw [TL.spl_nil] at hx
    rw [List.mem_singleton.mp hx]
    exact Nat.le_add_right _ _
  | c :: r, 0, acc, x, hx => by
    cases hp : TL.pre S (c :: r) with
    | true =>
      rw [TL.spl_hit hp] at hx
      rcases List.mem_cons.mp hx with rfl | hx
      · exact Nat.le_add_right _ _
      · have := spl_len S r _ [] x hx
        rw [List.length_cons]
        simp at this
        omega
    | false =>
      rw [TL.spl_miss hp] at hx
      have := spl_len S r _ _ x hx
      rw [List.length_append, List.length_singleton] at this
      rw [List.length_cons]
      omega
  | c :: r, k + 1, acc, x, hx => by
    have := spl_len S r k acc x hx
    rw [List.length_cons]
    omega
theorem spl_ne (S : List Nat) : ∀ (t : List Nat) (k : Nat) (acc : List Nat), 1 ≤ (TL.spl S k acc t).length
  | [], k, acc => by rw [TL.spl_nil]; exact Nat.le_refl _
  | c :: r, 0, acc => by
    cases hp : TL.pre S (c :: r) with
    | true => rw [TL.spl_hit hp, List.length_cons]; omega
    | false => rw [TL.spl_miss hp]; exact spl_ne S r _ _
  | c :: r, k + 1, acc => spl_ne S r k acc
theorem str_eq_tl (a b : Str) : decide (a = b) = decide (a.cps.toList = b.cps.toList) := by
  rw [decide_eq_decide]
  exact ⟨fun e => by rw [e], fun e => TL.ext_tl e⟩
/-- _calls: slots 0:text 1:name 2:part -/
def t__calls (K : PySem.W.Frag) : TS := (tRet (tCB (rAny K) (tCons (tLc (iList K (tSl (rSlL K) (tBM K "str" qSplit (tVar 0) (tCons (tC v_SIGN) tNil)) (tPart (tC (.int 1))) tNoPart)) (gName 2) tYes (tOp rEq (tCall (spFront K) [] C8.E0 (tCons (tVar 2) tNil)) (tVar 1)) [2]) tNil)))
theorem l__calls (h : spCalls K vs H Q E) : vs.length = 2 := by obtain ⟨t, nm, rfl, _⟩ := h; rfl
theorem r__calls (h : spCalls K vs H Q E) : t__calls K { nx := fun _ H' => Q .non H', rt := Q } (start ["text", "name", "part"] vs) H := by
  obtain ⟨t, nm, rfl, hl, hnm, q⟩ := h
  have hsp : (Txt.split t (Str.ofString "\x40")).map TL.tl = TL.spl [64] 0 [] (TL.tl t) := TL.split_spl _ _ (by decide) (TL.kind_ok (by decide +kernel))
  unfold t__calls
  refine w_ret (w_cb (w_cons (w_lc (w_iList (w_sl (w_bm (w_var rfl ⟨rfl, w_cons (w_c (w_nil (w_splitV (by decide) (by omega) fun p H1 p0 s1 e1 => ?_)))⟩)))))))
  refine w_part (w_c (w_exi (w_noPart (w_slLV (SqL.of e1) fun p2 H2 _ s2 e2 => ⟨p2, rfl, ⟨_, SqL.of e2⟩, fun D hD => ?_⟩))))
  generalize Txt.split t (Str.ofString "\x40") = parts at hsp e1 e2
  have hne : 1 ≤ parts.length := by
    have := spl_ne [64] (TL.tl t) 0 []
    rw [← hsp, List.length_map] at this
    exact this
  have e2' : H2 p2 = some (.lst ((parts.drop 1).map V.str)) := by
    rw [e2, List.map_drop]
    exact congrArg (fun l => some (HO.lst l)) (cutV_from (i := 1) (by rw [List.length_map]; exact hne))
  have hpl : ∀ x ∈ parts, x.length ≤ 1000 := fun x hx => by
    have := spl_len [64] (TL.tl t) 0 [] (TL.tl x) (by rw [← hsp]; exact List.mem_map.mpr ⟨x, hx, rfl⟩)
    rw [str_len]
    rw [str_len] at hl
    simp at this
    exact Nat.le_trans this hl
  have hcnt : parts.length ≤ 1001 := by
    have : ∀ (S t : List Nat) (k : Nat) (acc : List Nat), (TL.spl S k acc t).length ≤ t.length + 1 := fun S t => by
      induction t with
      | nil => intro k acc; rw [TL.spl_nil]; exact Nat.le_refl _
      | cons c r ih =>
        intro k acc
        cases k with
        | zero =>
          cases hp : TL.pre S (c :: r) with
          | true => rw [TL.spl_hit hp, List.length_cons, List.length_cons]; have := ih (S.length - 1) []; omega
          | false => rw [TL.spl_miss hp, List.length_cons]; have := ih 0 (acc ++ [c]); omega
        | succ k => have := ih k acc; rw [List.length_cons]; show (TL.spl S k acc r).length ≤ _; omega
    have := this [64] (TL.tl t) 0 []
    rw [← hsp, List.length_map] at this
    rw [str_len] at hl
    have this : parts.length ≤ t.cps.toList.length + 1 := this
    omega
  refine lc_it (walk_list (xs := cutV (parts.map V.str) (some 1) none)) (fun k G => Same H2 G ∧ G D = some (.lst (((parts.drop 1).take k).map fun x => V.bl (decide (x.cps.toList.takeWhile alnum = nm.cps.toList))))) ⟨Same.upd (Same.refl H2) hD, upd_same⟩ (fun k G _ s => SqL.of (s.1 _ _ e2)) ?_ ?_
  · rintro k v G G' hk ⟨s, eD⟩ ⟨rfl, hx⟩
    rw [show cutV (parts.map V.str) (some 1) none = (parts.drop 1).map V.str from Option.some.inj (HO.lst.inj (Option.some.inj (e2.symm.trans e2')) |> congrArg some), List.getElem?_map] at hx
    obtain ⟨x, hxx, rfl⟩ := Option.map_eq_some_iff.mp hx
    have hxm := List.mem_of_mem_drop (List.mem_of_getElem? hxx)
    have hkl : k < parts.length := by
      have := (List.getElem?_eq_some_iff.mp hxx).1
      rw [List.length_drop] at this
      omega
    refine w_name ⟨rfl, w_yes (iteT_ (w_op (w_call (w_cons (w_var rfl (w_nil ⟨x, rfl, hpl x hxm, fun r er => w_var rfl (w_eqS ⟨_, eD, ?_, ?_, ?_⟩)⟩))))))⟩
    · rw [List.length_map, List.length_take]
      exact Nat.lt_of_le_of_lt (show min k (parts.drop 1).length ≤ 1001 by omega) (by decide)
    · exact fun b o e3 => by
        rw [upd_ne (ne_of_none e3 hD)]
        exact s _ _ e3
    · rw [upd_same, List.take_add_one, hxx, Option.toList_some, List.map_append, str_eq_tl, er]
      rfl
  · rintro G ⟨s, eD⟩
    rw [show cutV (parts.map V.str) (some 1) none = (parts.drop 1).map V.str from Option.some.inj (HO.lst.inj (Option.some.inj (e2.symm.trans e2')) |> congrArg some), List.length_map, List.take_length] at eD
    refine w_nil ⟨D, (parts.drop 1).map fun x => decide (x.cps.toList.takeWhile alnum = nm.cps.toList), rfl, SqL.of (by rw [eD, List.map_map]; rfl), ?_⟩
    have key := calls1 nm.cps.toList (TL.tl t) []
    rw [← hsp, ← List.map_drop, List.any_map] at key
    rw [List.any_map]
    have : ((parts.drop 1).any (id ∘ fun x => decide (x.cps.toList.takeWhile alnum = nm.cps.toList))) = callsS t nm := key
    rw [this]
    exact q G ((s1.trans s2).trans s)
/-- _law_calls: slots 0:text 1:name 2:parts 3:part -/
def t__law_calls (K : PySem.W.Frag) : TS := (tSeq (tAsg (tBM K "str" qSplit (tVar 0) (tCons (tOp qAddS (tC (.str "\x40")) (tVar 1)) tNil)) (gName 2))
  (tSeq (tFor (iList K (tSl (rSlL K) (tVar 2) (tPart (tC (.int 1))) tNoPart)) (gName 3) (tIfS (tOr (tTest (tOp rEq (tVar 3) (tC (.str "")))) (tTest (tOp qNinSign (tOp rIxS (tVar 3) (tC (.int 0))) (tC (.str "abcdefghijklmnopqrstuvwxyz0123456789"))))) (tRet (tC (.bl true))) tNext))
  (tRet (tC (.bl false)))))
theorem l__law_calls (h : spLawCalls K vs H Q E) : vs.length = 2 := by obtain ⟨t, nm, rfl, _⟩ := h; rfl
theorem r__law_calls (h : spLawCalls K vs H Q E) : t__law_calls K { nx := fun _ H' => Q .non H', rt := Q } (start ["text", "name", "parts", "part"] vs) H := by
  obtain ⟨t, nm, rfl, hl, hnm, q⟩ := h
  have hs : TL.tl (Str.ofString "\x40" ++ nm) = 64 :: TL.tl nm := by rw [TL.tl_append]; rfl
  have hk : (Str.ofString "\x40" ++ nm).cps.all (· < 256) = true := by
    rw [← Array.all_toList]
    show (TL.tl (Str.ofString "\x40" ++ nm)).all _ = true
    rw [hs, List.all_cons, List.all_eq_true.mpr fun c hc => ?_]
    · rfl
    · have := List.all_eq_true.mp hnm.2.1 c hc
      unfold alnum at this
      rw [Bool.or_eq_true, decide_eq_true_eq, decide_eq_true_eq] at this
      have l1 : LOW.cps.toList.all (fun c => decide (c < 256)) = true := by decide
      have l2 : DIG.cps.toList.all (fun c => decide (c < 256)) = true := by decide
      exact this.elim (fun m => List.all_eq_true.mp l1 c m) fun m => List.all_eq_true.mp l2 c m
  have hsp : (Txt.split t (Str.ofString "\x40" ++ nm)).map TL.tl = TL.spl (64 :: TL.tl nm) 0 [] (TL.tl t) := by
    have := TL.split_spl t (Str.ofString "\x40" ++ nm) (by rw [hs]; simp) (TL.kind_ok hk)
    rw [hs] at this
    exact this
  have hbl : ((Str.ofString "\x40" ++ nm).length == 0) = false := by
    rw [beq_eq_false_iff_ne, TL.len_tl, hs]
    simp
  unfold t__law_calls
  refine w_seq (w_asg (w_bm (w_var rfl ⟨rfl, w_cons (w_op (w_c (w_var rfl (w_addS (sz (by have := hnm.2.2; show 1 + nm.length ≤ 100000; omega)) (w_nil (w_splitV hbl (by omega) fun p H1 p0 s1 e1 => w_name ?_))))))⟩)))
  generalize Txt.split t (Str.ofString "\x40" ++ nm) = parts at hsp e1
  have hne : 1 ≤ parts.length := by
    have := spl_ne (64 :: TL.tl nm) (TL.tl t) 0 []
    rw [← hsp, List.length_map] at this
    exact this
  have hpl : ∀ x ∈ parts, x.length ≤ 1000 := fun x hx => by
    have := spl_len (64 :: TL.tl nm) (TL.tl t) 0 [] (TL.tl x) (by rw [← hsp]; exact List.mem_map.mpr ⟨x, hx, rfl⟩)
    rw [str_len]
    rw [str_len] at hl
    simp at this
    exact Nat.le_trans this hl
  have key := callsN nm.cps.toList hnm.2.1 hnm.1 t.cps.toList.length (TL.tl t) [] (Nat.le_refl _)
  have hsp' : parts.map TL.tl = TL.spl (64 :: nm.cps.toList) 0 [] (TL.tl t) := hsp
  rw [← hsp', ← List.map_drop, List.any_map] at key
  with_reducible refine w_seq ?_
  refine w_for (w_iList (w_sl (w_var rfl (w_part (w_c (w_exi (w_noPart (w_slLV (SqL.of e1) fun p2 H2 _ s2 e2 => ?_))))))))
  have ecut : cutV (parts.map V.str) (some 1) none = (parts.drop 1).map V.str := by
    rw [List.map_drop]
    exact cutV_from (i := 1) (by rw [List.length_map]; exact hne)
  rw [ecut] at e2
  refine ⟨p2, rfl, ⟨_, SqL.of e2⟩, ?_⟩
  refine for_it (walk_list (xs := (parts.drop 1).map V.str)) (fun k σ G => (∃ u3, σ = [some (.str t), some (.str nm), some (.ref p), u3]) ∧ G = H2 ∧ ((parts.drop 1).take k).any (openB ∘ TL.tl) = false) ⟨⟨_, rfl⟩, rfl, rfl⟩ (fun k σ G _ e => by rw [e.2.1]; exact SqL.of e2) ?_ ?_
  · rintro k v σ G G' hk ⟨⟨u3, rfl⟩, hG, ha⟩ ⟨hG', hx⟩
    rw [hG', hG]
    rw [List.getElem?_map] at hx
    obtain ⟨x, hxx, rfl⟩ := Option.map_eq_some_iff.mp hx
    have hxm := List.mem_of_mem_drop (List.mem_of_getElem? hxx)
    have yes : openB (TL.tl x) = true → Q (.bl true) H2 := fun e => by
      have : callsS t nm = true := by
        show callsL nm.cps.toList (TL.tl t) = true
        rw [← key, List.any_eq_true]
        exact ⟨x, List.mem_of_getElem? hxx, e⟩
      have h2 := q H2 (s1.trans s2)
      rw [this] at h2
      exact h2
    have no : openB (TL.tl x) = false → ((parts.drop 1).take (k + 1)).any (openB ∘ TL.tl) = false := fun e => by
      rw [List.take_add_one, hxx, Option.toList_some, List.any_append, ha, List.any_cons, List.any_nil]
      show (false || (openB (TL.tl x) || false)) = false
      rw [e]
      rfl
    refine w_name (w_ifS (w_or (w_test (w_op (w_var rfl (w_c (w_eqS (w_exb (w_ite (fun c => ?_) (fun c => ?_))))))))))
    · refine ite_t rfl (w_ret (w_c (yes ?_)))
      rw [c]
      decide +kernel
    · cases hx2 : TL.tl x with
      | nil =>
        exact absurd (TL.ext_tl (y := Str.ofString "") hx2) c
      | cons d r =>
        have ed : x.cps.toList[0]? = some d := by
          show (TL.tl x)[0]? = some d
          rw [hx2]
          rfl
        refine w_test (w_op (w_op (w_var rfl (w_c (w_ixS (sz (Nat.le_trans (hpl x hxm) (by decide))) (atI_nat (j := 0) ed) (w_c (w_ninSign (w_exb ?_))))))))
        have e36 : decide (d ∈ (Str.ofString "abcdefghijklmnopqrstuvwxyz0123456789").cps.toList) = alnum d := by
          have : (Str.ofString "abcdefghijklmnopqrstuvwxyz0123456789").cps.toList = LOW.cps.toList ++ DIG.cps.toList := by decide
          rw [this]
          unfold alnum
          rw [Bool.eq_iff_iff, decide_eq_true_eq, Bool.or_eq_true, decide_eq_true_eq, decide_eq_true_eq, List.mem_append]
        rw [e36]
        have eo : openB (TL.tl x) = !alnum d := by rw [hx2]; rfl
        rw [← eo]
        cases ho : openB (TL.tl x) with
        | true => exact ite_t rfl (w_ret (w_c (yes ho)))
        | false => exact ite_f (by decide) (w_next ⟨⟨_, rfl⟩, rfl, no ho⟩)
  · rintro σ G ⟨⟨u3, rfl⟩, hG, ha⟩
    rw [hG]
    rw [List.length_map, List.take_length] at ha
    have : callsS t nm = false := by
      show callsL nm.cps.toList (TL.tl t) = false
      rw [← key]
      exact ha
    have h2 := q H2 (s1.trans s2)
    rw [this] at h2
    with_reducible refine w_ret ?_
    exact w_c h2
end

/-! ### inboxes -/
def kindB : PyData → Str
  | .tuple (.str k :: _) => k
  | _ => Str.ofString ""
def talkB (b : PyData) : Bool := decide (kindB b ∈ [Str.ofString "say", Str.ofString "reply"])
def txtB : PyData → Str
  | .tuple [_, .str t] => t
  | .tuple [_, _, .str t] => t
  | _ => Str.ofString ""
theorem txtB3 (a r : PyData) (t : Str) : txtB (.tuple [a, r, .str t]) = t := by cases r <;> rfl
theorem body_at {H : Hp} {bv : V} {B : PyData} (h : BodyOk B) (d : Dn Any H bv B) : ∃ ta k xs, bv = .ref ta ∧ H ta = some (.tup (.str k :: xs)) ∧ kindB B = k ∧ (k = Str.ofString "say" → xs = [.str (txtB B)]) ∧ (k = Str.ofString "reply" → ∃ r, xs = [r, .str (txtB B)]) ∧ (talkB B = true → (txtB B).length ≤ 400) := by
  obtain ⟨k, ds, rfl, hs⟩ := h.sh
  cases d with
  | @tup ta ws _ _ ht hw =>
    cases hw with
    | @cons v vs _ _ h0 hs0 =>
      cases h0
      refine ⟨ta, k, vs, rfl, ht, rfl, fun e => ?_, fun e => ?_, fun e => ?_⟩
      · rcases hs with ⟨_, t, rfl, _⟩ | ⟨e2, _⟩ | ⟨e2, _⟩
        · cases hs0 with
          | cons h1 hs1 =>
            cases h1
            cases hs1
            rfl
        · exact absurd (e.symm.trans e2) (by decide)
        · exact absurd e e2
      · rcases hs with ⟨e2, _⟩ | ⟨_, r, t, rfl, _⟩ | ⟨_, e2⟩
        · exact absurd (e2.symm.trans e) (by decide)
        · cases hs0 with
          | @cons v1 _ _ _ h1 hs1 =>
            cases hs1 with
            | cons h2 hs2 =>
              cases h2
              cases hs2
              exact ⟨v1, by rw [txtB3]⟩
        · exact absurd e e2
      · rcases hs with ⟨_, t, rfl, hl⟩ | ⟨_, r, t, rfl, hl⟩ | ⟨e1, e2⟩
        · exact hl
        · rw [txtB3]
          exact hl
        · have : k ∈ [Str.ofString "say", Str.ofString "reply"] := of_decide_eq_true e
          simp only [List.mem_cons, List.not_mem_nil, or_false] at this
          exact this.elim (fun z => absurd z e1) fun z => absurd z e2
def refP (y : Addr × Lt) : PyData := .tuple [.str y.2.a, .int y.2.n]
def LsB (ls : List (Addr × Lt)) : Prop := ∀ y ∈ ls, BodyOk y.2.b
def newP (nm : Str) (y : Addr × Lt) : Bool := talkB y.2.b && decide (y.2.a ≠ nm)
def unreadF (nm : Str) (n : Nat) (ls : List (Addr × Lt)) : List (Addr × Lt) := (ls.drop n).filter (newP nm)
def callP (nm : Str) (y : Addr × Lt) : Bool := callsS (txtB y.2.b) nm
structure Ib (C : Addr) (H : Hp) (x dx d : Addr) (nm : Str) (f : Str × Str → Int) (n : Nat) : Prop where
  hx : H x = some (.ins C dx [("name", .str nm), ("_counts", .ref d)])
  hd : ∃ E, H d = some (.dT E) ∧ E.length ≤ n ∧ ∀ a b, (valV E [Sum.inr a, Sum.inr b]).getD (.int 0) = .int (f (a, b))
theorem Ib.same {C x dx d : Addr} {H H' : Hp} {nm : Str} {f : Str × Str → Int} {n : Nat} (h : Ib C H x dx d nm f n) (s : Same H H') : Ib C H' x dx d nm f n := by
  obtain ⟨E, e, r⟩ := h.hd
  exact ⟨s _ _ h.hx, E, s _ _ e, r⟩
theorem Ib.kpL {C x dx d p : Addr} {H H' : Hp} {nm : Str} {f : Str × Str → Int} {n : Nat} {ys : List V} (h : Ib C H x dx d nm f n) (k : Kp p H H') (hp : H p = some (.lst ys)) : Ib C H' x dx d nm f n := by
  obtain ⟨E, e, r⟩ := h.hd
  exact ⟨k _ _ (ne_kind h.hx hp fun z => by cases z) h.hx, E, k _ _ (ne_kind e hp fun z => by cases z) e, r⟩
def spTextOf (K : PySem.W.Frag) : Sp := fun vs H Q _ => ∃ bv B, vs = [bv] ∧ Dn Any H bv B ∧ BodyOk B ∧ talkB B = true ∧ ∀ H', Same H H' → Q (.str (txtB B)) H'
def spIInit (K : PySem.W.Frag) (C : Addr) : Sp := fun vs H Q _ => ∃ (x dx : Addr) (nm : Str), vs = [.ref x, .str nm] ∧ H x = some (.ins C dx []) ∧ ∀ H' d, H d = none → Kp x H H' → Ib C H' x dx d nm (fun _ => 0) 0 → Q .non H'
def spRead (K : PySem.W.Frag) (C : Addr) : Sp := fun vs H Q _ => ∃ (x dx d r : Addr) (nm a b : Str) (f : Str × Str → Int) (n : Nat), vs = [.ref x, .ref r] ∧ Ib C H x dx d nm f n ∧ H r = some (.tup [.str a, .str b]) ∧ Q (.int (f (a, b))) H
def spMark (K : PySem.W.Frag) (C : Addr) : Sp := fun vs H Q _ => ∃ (x dx d r : Addr) (nm a b : Str) (f : Str × Str → Int) (n : Nat) (c : Int), vs = [.ref x, .ref r, .int c] ∧ Ib C H x dx d nm f n ∧ n ≤ 1000 ∧ H r = some (.tup [.str a, .str b]) ∧
  ∀ H', Kp d H H' → Ib C H' x dx d nm (fun q => if q = (a, b) then (if f (a, b) > c then f (a, b) else c) else f q) (n + 1) → Q .non H'
def spUnreadL (K : PySem.W.Frag) (CL C : Addr) : Sp := fun vs H Q _ => ∃ (x dx d r l : Addr) (nm a b : Str) (f : Str × Str → Int) (n : Nat) (ls : List (Addr × Lt)), vs = [.ref x, .ref r, .ref l] ∧ Ib C H x dx d nm f n ∧ H r = some (.tup [.str a, .str b]) ∧ 0 ≤ f (a, b) ∧ H l = some (.lst (lsV ls)) ∧ LsOk Any CL H ls ∧ LsB ls ∧ ls.length ≤ 100 ∧
  ∀ p H', H p = none → Same H H' → H' p = some (.lst (lsV (unreadF nm (f (a, b)).toNat ls))) → Q (.ref p) H'
def spUnread (K : PySem.W.Frag) (CL C : Addr) : Sp := fun vs H Q _ => ∃ (x dx d r l : Addr) (nm a b : Str) (f : Str × Str → Int) (n : Nat) (ls : List (Addr × Lt)), vs = [.ref x, .ref r, .ref l] ∧ Ib C H x dx d nm f n ∧ H r = some (.tup [.str a, .str b]) ∧ 0 ≤ f (a, b) ∧ H l = some (.lst (lsV ls)) ∧ LsOk Any CL H ls ∧ LsB ls ∧ ls.length ≤ 100 ∧
  ∀ p ts H', H p = none → Same H H' → H' p = some (.lst ts) → DnAll Any H' ts ((unreadF nm (f (a, b)).toNat ls).map refP) → Q (.ref p) H'
def spMentions (K : PySem.W.Frag) (CL C : Addr) : Sp := fun vs H Q _ => ∃ (x dx d r l : Addr) (nm a b : Str) (f : Str × Str → Int) (n : Nat) (ls : List (Addr × Lt)), vs = [.ref x, .ref r, .ref l] ∧ Ib C H x dx d nm f n ∧ NmOk nm ∧ H r = some (.tup [.str a, .str b]) ∧ 0 ≤ f (a, b) ∧ H l = some (.lst (lsV ls)) ∧ LsOk Any CL H ls ∧ LsB ls ∧ ls.length ≤ 100 ∧
  ∀ p ts H', H p = none → Same H H' → H' p = some (.lst ts) → DnAll Any H' ts (((unreadF nm (f (a, b)).toNat ls).filter (callP nm)).map refP) → Q (.ref p) H'
theorem cutV_fromI {xs : List V} {v : Int} (h : 0 ≤ v) : cutV xs (some v) none = xs.drop v.toNat := by
  obtain ⟨n, rfl⟩ := Int.eq_ofNat_of_zero_le h
  unfold cutV
  rw [HT.sIx_none, HT.sIx_nat, Int.toNat_natCast]
  by_cases hn : n ≤ xs.length
  · rw [Nat.min_eq_left hn, ← List.length_drop, List.take_length]
  · rw [Nat.min_eq_right (by omega), List.drop_of_length_le (Nat.le_refl _), List.drop_of_length_le (by omega), List.take_nil]
section
variable {K : PySem.W.Frag} {C CL : Addr} {vs : List V} {H : Hp} {Q : VK} {E : XK} {σ : L2.St} {tt : TT}
/-- text_of: slots 0:body -/
def t_text_of (K : PySem.W.Frag) : TS := (tSeq (tIfS (tTest (tOp rEq (tOp (rIxT K) (tVar 0) (tC (.int 0))) (tC (.str "say")))) (tRet (tOp (rIxT K) (tVar 0) (tC (.int 1)))) tNext)
  (tSeq (tIfS (tTest (tOp (rIn K false) (tOp (rIxT K) (tVar 0) (tC (.int 0))) (tTup (tCons (tC (.str "reply")) (tCons (tC (.str "edit")) tNil))))) (tRet (tOp (rIxT K) (tVar 0) (tC (.int 2)))) tNext)
  (tRet (tC .non))))
theorem l_text_of (h : spTextOf K vs H Q E) : vs.length = 1 := by obtain ⟨bv, B, rfl, _⟩ := h; rfl
theorem r_text_of (h : spTextOf K vs H Q E) : t_text_of K { nx := fun _ H' => Q .non H', rt := Q } (start ["body"] vs) H := by
  obtain ⟨bv, B, rfl, dB, okB, tB, q⟩ := h
  obtain ⟨ta, k, xs, rfl, ht, hk, h1, h2, hl⟩ := body_at okB dB
  unfold t_text_of
  refine w_seq (w_ifS (w_test (w_op (w_op (w_var rfl (w_c (w_ixT (SqT.of ht) (atI_nat (j := 0) rfl) (w_c (w_eqS (w_exb (w_ite (fun c => ?_) (fun c => w_next ?_))))))))))) )
  · have hx := h1 c
    subst hx
    exact w_ret (w_op (w_var rfl (w_c (w_ixT (SqT.of ht) (atI_nat (j := 1) rfl) (q H (Same.refl H))))))
  have hr : k = Str.ofString "reply" := by
    unfold talkB at tB
    rw [hk] at tB
    have := of_decide_eq_true tB
    simp only [List.mem_cons, List.not_mem_nil, or_false] at this
    exact this.elim (fun z => absurd z c) id
  obtain ⟨r, hx⟩ := h2 hr
  subst hx
  subst hr
  with_reducible refine w_seq ?_
  refine w_ifS (w_test (w_op (w_op (w_var rfl (w_c (w_ixT (SqT.of ht) (atI_nat (j := 0) rfl) (w_tupV (w_cons (w_c (w_cons (w_c (w_nil ⟨sz (by simp), w_new fun t2 H2 _ s2 e2 => ?_⟩))))))))))))
  refine w_inT (SqT.of e2) rfl rfl (w_exb (ite_t (by decide +kernel) ?_))
  exact w_ret (w_op (w_var rfl (w_c (w_ixT (SqT.of (s2 _ _ ht)) (atI_nat (j := 2) rfl) (q H2 s2)))))
/-- Inbox___init__: slots 0:self 1:name -/
def t_Inbox___init__ (K : PySem.W.Frag) (C_Inbox : Addr) : TS := (tSeq (sFld K (tVar 0) (tVar 1) "name")
  (sFld K (tVar 0) tDNewT "_counts"))
theorem l_Inbox___init__ (h : spIInit K C vs H Q E) : vs.length = 2 := by obtain ⟨x, dx, nm, rfl, _⟩ := h; rfl
theorem r_Inbox___init__ (LC : IsC_Inbox K C) (h : spIInit K C vs H Q E) : t_Inbox___init__ K C { nx := fun _ H' => Q .non H', rt := Q } (start ["self", "name"] vs) H := by
  obtain ⟨x, dx, nm, rfl, hx, q⟩ := h
  unfold t_Inbox___init__
  refine w_seq (w_sfld (w_var rfl (w_var rfl (sfldV hx LC.cl LC.n_name (show 0 < 1000 by decide) fun G1 k1 g1 => ?_))))
  refine w_sfld (w_dnewT fun d H2 f2 s2 e2 => w_var rfl (sfldV (s2 _ _ g1) LC.cl LC.n_counts (show 1 < 1000 by decide) fun G2 k2 g2 => ?_))
  have nd : d ≠ x := (ne_of_none g1 f2).symm
  exact q G2 d (k1.free nd f2) ((k1.trans (Same.kp s2)).trans k2) ⟨g2, [], k2 _ _ nd e2, Nat.le_refl _, fun _ _ => rfl⟩
/-- Inbox_read: slots 0:self 1:room -/
def t_Inbox_read (K : PySem.W.Frag) (C_Inbox : Addr) : TS := (tRet (tDGet2 (tFld K (tVar 0) "_counts") (tVar 1) (tC (.int 0))))
theorem l_Inbox_read (h : spRead K C vs H Q E) : vs.length = 2 := by obtain ⟨x, dx, d, r, nm, a, b, f, n, rfl, _⟩ := h; rfl
theorem r_Inbox_read (LC : IsC_Inbox K C) (h : spRead K C vs H Q E) : t_Inbox_read K C { nx := fun _ H' => Q .non H', rt := Q } (start ["self", "room"] vs) H := by
  obtain ⟨x, dx, d, r, nm, a, b, f, n, rfl, hI, hr, q⟩ := h
  obtain ⟨E', e, el, ev⟩ := hI.hd
  unfold t_Inbox_read
  refine w_ret (w_dget2 (w_fldV rfl hI.hx LC.cl LC.n_counts rfl ⟨d, rfl, .inr ⟨_, .inl e⟩, w_var rfl (w_c ⟨_, DGet.t (k := [Sum.inr a, Sum.inr b]) e hr, ?_⟩)⟩))
  rw [ev a b]
  exact q
/-- Inbox_mark_read: slots 0:self 1:room 2:count -/
def t_Inbox_mark_read (K : PySem.W.Frag) (C_Inbox : Addr) : TS := (sDPut (tFld K (tVar 0) "_counts") (tVar 1) (tCB qMax2 (tCons (tVar 2) (tCons (tMeth C_Inbox "read" (spRead K C_Inbox) [] C8.E0 (tVar 0) (tCons (tVar 1) tNil)) tNil))))
theorem l_Inbox_mark_read (h : spMark K C vs H Q E) : vs.length = 3 := by obtain ⟨x, dx, d, r, nm, a, b, f, n, c, rfl, _⟩ := h; rfl
theorem r_Inbox_mark_read (LC : IsC_Inbox K C) (h : spMark K C vs H Q E) : t_Inbox_mark_read K C { nx := fun _ H' => Q .non H', rt := Q } (start ["self", "room", "count"] vs) H := by
  obtain ⟨x, dx, d, r, nm, a, b, f, n, c, rfl, hI, hn, hr, q⟩ := h
  obtain ⟨E', e, el, ev⟩ := hI.hd
  unfold t_Inbox_mark_read
  refine w_dput (w_cb (w_cons (w_var rfl (w_cons (w_methV rfl hI.hx rfl (w_cons (w_var rfl (w_nil ⟨x, dx, d, r, nm, a, b, f, n, rfl, hI, hr, w_nil (w_max2 (w_fldV rfl hI.hx LC.cl LC.n_counts rfl (w_var rfl (dputT (k := [Sum.inr a, Sum.inr b]) e hr (by omega) fun G k g => ?_))))⟩))))))))
  refine q G k ⟨k _ _ (ne_kind hI.hx e fun z => by cases z) hI.hx, _, g, ?_, fun a' b' => ?_⟩
  · have := length_putK E' [Sum.inr a, Sum.inr b] (.int (if f (a, b) > c then f (a, b) else c))
    omega
  · rw [valV_put]
    by_cases z : (a', b') = (a, b)
    · cases z
      rw [if_pos rfl, if_pos rfl]
      rfl
    · rw [if_neg z, if_neg (fun y => z (by
        injection y with y1 y2
        injection y2 with y2 _
        rw [Sum.inr.inj y1, Sum.inr.inj y2]))]
      exact ev a' b'
/-- Inbox__unread_letters: slots 0:self 1:room 2:letters 3:left 4:letter -/
def t_Inbox__unread_letters (K : PySem.W.Frag) (C_Inbox : Addr) (C_Letter : Addr) : TS := (tSeq (tAsg (tSl (rSlL K) (tVar 2) (tPart (tMeth C_Inbox "read" (spRead K C_Inbox) [] C8.E0 (tVar 0) (tCons (tVar 1) tNil))) tNoPart) (gName 3))
  (tRet (tLc (iList K (tVar 3)) (gName 4) (tAnd (tTest (tOp (rIn K false) (tOp (rIxT K) (tFld K (tVar 4) "body") (tC (.int 0))) (tTup (tCons (tC (.str "say")) (tCons (tC (.str "reply")) tNil))))) (tTest (tOp rNe (tFld K (tVar 4) "author") (tFld K (tVar 0) "name")))) (tVar 4) [4])))
theorem l_Inbox__unread_letters (h : spUnreadL K CL C vs H Q E) : vs.length = 3 := by obtain ⟨x, dx, d, r, l, nm, a, b, f, n, ls, rfl, _⟩ := h; rfl
theorem r_Inbox__unread_letters (LC : IsC_Inbox K C) (LCL : IsC_Letter K CL) (h : spUnreadL K CL C vs H Q E) : t_Inbox__unread_letters K C CL { nx := fun _ H' => Q .non H', rt := Q } (start ["self", "room", "letters", "left", "letter"] vs) H := by
  obtain ⟨x, dx, d, r, l, nm, a, b, f, n, ls, rfl, hI, hr, hf, hl, ok, okb, hll, q⟩ := h
  unfold t_Inbox__unread_letters
  refine w_seq (w_asg (w_sl (w_var rfl (w_part (w_methV rfl hI.hx rfl (w_cons (w_var rfl (w_nil ⟨x, dx, d, r, nm, a, b, f, n, rfl, hI, hr, w_exi (w_noPart (w_slLV (SqL.of hl) fun p H1 p0 s1 e1 => w_name ?_))⟩))))))))
  rw [cutV_fromI hf, lsV_drop] at e1
  with_reducible refine w_ret ?_
  refine w_lc (w_iList (w_var rfl ⟨p, rfl, ⟨_, SqL.of e1⟩, lcLs (ls := ls.drop (f (a, b)).toNat) (newP nm) (fun G s => SqL.of (s _ _ e1)) (by rw [List.length_drop]; omega) (fun _ => rfl) (fun _ => rfl) (fun o ho G s R rr => ?_) fun D G D0 s eD => q D G (same_none s1 D0) (s1.trans s) eD⟩))
  have ho' := List.mem_of_mem_drop ho
  obtain ⟨dx', d', sv', bv', hox, _, _, _, hbv⟩ := id (ok o ho').1
  have sA := s1.trans s
  obtain ⟨ta, k, xs, rfl, ht, hk, _, _, _⟩ := body_at (okb o ho') (hbv.same sA)
  refine w_and (w_test (w_op (w_op (w_fldV rfl (sA _ _ hox) LCL.cl LCL.n_body lfs_body (w_c (w_ixT (SqT.of ht) (atI_nat (j := 0) rfl) (w_tupV (w_cons (w_c (w_cons (w_c (w_nil ⟨sz (by simp), w_new fun t2 H2 _ s2 e2 => ?_⟩))))))))))))
  have e3 : inV (.str k) [.str (Str.ofString "say"), .str (Str.ofString "reply")] = talkB o.2.b := by
    have := inV_strs k [Str.ofString "say", Str.ofString "reply"]
    unfold talkB
    rw [hk]
    exact this
  refine w_inTb (SqT.of e2) rfl rfl e3 (w_exb ?_)
  have rr2 : ∀ H2, Same G H2 → R (talkB o.2.b && decide (o.2.a ≠ nm)) H2 := rr
  cases hc : talkB o.2.b with
  | false =>
    rw [hc] at rr2
    exact ite_f (by decide) (rr2 H2 s2)
  | true =>
    rw [hc] at rr2
    exact ite_t rfl (w_test (w_op (w_fldV rfl (s2 _ _ (sA _ _ hox)) LCL.cl LCL.n_author lfs_author (w_fldV rfl (s2 _ _ (sA _ _ hI.hx)) LC.cl LC.n_name rfl (w_neS (w_exb (rr2 H2 s2)))))))
/-- [letter.ref for letter in .. if ..] -/
theorem lcRefs {ws : List Nat} {Qd : Addr → Hp → Prop} {a : Addr} {ls : List (Addr × Lt)} {i : Nat} (p : Addr × Lt → Bool) (ha : H a = some (.lst (lsV ls))) (hok : LsOk Any CL H ls) (hl : ls.length ≤ 1000) (hw : ∀ x, wipe ((wipe σ ws).set i (some x)) ws = wipe σ ws) (hi : ∀ x, ((wipe σ ws).set i (some x))[i]? = some (some x))
    (ht : ∀ y ∈ ls, ∀ H1, Same H H1 → ∀ R : Bool → Hp → Prop, (∀ H2, Same H1 H2 → R (p y) H2) → tt ((wipe σ ws).set i (some (.ref y.1))) H1 R)
    (q : ∀ D ts H1, H D = none → Same H H1 → H1 D = some (.lst ts) → DnAll Any H1 ts ((ls.filter p).map refP) → Qd D H1) :
    ∀ D, H D = none → ∃ W : Nat → Nat → Hp → Prop, (∃ m, W 0 m (upd H D (.lst []))) ∧ ∀ i' m H, W i' m H →
  ((Itl K a).stop i' H ∧ Qd D H) ∨ ((Itl K a).go i' H ∧ ∃ Nx : Hp → Prop, (∀ H', Nx H' → ∃ m', m' < m ∧ W (i' + 1) m' H') ∧ ∀ x H', (Itl K a).yld i' H x H' → gName i x (wipe σ ws) H' fun σ2 H2 => wipe σ2 ws = wipe σ ws ∧ tt σ2 H2 fun b H3 =>
    if b = true then tProp CL (spRefP K CL) [] C8.E0 (tVar i) σ2 H3 fun y H4 => ∃ acc, H4 D = some (.lst acc) ∧ acc.length < sizeLine ∧ Nx (upd H4 D (.lst (acc ++ [y]))) else Nx H3) := by
  intro D hD
  refine lc_it (walk_list (xs := lsV ls)) (fun k G => Same H G ∧ ∃ ts, G D = some (.lst ts) ∧ ts.length ≤ k ∧ DnAll Any G ts (((ls.take k).filter p).map refP)) ⟨Same.upd (Same.refl H) hD, [], upd_same, Nat.le_refl _, .nil⟩ (fun k G _ s => SqL.of (s.1 _ _ ha)) ?_ ?_
  · rintro k x G G' hk ⟨s, ts, eD, hts, dts⟩ ⟨rfl, hx⟩
    rw [List.getElem?_map] at hx
    obtain ⟨y, hy, rfl⟩ := Option.map_eq_some_iff.mp hx
    have hy' := hok.get hy
    obtain ⟨dx, d, sv, bv, hyx, _⟩ := id hy'.1
    rw [lsV_len] at hk
    have et : ls.take (k + 1) = ls.take k ++ [y] := by rw [List.take_add_one, hy]; rfl
    refine w_name ⟨hw _, ht y (List.mem_of_getElem? hy) _ s _ fun H2 s2 => ?_⟩
    cases hp : p y with
    | true =>
      refine ite_t rfl (w_propV (hi _) (s2 _ _ (s _ _ hyx)) ⟨y.1, y.2, rfl, hy'.1.same (s.trans s2), fun t G2 _ s3 e3 => ⟨ts, s3 _ _ (s2 _ _ eD), ?_, ?_, _, upd_same, ?_, ?_⟩⟩)
      · exact Nat.lt_of_le_of_lt (show ts.length ≤ 1000 by omega) (by decide)
      · exact fun b o e2 => by
          rw [upd_ne (ne_of_none e2 hD)]
          exact s3 _ _ (s2 _ _ (s _ _ e2))
      · rw [List.length_append, List.length_singleton]
        omega
      · have tk : Tk G2 (upd G2 D (.lst (ts ++ [V.ref t]))) := Tk.kpL Kp.refl.updp (s3 _ _ (s2 _ _ eD))
        rw [et, List.filter_append, List.filter_cons_of_pos hp, List.filter_nil, List.map_append]
        refine DnAll.app (dnall_tk tk (plainAll_of fun d hd => ?_) ((dts.same s2).same s3)) (.cons (.tup trivial (tk _ _ e3) (.cons (.str _) (.cons (.int _) .nil))) .nil)
        obtain ⟨o, _, rfl⟩ := List.mem_map.mp hd
        rfl
    | false =>
      refine ite_f (by decide) ⟨s.trans s2, ts, s2 _ _ eD, by omega, ?_⟩
      rw [et, List.filter_append, List.filter_cons_of_neg (by simp [hp]), List.filter_nil, List.append_nil]
      exact dts.same s2
  · rintro G ⟨s, ts, eD, hts, dts⟩
    rw [lsV_len, List.take_length] at dts
    exact q D ts G hD s eD dts
/-- Inbox_unread: slots 0:self 1:room 2:letters 3:letter -/
def t_Inbox_unread (K : PySem.W.Frag) (C_Inbox : Addr) (C_Letter : Addr) : TS := (tRet (tLc (iList K (tMeth C_Inbox "_unread_letters" (spUnreadL K C_Letter C_Inbox) [] C8.E0 (tVar 0) (tCons (tVar 1) (tCons (tVar 2) tNil)))) (gName 3) tYes (tProp C_Letter (spRefP K C_Letter) [] C8.E0 (tVar 3)) [3]))
theorem l_Inbox_unread (h : spUnread K CL C vs H Q E) : vs.length = 3 := by obtain ⟨x, dx, d, r, l, nm, a, b, f, n, ls, rfl, _⟩ := h; rfl
theorem r_Inbox_unread (LC : IsC_Inbox K C) (LCL : IsC_Letter K CL) (h : spUnread K CL C vs H Q E) : t_Inbox_unread K C CL { nx := fun _ H' => Q .non H', rt := Q } (start ["self", "room", "letters", "letter"] vs) H := by
  obtain ⟨x, dx, d, r, l, nm, a, b, f, n, ls, rfl, hI, hr, hf, hl, ok, okb, hll, q⟩ := h
  unfold t_Inbox_unread
  refine w_ret (w_lc (w_iList (w_methV rfl hI.hx rfl (w_cons (w_var rfl (w_cons (w_var rfl (w_nil ⟨x, dx, d, r, l, nm, a, b, f, n, ls, rfl, hI, hr, hf, hl, ok, okb, hll, fun p H1 p0 s1 e1 => ?_⟩))))))))
  have hsub : ∀ y ∈ unreadF nm (f (a, b)).toNat ls, y ∈ ls := fun y hy => List.mem_of_mem_drop (List.mem_filter.mp hy).1
  refine ⟨p, rfl, ⟨_, SqL.of e1⟩, lcRefs (fun _ => true) e1 ((ok.same s1).sub hsub) ?_ (fun _ => rfl) (fun _ => rfl) (fun y _ G s R rr => w_yes (rr G (Same.refl G))) fun D ts G D0 s eD dts => q D ts G (same_none s1 D0) (s1.trans s) eD ?_⟩
  · have h1 := List.length_filter_le (newP nm) (ls.drop (f (a, b)).toNat)
    rw [List.length_drop] at h1
    exact Nat.le_trans h1 (by omega)
  · rw [List.filter_eq_self.mpr fun _ _ => rfl] at dts
    exact dts
/-- Inbox_mentions: slots 0:self 1:room 2:letters 3:letter -/
def t_Inbox_mentions (K : PySem.W.Frag) (C_Inbox : Addr) (C_Letter : Addr) : TS := (tRet (tLc (iList K (tMeth C_Inbox "_unread_letters" (spUnreadL K C_Letter C_Inbox) [] C8.E0 (tVar 0) (tCons (tVar 1) (tCons (tVar 2) tNil)))) (gName 3) (tB (tCall (spCalls K) [] C8.E0 (tCons (tCall (spTextOf K) [] C8.E0 (tCons (tFld K (tVar 3) "body") tNil)) (tCons (tFld K (tVar 0) "name") tNil)))) (tProp C_Letter (spRefP K C_Letter) [] C8.E0 (tVar 3)) [3]))
theorem l_Inbox_mentions (h : spMentions K CL C vs H Q E) : vs.length = 3 := by obtain ⟨x, dx, d, r, l, nm, a, b, f, n, ls, rfl, _⟩ := h; rfl
theorem r_Inbox_mentions (LC : IsC_Inbox K C) (LCL : IsC_Letter K CL) (h : spMentions K CL C vs H Q E) : t_Inbox_mentions K C CL { nx := fun _ H' => Q .non H', rt := Q } (start ["self", "room", "letters", "letter"] vs) H := by
  obtain ⟨x, dx, d, r, l, nm, a, b, f, n, ls, rfl, hI, hnm, hr, hf, hl, ok, okb, hll, q⟩ := h
  unfold t_Inbox_mentions
  refine w_ret (w_lc (w_iList (w_methV rfl hI.hx rfl (w_cons (w_var rfl (w_cons (w_var rfl (w_nil ⟨x, dx, d, r, l, nm, a, b, f, n, ls, rfl, hI, hr, hf, hl, ok, okb, hll, fun p H1 p0 s1 e1 => ?_⟩))))))))
  have hsub : ∀ y ∈ unreadF nm (f (a, b)).toNat ls, y ∈ ls := fun y hy => List.mem_of_mem_drop (List.mem_filter.mp hy).1
  refine ⟨p, rfl, ⟨_, SqL.of e1⟩, lcRefs (callP nm) e1 ((ok.same s1).sub hsub) ?_ (fun _ => rfl) (fun _ => rfl) (fun y hy G s R rr => ?_) fun D ts G D0 s eD dts => q D ts G (same_none s1 D0) (s1.trans s) eD dts⟩
  · have h1 := List.length_filter_le (newP nm) (ls.drop (f (a, b)).toNat)
    rw [List.length_drop] at h1
    exact Nat.le_trans h1 (by omega)
  · have sA := s1.trans s
    obtain ⟨dx', d', sv', bv', hyx, _, _, _, hbv⟩ := id (ok y (hsub y hy)).1
    have htalk : talkB y.2.b = true := by
      have := (List.mem_filter.mp hy).2
      unfold newP at this
      rw [Bool.and_eq_true] at this
      exact this.1
    obtain ⟨_, _, _, _, _, _, _, _, hlen⟩ := body_at (okb y (hsub y hy)) (hbv.same sA)
    refine w_B (w_call (w_cons (w_call (w_cons (w_fldV rfl (sA _ _ hyx) LCL.cl LCL.n_body lfs_body (w_nil ⟨_, y.2.b, rfl, hbv.same sA, okb y (hsub y hy), htalk, fun G2 s2 => w_cons ?_⟩))))))
    refine w_fldV rfl (s2 _ _ (sA _ _ hI.hx)) LC.cl LC.n_name rfl (w_nil ⟨txtB y.2.b, nm, rfl, Nat.le_trans (hlen htalk) (by decide), hnm, fun G3 s3 => w_exb (rr G3 (s2.trans s3))⟩)
end

/-! ### the law on unread letters -/
def spLaw (K : PySem.W.Frag) : Sp := fun vs H Q _ => ∃ (a : Addr) (ns : List Int), vs = [.ref a] ∧ SqL K H a (ns.map V.int) ∧ ns.length ≤ 63 ∧ ∀ H', Q (.bl true) H'
def spIs (K : PySem.W.Frag) : Sp := fun vs H Q _ => ∃ i j : Int, vs = [.int i, .int j] ∧ Q (.bl (decide (i = j))) H
def spHolds (K : PySem.W.Frag) (CL C : Addr) : Sp := fun vs H Q _ => ∃ (x dx d r l : Addr) (nm a b : Str) (f : Str × Str → Int) (n : Nat) (ls : List (Addr × Lt)) (c : Int), vs = [.ref x, .ref r, .ref l, .int c] ∧ Ib C H x dx d nm f n ∧ NmOk nm ∧ H r = some (.tup [.str a, .str b]) ∧ 0 ≤ c ∧ c = f (a, b) ∧ H l = some (.lst (lsV ls)) ∧ LsOk Any CL H ls ∧ LsB ls ∧ ls.length ≤ 100 ∧
  ∀ H', Same H H' → Q (.bl true) H'
theorem shaped_refs {C : Addr} {H : Hp} {ls ms : List (Addr × Lt)} (h : LsOk Any C H ls) (s : ∀ y ∈ ms, y ∈ ls) : SeqAt.shaped (.list (ms.map refP)) = true := (lay_list (k := 2) fun d hd => by
  obtain ⟨y, hy, rfl⟩ := List.mem_map.mp hd
  exact (lay2 (k := 1) (lay_str (h y (s y hy)).2.aa) lay_int)).shaped
theorem plain_refs (ms : List (Addr × Lt)) : plainAll (ms.map refP) = true := plainAll_of fun d hd => by
  obtain ⟨y, _, rfl⟩ := List.mem_map.mp hd
  rfl
section
variable {K : PySem.W.Frag} {C CL : Addr} {vs : List V} {H : Hp} {Q : VK} {E : XK}
/-- _law_is: slots 0:actual 1:due -/
def t__law_is (K : PySem.W.Frag) : TS := (tRet (tAndV (tCB (rIsi K) (tCons (tVar 0) (tCons (tC (.ty "int")) tNil))) (tAndV (tNotV (tCB (rIsi K) (tCons (tVar 0) (tCons (tC (.ty "bool")) tNil)))) (tOp rEq (tVar 0) (tVar 1)))))
theorem l__law_is (h : spIs K vs H Q E) : vs.length = 2 := by obtain ⟨i, j, rfl, _⟩ := h; rfl
theorem r__law_is (h : spIs K vs H Q E) : t__law_is K { nx := fun _ H' => Q .non H', rt := Q } (start ["actual", "due"] vs) H := by
  obtain ⟨i, j, rfl, q⟩ := h
  unfold t__law_is
  walk_at "w"
  refine w_isi (Dn.tyX (ok := Any) (.int i)) (kit_int (.int i)) ?_
  walk_at "w"
  walk_at "if" <;> intro hc
  · walk_at "w"
    refine w_isi (Dn.tyX (ok := Any) (.int i)) (kit_bool (.int i)) ?_
    walk_at "w"
    walk_at "if" <;> intro h1
    · walk_at "w"
      exact q
    · exact absurd h1 (show ¬ "int" = "bool" by decide)
  · exact (hc (.inl rfl)).elim
/-- _law_holds: slots 0:inbox 1:room 2:letters 3:count 4:due 5:calls 6:letter 7:turn 8:told 9:named -/
def t__law_holds (K : PySem.W.Frag) (C_Letter : Addr) (C_Inbox : Addr) : TS := (tSeq (tAsg (tLst tNil) (gName 4))
  (tSeq (tAsg (tLst tNil) (gName 5))
  (tSeq (tFor (iList K (tSl (rSlL K) (tVar 2) (tPart (tVar 3)) tNoPart)) (gName 6) (tIfS (tAnd (tTest (tOp (rIn K false) (tOp (rIxT K) (tFld K (tVar 6) "body") (tC (.int 0))) (tTup (tCons (tC (.str "say")) (tCons (tC (.str "reply")) tNil))))) (tTest (tOp rNe (tFld K (tVar 6) "author") (tFld K (tVar 0) "name")))) (tSeq (tDrop (tBM K "list" rAppend (tVar 4) (tCons (tProp C_Letter (spRefP K C_Letter) [] C8.E0 (tVar 6)) tNil)))
  (tIfS (tB (tCall (spLawCalls K) [] C8.E0 (tCons (tOp (rIxT K) (tFld K (tVar 6) "body") (tUn qNeg (tC (.int 1)))) (tCons (tFld K (tVar 0) "name") tNil)))) (tDrop (tBM K "list" rAppend (tVar 5) (tCons (tProp C_Letter (spRefP K C_Letter) [] C8.E0 (tVar 6)) tNil))) tNext)) tNext))
  (tSeq (tFor (iRng1 (tCons (tC (.int 2)) tNil)) (gName 7) (tSeq (tAsg (tMeth C_Inbox "unread" (spUnread K C_Letter C_Inbox) [] C8.E0 (tVar 0) (tCons (tVar 1) (tCons (tVar 2) tNil))) (gName 8))
  (tSeq (tAsg (tMeth C_Inbox "mentions" (spMentions K C_Letter C_Inbox) [] C8.E0 (tVar 0) (tCons (tVar 1) (tCons (tVar 2) tNil))) (gName 9))
  (tSeq (tIfS (tOr (tTest (tOp (rNeD K) (tVar 8) (tVar 4))) (tOr (tTest (tOp (rNeD K) (tVar 9) (tVar 5))) (tOr (tNot (tB (tCB (rIsi K) (tCons (tVar 8) (tCons (tC (.ty "list")) tNil))))) (tNot (tB (tCB (rIsi K) (tCons (tVar 9) (tCons (tC (.ty "list")) tNil)))))))) (tRet (tC (.bl false))) tNext)
  (tSeq (tDrop (tBM K "list" rAppend (tVar 8) (tCons (tC (.str "x")) tNil)))
  (tDrop (tBM K "list" rAppend (tVar 9) (tCons (tC (.str "x")) tNil))))))))
  (tRet (tCall (spIs K) [] C8.E0 (tCons (tMeth C_Inbox "read" (spRead K C_Inbox) [] C8.E0 (tVar 0) (tCons (tVar 1) tNil)) (tCons (tVar 3) tNil))))))))
theorem l__law_holds (h : spHolds K CL C vs H Q E) : vs.length = 4 := by obtain ⟨x, dx, d, r, l, nm, a, b, f, n, ls, c, rfl, _⟩ := h; rfl
theorem r__law_holds (LCL : IsC_Letter K CL) (LC : IsC_Inbox K C) (h : spHolds K CL C vs H Q E) : t__law_holds K CL C { nx := fun _ H' => Q .non H', rt := Q } (start ["inbox", "room", "letters", "count", "due", "calls", "letter", "turn", "told", "named"] vs) H := by
  obtain ⟨x, dx, d, r, l, nm, a, b, f, n, ls, c, rfl, hI, hnm, hr, hc0, hcf, hl, ok, okb, hll, q⟩ := h
  unfold t__law_holds
  refine w_seq (w_asg (w_lstV (w_nil ⟨sz (by simp), w_new fun D1 H1 f1 s1 e1 => w_name ?_⟩)))
  with_reducible refine w_seq ?_
  refine w_asg (w_lstV (w_nil ⟨sz (by simp), w_new fun D2 H2 f2 s2 e2 => w_name ?_⟩))
  with_reducible refine w_seq ?_
  have s12 := s1.trans s2
  refine w_for (w_iList (w_sl (w_var rfl (w_part (w_var rfl (w_exi (w_noPart (w_slLV (SqL.of (s12 _ _ hl)) fun p3 H3 f3 s3 e3 => ?_))))))))
  rw [cutV_fromI hc0, lsV_drop] at e3
  have s13 := s12.trans s3
  have e13 := s3 _ _ (s2 _ _ e1)
  have e23 := s3 _ _ e2
  have n12 : D1 ≠ D2 := ne_of_none e1 f2
  have n13 : p3 ≠ D1 := (ne_of_none (s2 _ _ e1) f3).symm
  have n23 : p3 ≠ D2 := (ne_of_none e2 f3).symm
  have z1 : H D1 = none := f1
  have z2 : H D2 = none := same_none s1 f2
  refine ⟨p3, rfl, ⟨_, SqL.of e3⟩, ?_⟩
  obtain ⟨M, hM⟩ : ∃ M, M = ls.drop c.toNat := ⟨_, rfl⟩
  rw [← hM] at e3
  have hMs : ∀ y ∈ M, y ∈ ls := fun y hy => List.mem_of_mem_drop (by rw [← hM]; exact hy)
  have hMl : M.length ≤ 100 := by rw [hM, List.length_drop]; omega
  refine for_it (walk_list (xs := lsV M)) (fun k σ G => (∃ u6, σ = [some (.ref x), some (.ref r), some (.ref l), some (.int c), some (.ref D1), some (.ref D2), u6, none, none, none]) ∧ (∀ b o, b ≠ D1 → b ≠ D2 → H3 b = some o → G b = some o) ∧
    (∃ ts, G D1 = some (.lst ts) ∧ ts.length ≤ k ∧ DnAll Any G ts (((M.take k).filter (newP nm)).map refP)) ∧ ∃ ts, G D2 = some (.lst ts) ∧ ts.length ≤ k ∧ DnAll Any G ts ((((M.take k).filter (newP nm)).filter (callP nm)).map refP))
    ⟨⟨_, rfl⟩, fun _ _ _ _ e => e, ⟨[], e13, Nat.le_refl _, .nil⟩, [], e23, Nat.le_refl _, .nil⟩ (fun k σ G _ e => SqL.of (e.2.1 _ _ n13 n23 e3)) ?_ ?_
  · rintro k v σ Gz G hk ⟨⟨u6, rfl⟩, kx, ⟨ts1, g1, l1, d1⟩, ts2, g2, l2, d2⟩ ⟨rfl, hx⟩
    rw [List.getElem?_map] at hx
    obtain ⟨o, ho, rfl⟩ := Option.map_eq_some_iff.mp hx
    rw [lsV_len] at hk
    have hom := List.mem_of_getElem? ho
    have hol := hMs o hom
    have sG : Same H G := fun b u e => kx _ _ (ne_of_none e z1) (ne_of_none e z2) (s13 _ _ e)
    have et : M.take (k + 1) = M.take k ++ [o] := by rw [List.take_add_one, ho]; rfl
    obtain ⟨dx', d', sv', bv', hox, _, _, _, hbv⟩ := id (ok o hol).1
    obtain ⟨ta, kk, xs, rfl, ht, hkk, hsay, hrep, hlen⟩ := body_at (okb o hol) (hbv.same sG)
    have skip : newP nm o = false → ∀ G', Same G G' → (∃ u6 : Option V, [some (V.ref x), some (.ref r), some (.ref l), some (.int c), some (.ref D1), some (.ref D2), some (.ref o.1), none, none, none] = [some (.ref x), some (.ref r), some (.ref l), some (.int c), some (.ref D1), some (.ref D2), u6, none, none, none]) ∧ (∀ b o, b ≠ D1 → b ≠ D2 → H3 b = some o → G' b = some o) ∧
        (∃ ts, G' D1 = some (.lst ts) ∧ ts.length ≤ k + 1 ∧ DnAll Any G' ts (((M.take (k + 1)).filter (newP nm)).map refP)) ∧ ∃ ts, G' D2 = some (.lst ts) ∧ ts.length ≤ k + 1 ∧ DnAll Any G' ts ((((M.take (k + 1)).filter (newP nm)).filter (callP nm)).map refP) := fun hp G' s => by
      have ef : (M.take (k + 1)).filter (newP nm) = (M.take k).filter (newP nm) := by
        rw [et, List.filter_append, List.filter_cons_of_neg (by simp [hp]), List.filter_nil, List.append_nil]
      rw [ef]
      exact ⟨⟨_, rfl⟩, fun b o n1 n2 e => s _ _ (kx b o n1 n2 e), ⟨ts1, s _ _ g1, by omega, d1.same s⟩, ts2, s _ _ g2, by omega, d2.same s⟩
    refine w_name (w_ifS (w_and (w_test (w_op (w_op (w_fldV rfl (sG _ _ hox) LCL.cl LCL.n_body lfs_body (w_c (w_ixT (SqT.of ht) (atI_nat (j := 0) rfl) (w_tupV (w_cons (w_c (w_cons (w_c (w_nil ⟨sz (by simp), w_new fun t2 G2 _ sg2 e2' => ?_⟩))))))))))))))
    have e3' : inV (.str kk) [.str (Str.ofString "say"), .str (Str.ofString "reply")] = talkB o.2.b := by
      have := inV_strs kk [Str.ofString "say", Str.ofString "reply"]
      unfold talkB
      rw [hkk]
      exact this
    refine w_inTb (SqT.of e2') rfl rfl e3' (w_exb ?_)
    cases htk : talkB o.2.b with
    | false => exact ite_f (by decide) (ite_f (by decide) (w_next (skip (by unfold newP; rw [htk]; rfl) G2 sg2)))
    | true =>
      refine ite_t rfl (w_test (w_op (w_fldV rfl (sg2 _ _ (sG _ _ hox)) LCL.cl LCL.n_author lfs_author (w_fldV rfl (sg2 _ _ (sG _ _ hI.hx)) LC.cl LC.n_name rfl (w_neS (w_exb ?_))))))
      refine w_ite (fun hna => ?_) (fun hna => w_next (skip (by unfold newP; rw [htk, decide_eq_false hna]; rfl) G2 sg2))
      have hp : newP nm o = true := by unfold newP; rw [htk, decide_eq_true hna]; rfl
      have hox2 := sg2 _ _ (sG _ _ hox)
      have aL2 := ((ok o hol).1.same sG).same sg2
      with_reducible refine w_seq ?_
      refine w_drop (w_bm (w_var rfl (w_tyL (sg2 _ _ g1) (w_cons (w_propV rfl hox2 ⟨o.1, o.2, rfl, aL2, fun t G3 _ s3' e3' => w_nil (w_appV (s3' _ _ (sg2 _ _ g1)) (by omega) fun G4 k4 e4 => ?_)⟩)))))
      have g1' := s3' _ _ (sg2 _ _ g1)
      have g2' := k4 _ _ n12.symm (s3' _ _ (sg2 _ _ g2))
      have tk4 : Tk G3 G4 := Tk.kpL k4 g1'
      have kx4 : ∀ b o, b ≠ D1 → b ≠ D2 → H3 b = some o → G4 b = some o := fun b o n1 n2 e => k4 _ _ n1 (s3' _ _ (sg2 _ _ (kx b o n1 n2 e)))
      have sG4 : Same H G4 := fun b u e => kx4 _ _ (ne_of_none e z1) (ne_of_none e z2) (s13 _ _ e)
      have ef : (M.take (k + 1)).filter (newP nm) = (M.take k).filter (newP nm) ++ [o] := by
        rw [et, List.filter_append, List.filter_cons_of_pos hp, List.filter_nil]
      have due : ∃ ts, G4 D1 = some (.lst ts) ∧ ts.length ≤ k + 1 ∧ DnAll Any G4 ts (((M.take (k + 1)).filter (newP nm)).map refP) := by
        refine ⟨_, e4, by rw [List.length_append, List.length_singleton]; omega, ?_⟩
        rw [ef, List.map_append]
        exact DnAll.app (dnall_tk tk4 (plain_refs _) ((d1.same sg2).same s3')) (.cons (.tup trivial (tk4 _ _ e3') (.cons (.str _) (.cons (.int _) .nil))) .nil)
      have d2' : DnAll Any G4 ts2 ((((M.take k).filter (newP nm)).filter (callP nm)).map refP) := dnall_tk tk4 (plain_refs _) ((d2.same sg2).same s3')
      with_reducible refine w_ifS ?_
      have hlast : atI (V.str kk :: xs) (-1) = some (.str (txtB o.2.b)) := by
        have hk2 : kk ∈ [Str.ofString "say", Str.ofString "reply"] := by
          unfold talkB at htk
          rw [hkk] at htk
          exact of_decide_eq_true htk
        simp only [List.mem_cons, List.not_mem_nil, or_false] at hk2
        rcases hk2 with hk2 | hk2
        · rw [hsay hk2]
          exact atI_last [V.str kk] _
        · obtain ⟨r', er'⟩ := hrep hk2
          rw [er']
          exact atI_last [V.str kk, r'] _
      refine w_B (w_call (w_cons (w_op (w_fldV rfl (sG4 _ _ hox) LCL.cl LCL.n_body lfs_body (w_un (w_c (w_U (w_ixT (SqT.of (tk4 _ _ (s3' _ _ (sg2 _ _ ht)))) hlast ?_))))))))
      refine w_cons (w_fldV rfl (sG4 _ _ hI.hx) LC.cl LC.n_name rfl (w_nil ⟨txtB o.2.b, nm, rfl, Nat.le_trans (hlen htk) (by decide), hnm, fun G5 s5 => w_exb ?_⟩))
      have hcp : callsS (txtB o.2.b) nm = callP nm o := rfl
      rw [hcp]
      cases hc : callP nm o with
      | true =>
        refine ite_t rfl ?_
        with_reducible refine w_drop ?_
        refine w_bm (w_var rfl (w_tyL (s5 _ _ g2') (w_cons (w_propV rfl (s5 _ _ (sG4 _ _ hox)) ⟨o.1, o.2, rfl, ((ok o hol).1.same sG4).same s5, fun t' G6 _ s6 e6 => w_nil (w_appV (s6 _ _ (s5 _ _ g2')) (by omega) fun G7 k7 e7 => ?_)⟩))))
        have tk7 : Tk G6 G7 := Tk.kpL k7 (s6 _ _ (s5 _ _ g2'))
        obtain ⟨tsd, gd, ld, dd⟩ := due
        refine ⟨⟨_, rfl⟩, fun b o n1 n2 e => k7 _ _ n2 (s6 _ _ (s5 _ _ (kx4 b o n1 n2 e))), ⟨tsd, k7 _ _ n12 (s6 _ _ (s5 _ _ gd)), ld, dnall_tk tk7 (plain_refs _) ((dd.same s5).same s6)⟩, _, e7, by rw [List.length_append, List.length_singleton]; omega, ?_⟩
        rw [ef, List.filter_append, List.filter_cons_of_pos hc, List.filter_nil, List.map_append]
        exact DnAll.app (dnall_tk tk7 (plain_refs _) ((d2'.same s5).same s6)) (.cons (.tup trivial (tk7 _ _ e6) (.cons (.str _) (.cons (.int _) .nil))) .nil)
      | false =>
        obtain ⟨tsd, gd, ld, dd⟩ := due
        refine ite_f (by decide) (w_next ⟨⟨_, rfl⟩, fun b o n1 n2 e => s5 _ _ (kx4 b o n1 n2 e), ⟨tsd, s5 _ _ gd, ld, dd.same s5⟩, ts2, s5 _ _ g2', by omega, ?_⟩)
        rw [ef, List.filter_append, List.filter_cons_of_neg (by simp [hc]), List.filter_nil, List.append_nil]
        exact d2'.same s5
  rintro σ G0 ⟨⟨u6, rfl⟩, kx, ⟨ts1, g1, l1, d1⟩, ts2, g2, l2, d2⟩
  rw [lsV_len, List.take_length] at d1 d2
  have sG0 : Same H G0 := fun b u e => kx _ _ (ne_of_none e z1) (ne_of_none e z2) (s13 _ _ e)
  have hun : unreadF nm (f (a, b)).toNat ls = M.filter (newP nm) := by
    unfold unreadF
    rw [← hcf, hM]
  have hf : 0 ≤ f (a, b) := by rw [← hcf]; exact hc0
  have hs1 : ∀ y ∈ M.filter (newP nm), y ∈ ls := fun y hy => hMs y (List.mem_filter.mp hy).1
  have hs2 : ∀ y ∈ (M.filter (newP nm)).filter (callP nm), y ∈ ls := fun y hy => hs1 y (List.mem_filter.mp hy).1
  have hlen1 : (M.filter (newP nm)).length ≤ 100 := Nat.le_trans (List.length_filter_le _ _) hMl
  have hlen2 : ((M.filter (newP nm)).filter (callP nm)).length ≤ 100 := Nat.le_trans (List.length_filter_le _ _) hlen1
  -- asked twice
  with_reducible refine w_seq ?_
  refine w_for (w_iRng1 (w_cons (w_c (w_nil ?_))))
  refine w_rng (by decide) (by decide) (fun i σ G => (∃ u7 u8 u9, σ = [some (.ref x), some (.ref r), some (.ref l), some (.int c), some (.ref D1), some (.ref D2), u6, u7, u8, u9]) ∧ Same G0 G) ⟨⟨_, _, _, rfl⟩, Same.refl _⟩ ?_ ?_
  · rintro i σ G hi ⟨⟨u7, u8, u9, rfl⟩, sG⟩
    have sA := sG0.trans sG
    refine w_name ?_
    with_reducible refine w_seq ?_
    refine w_asg (w_methV rfl (sA _ _ hI.hx) rfl (w_cons (w_var rfl (w_cons (w_var rfl (w_nil ⟨x, dx, d, r, l, nm, a, b, f, n, ls, rfl, hI.same sA, sA _ _ hr, hf, sA _ _ hl, ok.same sA, okb, hll, fun p5 ts5 G5 f5 s5 e5 d5 => w_name ?_⟩))))))
    have sA5 := sA.trans s5
    with_reducible refine w_seq ?_
    refine w_asg (w_methV rfl (sA5 _ _ hI.hx) rfl (w_cons (w_var rfl (w_cons (w_var rfl (w_nil ⟨x, dx, d, r, l, nm, a, b, f, n, ls, rfl, hI.same sA5, hnm, sA5 _ _ hr, hf, sA5 _ _ hl, ok.same sA5, okb, hll, fun p6 ts6 G6 f6 s6 e6 d6 => w_name ?_⟩))))))
    rw [hun] at d5 d6
    have s56 := s5.trans s6
    have g1' := s56 _ _ (sG _ _ g1)
    have g2' := s56 _ _ (sG _ _ g2)
    have d1' := (d1.same sG).same s56
    have d2' := (d2.same sG).same s56
    have e5' := s6 _ _ e5
    have d5' := d5.same s6
    with_reducible refine w_seq ?_
    refine w_ifS (w_or (w_test (w_op (w_var rfl (w_var rfl (w_neDs (ok := Any) (ok2 := Any) (d := .list ((M.filter (newP nm)).map refP)) (.lst trivial e5' d5') (.lst trivial g1' d1') (shaped_refs ok hs1) (w_exb (ite_f (by decide) ?_))))))))
    refine w_or (w_test (w_op (w_var rfl (w_var rfl (w_neDs (ok := Any) (ok2 := Any) (d := .list (((M.filter (newP nm)).filter (callP nm)).map refP)) (.lst trivial e6 d6) (.lst trivial g2' d2') (shaped_refs ok hs2) (w_exb (ite_f (by decide) ?_)))))))
    refine w_or (w_not (w_B (w_cb (w_cons (w_var rfl (w_cons (w_c (w_nil (w_isi (Dn.tyX (ok := Any) (.lst trivial e5' d5')) (kit_list _) (w_exb (w_nt ?_)))))))))))
    refine w_not (w_B (w_cb (w_cons (w_var rfl (w_cons (w_c (w_nil (w_isi (Dn.tyX (ok := Any) (.lst trivial e6 d6)) (kit_list _) (w_exb (w_nt (w_next ?_)))))))))))
    have l5 : ts5.length ≤ 100000 := by rw [d5.len, List.length_map]; omega
    have l6 : ts6.length ≤ 100000 := by rw [d6.len, List.length_map]; omega
    have n56 : p6 ≠ p5 := (ne_of_none e5 f6).symm
    with_reducible refine w_seq ?_
    refine w_drop (w_bm (w_var rfl (w_tyL e5' (w_cons (w_c (w_nil (w_appV e5' l5 fun G7 k7 e7 => ?_)))))))
    have e67 := k7 _ _ n56 e6
    with_reducible refine w_drop ?_
    refine w_bm (w_var rfl (w_tyL e67 (w_cons (w_c (w_nil (w_appV e67 l6 fun G8 k8 e8 => ⟨⟨_, _, _, rfl⟩, ?_⟩))))))
    exact Same.kp0 (Same.kp0 (sG.trans s56) k7 (same_none sG f5)) k8 (same_none (sG.trans s5) f6)
  · rintro σ G ⟨⟨u7, u8, u9, rfl⟩, sG⟩
    have sA := sG0.trans sG
    with_reducible refine w_ret ?_
    refine w_call (w_cons (w_methV rfl (sA _ _ hI.hx) rfl (w_cons (w_var rfl (w_nil ⟨x, dx, d, r, nm, a, b, f, n, rfl, hI.same sA, sA _ _ hr, w_cons (w_var rfl (w_nil ⟨f (a, b), c, rfl, ?_⟩))⟩)))))
    rw [decide_eq_true hcf.symm]
    exact q G sA
def nmB (z : Str) : Bool := !z.cps.toList.isEmpty && z.cps.toList.all alnum && decide (z.length ≤ 12) && ascii z
def NAMES10 : List Str := ["an", "ann", "anna", "ann2", "b", "b7", "hugohugohugo", "h0", "zora", "a"]
theorem names10 : ∀ z ∈ NAMES10, nmB z = true := List.all_eq_true.mp (by decide +kernel)
theorem nmOk_of {z : Str} (h : z ∈ NAMES10) : NmOk z ∧ ascii z = true := by
  have := names10 z h
  unfold nmB at this
  simp only [Bool.and_eq_true, Bool.not_eq_true', decide_eq_true_eq] at this
  exact ⟨⟨(fun e => by rw [e] at this; exact (nomatch this.1.1.1)), this.1.1.2, this.1.2⟩, this.2⟩
theorem names8_10 : ∀ z ∈ NAMES8, z ∈ NAMES10 := by decide +kernel
theorem zz_not : ∀ z ∈ NAMES8, z ≠ Str.ofString "zz" := by decide +kernel
def bodyF : PyData := .tuple [.str (Str.ofString "found"), .str (Str.ofString ""), .tuple [.str (Str.ofString "ann"), .str (Str.ofString "anna")]]
def ltF : Lt := ⟨Str.ofString "zora", 1, 1, [(Str.ofString "zora", 1)], bodyF⟩
theorem bodyF_ok : BodyOk bodyF := ⟨lay3 (k := 2) (lay_str (ascii_of _)) (lay_str (ascii_of _)) (lay2 (k := 1) (lay_str (ascii_of _)) (lay_str (ascii_of _))), rfl, ⟨_, _, rfl, .inr (.inr ⟨by decide, by decide⟩)⟩, ⟨.found _ _, rfl⟩⟩
theorem ltF_wf : Wf ltF := ⟨by decide, by decide +kernel, by decide, ascii_of _, fun p hp => by rw [List.mem_singleton.mp hp]; exact ascii_of _, bodyF_ok.lay, rfl⟩
theorem Ib.mono {x dx d : Addr} {nm : Str} {f : Str × Str → Int} {n m : Nat} (h : Ib C H x dx d nm f n) (l : n ≤ m) : Ib C H x dx d nm f m := by
  obtain ⟨E, e, l2, r⟩ := h.hd
  exact ⟨h.hx, E, e, Nat.le_trans l2 l, r⟩
/-- law: slots 0:script 1:cell 2:stream 3:people 4:letters 5:at 6:name 7:inbox 8:other 9:rooms 10:letter 11:kept 12:counts 13:size 14:turn 15:which 16:count 17:k 18:some -/
def t_law (K : PySem.W.Frag) (C_Letter : Addr) (C_Inbox : Addr) : TS := (tSeq (tAsg (tC (.int 0)) (gName 1))
  (tSeq (tIfS (tTest (tOp qGt (tCB (qLenSeq K) (tCons (tVar 0) tNil)) (tC (.int 0)))) (tAsg (tOp (rIxL K) (tVar 0) (tC (.int 0))) (gName 1)) tNext)
  (tSeq (tAsg (tCall (spStream K) [] C8.E0 (tCons (tVar 1) (tCons (tC (.int 0)) tNil))) (gName 2))
  (tSeq (tAsg (tCall (spPeople K) [] C8.E0 (tCons (tVar 2) (tCons (tC (.int 1)) tNil))) (gName 3))
  (tSeq (tAsg (tCall (spLetters K C_Letter) [] C8.E0 (tCons (tVar 0) (tCons (tVar 3) (tCons (tC (.int 1)) tNil)))) (gName 4))
  (tSeq (tAsg (tCall (spNext K) [] C8.E0 (tCons (tVar 2) (tCons (tOp qAdd (tCB (qLenSeq K) (tCons (tVar 4) tNil)) (tC (.int 1))) tNil))) (gName 5))
  (tSeq (tDrop (tBM K "list" Wp.qInsert (tVar 4) (tCons (tVar 5) (tCons (tMake C_Letter (spInit K C_Letter) [] C8.E0 (tCons (tC (.str "zora")) (tCons (tC (.int 1)) (tCons (tC (.int 1)) (tCons (tTup (tCons (tTup (tCons (tC (.str "zora")) (tCons (tC (.int 1)) tNil))) tNil)) (tCons (tTup (tCons (tC (.str "found")) (tCons (tC (.str "")) (tCons (tTup (tCons (tC (.str "ann")) (tCons (tC (.str "anna")) tNil))) tNil)))) tNil)))))) tNil))))
  (tSeq (tAsg (tOp (rIxL K) (tOp rCat (tVar 3) (tLst (tCons (tC (.str "zora")) (tCons (tC (.str "a")) tNil)))) (tCall (spNext K) [] C8.E0 (tCons (tVar 2) (tCons (tOp qAdd (tCB (qLenSeq K) (tCons (tVar 3) tNil)) (tC (.int 2))) tNil)))) (gName 6))
  (tSeq (tAsg (tMake C_Inbox (spIInit K C_Inbox) [] C8.E0 (tCons (tVar 6) tNil)) (gName 7))
  (tSeq (tAsg (tMake C_Inbox (spIInit K C_Inbox) [] C8.E0 (tCons (tVar 6) tNil)) (gName 8))
  (tSeq (tAsg (tLst (tCons (tTup (tCons (tOp (rIxL K) (tVar 3) (tC (.int 0))) (tCons (tC (.str "tea")) tNil))) (tCons (tOp (rIxT K) (tTup (tCons (tTup (tCons (tOp (rIxL K) (tVar 3) (tC (.int 0))) (tCons (tC (.str "mail")) tNil))) (tCons (tTup (tCons (tC (.str "zz")) (tCons (tC (.str "tea")) tNil))) tNil))) (tCall (spNext K) [] C8.E0 (tCons (tVar 2) (tCons (tC (.int 2)) tNil)))) tNil))) (gName 9))
  (tSeq (tAsg (tLc (iList K (tVar 4)) (gName 10) tYes (tMeth C_Letter "value" (spValue K C_Letter) [] C8.E0 (tVar 10) tNil) [10]) (gName 11))
  (tSeq (tAsg (tLst (tCons (tC (.int 0)) (tCons (tC (.int 0)) tNil))) (gName 12))
  (tSeq (tAsg (tCB (qLenSeq K) (tCons (tVar 4) tNil)) (gName 13))
  (tSeq (tFor (iRng1 (tCons (tC (.int 9)) tNil)) (gName 14) (tSeq (tAsg (tCall (spNext K) [] C8.E0 (tCons (tVar 2) (tCons (tC (.int 2)) tNil))) (gName 15))
  (tSeq (tAsg (tCall (spNext K) [] C8.E0 (tCons (tVar 2) (tCons (tOp qAdd (tVar 13) (tC (.int 3))) tNil))) (gName 16))
  (tSeq (tIfS (tTest (tOp rEq (tCall (spNext K) [] C8.E0 (tCons (tVar 2) (tCons (tC (.int 8)) tNil))) (tC (.int 0)))) (tAsg (tOp qSub (tOp qPow (tC (.int 10)) (tC (.int 18))) (tCall (spNext K) [] C8.E0 (tCons (tVar 2) (tCons (tC (.int 5)) tNil)))) (gName 16)) tNext)
  (tSeq (tIfS (tTest (tOp qGt (tCall (spNext K) [] C8.E0 (tCons (tVar 2) (tCons (tC (.int 3)) tNil))) (tC (.int 0)))) (tSeq (tIfS (tTest (tOp qNotN (tMeth C_Inbox "mark_read" (spMark K C_Inbox) [] C8.E0 (tVar 7) (tCons (tOp (rIxL K) (tVar 9) (tVar 15)) (tCons (tVar 16) tNil))) (tC .non))) (tRet (tC (.bl false))) tNext)
  (tAsg (tCB qMax2 (tCons (tOp (rIxL K) (tVar 12) (tVar 15)) (tCons (tVar 16) tNil))) (gSub (tVar 12) (tVar 15) rSetL))) tNext)
  (tFor (iRng1 (tCons (tC (.int 2)) tNil)) (gName 17) (tSeq (tAsg (tSl (rSlL K) (tVar 4) tNoPart (tPart (tCall (spNext K) [] C8.E0 (tCons (tVar 2) (tCons (tOp qAdd (tVar 13) (tC (.int 1))) tNil))))) (gName 18))
  (tSeq (tIfS (tTest (tOp rEq (tCall (spNext K) [] C8.E0 (tCons (tVar 2) (tCons (tC (.int 2)) tNil))) (tC (.int 0)))) (tAsg (tVar 4) (gName 18)) tNext)
  (tIfS (tNot (tB (tCall (spHolds K C_Letter C_Inbox) [] C8.E0 (tCons (tVar 7) (tCons (tOp (rIxL K) (tVar 9) (tVar 17)) (tCons (tVar 18) (tCons (tOp (rIxL K) (tVar 12) (tVar 17)) tNil))))))) (tRet (tC (.bl false))) tNext)))))))))
  (tSeq (tIfS (tOr (tTest (tOp rNe (tMeth C_Inbox "read" (spRead K C_Inbox) [] C8.E0 (tVar 8) (tCons (tOp (rIxL K) (tVar 9) (tC (.int 0))) tNil)) (tC (.int 0)))) (tOr (tTest (tOp rNe (tMeth C_Inbox "read" (spRead K C_Inbox) [] C8.E0 (tVar 8) (tCons (tOp (rIxL K) (tVar 9) (tC (.int 1))) tNil)) (tC (.int 0)))) (tTest (tOp rNe (tFld K (tVar 8) "name") (tVar 6))))) (tRet (tC (.bl false))) tNext)
  (tSeq (tIfS (tOr (tNot (tB (tCall (spHolds K C_Letter C_Inbox) [] C8.E0 (tCons (tVar 8) (tCons (tOp (rIxL K) (tVar 9) (tC (.int 0))) (tCons (tVar 4) (tCons (tC (.int 0)) tNil))))))) (tTest (tOp (rNeD K) (tLc (iList K (tVar 4)) (gName 10) tYes (tMeth C_Letter "value" (spValue K C_Letter) [] C8.E0 (tVar 10) tNil) [10]) (tVar 11)))) (tRet (tC (.bl false))) tNext)
  (tRet (tAndV (tOp rEq (tFld K (tVar 7) "name") (tVar 6)) (tOp rEq (tCB (qLenSeq K) (tCons (tVar 4) tNil)) (tVar 13)))))))))))))))))))))
theorem l_law (h : spLaw K vs H Q E) : vs.length = 1 := by obtain ⟨a, ns, rfl, _⟩ := h; rfl
theorem r_law (LCL : IsC_Letter K CL) (LC : IsC_Inbox K C) (h : spLaw K vs H Q E) : t_law K CL C { nx := fun _ H' => Q .non H', rt := Q } (start ["script", "cell", "stream", "people", "letters", "at", "name", "inbox", "other", "rooms", "letter", "kept", "counts", "size", "turn", "which", "count", "k", "some"] vs) H := by
  obtain ⟨a, ns, rfl, hS, hn, q⟩ := h
  unfold t_law
  refine w_seq (w_asg (w_c (w_name ?_)))
  with_reducible refine w_seq ?_
  refine w_ifCut (Mid := fun σ' G => ∃ z, σ' = [some (.ref a), some (.int z), none, none, none, none, none, none, none, none, none, none, none, none, none, none, none, none, none] ∧ G = H) ?_ ?_
  rotate_left
  · intro Rk hRk
    refine w_ifS (w_test (w_op (w_cb (w_cons (w_var rfl (w_nil (w_lenL hS (w_c (w_I0 (w_exb (w_ite (fun c => ?_) (fun c => w_next (hRk _ _ ⟨_, rfl, rfl⟩)))))))))))))
    rw [List.length_map] at c
    refine w_asg (w_op (w_var rfl (w_c (w_ixL (v := .int ns[0]) hS (atI_nat (j := 0) (by rw [List.getElem?_map, List.getElem?_eq_getElem (by omega)]; rfl)) (w_name (hRk _ _ ⟨_, rfl, rfl⟩))))))
  rintro σ' G ⟨z, rfl, rfl⟩
  with_reducible refine w_seq ?_
  refine w_asg (w_call (w_cons (w_var rfl (w_cons (w_c (w_nil ⟨_, _, rfl, fun p G1 p0 s1 st1 => w_name ?_⟩))))))
  with_reducible refine w_seq ?_
  refine w_asg (w_call (w_cons (w_var rfl (w_cons (w_c (w_nil ⟨p, 1, rfl, st1, by decide, by decide, fun pa ps G2 pa0 k2 st2 hpa hps h1 h8 => w_name ?_⟩))))))
  have sG2 : Same G G2 := Same.kp0 s1 k2 p0
  have hpe : PeopleAt G2 pa ps := ⟨hpa, by omega, by omega, fun x hx => by
    have := nmOk_of (names8_10 x (hps x hx))
    exact ⟨this.2, this.1.2.2⟩⟩
  with_reducible refine w_seq ?_
  refine w_asg (w_call (w_cons (w_var rfl (w_cons (w_var rfl (w_cons (w_c (w_nil ⟨a, ns, pa, ps, rfl, sG2.seq hS, hn, hpe, fun pl ls G3 pl0 s3 hpl hok hbd hl => w_name ?_⟩))))))))
  have st3 := st2.same s3
  have npl := stm_ne st3 hpl
  have hpa3 := s3 _ _ hpa
  have npa := stm_neS st3 hpa3
  -- a place
  with_reducible refine w_seq ?_
  refine w_asg (w_call (w_cons (w_var rfl (w_cons (w_op (w_cb (w_cons (w_var rfl (w_nil (w_lenL (SqL.of hpl) (w_c (w_I0 (w_nil ⟨p, _, rfl, st3, by rw [lsV_len]; omega, by rw [lsV_len]; omega, fun at_ G4 k4 st4 v0 v1 => w_name ?_⟩)))))))))))))
  rw [lsV_len] at v1
  have hpl4 := k4 _ _ npl hpl
  have hpa4 := k4 _ _ npa hpa3
  have ok4 := hok.fm (Fm.stm k4 st3)
  clear hpe sG2
  -- the founding letter
  with_reducible refine w_seq ?_
  refine w_drop (w_bm (w_var rfl (w_tyL hpl4 (w_cons (w_var rfl (w_cons (w_make (w_cons (w_c (w_cons (w_c (w_cons (w_c (w_cons (w_tupV (w_cons (w_tupV (w_cons (w_c (w_cons (w_c (w_nil ⟨sz (by simp), w_new fun t5 G5 _ s5 e5 => w_nil ⟨sz (by simp), w_new fun t6 G6 _ s6 e6 => ?_⟩⟩))))))))))))))))))))))
  refine w_cons (w_tupV (w_cons (w_c (w_cons (w_c (w_cons (w_tupV (w_cons (w_c (w_cons (w_c (w_nil ⟨sz (by simp), w_new fun t7 G7 _ s7 e7 => w_nil ⟨sz (by simp), w_new fun t8 G8 _ s8 e8 => w_nil fun x dx hx hdx ndx => ?_⟩⟩))))))))))))
  have dS : Dn Any G8 (.ref t6) (seenD ltF.ps) := .tup trivial (s8 _ _ (s7 _ _ e6)) (.cons (.tup trivial (s8 _ _ (s7 _ _ (s6 _ _ e5))) (.cons (.str _) (.cons (.int _) .nil))) .nil)
  have dB : Dn Any G8 (.ref t8) bodyF := .tup trivial e8 (.cons (.str _) (.cons (.str _) (.cons (.tup trivial (s8 _ _ e7) (.cons (.str _) (.cons (.str _) .nil))) .nil)))
  refine ⟨x, dx, Str.ofString "zora", 1, 1, ltF.ps, .ref t6, .ref t8, rfl, upd_same, dn_made2 dS hx hdx _, ltF_wf.nd, by decide, fun G9 dd hd k9 e9 ed => ⟨rfl, ?_⟩⟩
  have s9 : Same G8 G9 := same_made2 hx hdx k9
  have s49 := (((s5.trans s6).trans s7).trans s8).trans s9
  have aF : LtAt Any CL G9 x ltF := ⟨dx, dd, .ref t6, .ref t8, e9, trivial, ed, dS.same s9, dB.same s9⟩
  have hpl9 := s49 _ _ hpl4
  obtain ⟨n, rfl⟩ : ∃ n : Nat, at_ = n := ⟨at_.toNat, by omega⟩
  refine w_nil ⟨pl, lsV ls, (n : Int), .ref x, rfl, rfl, hpl9, by rw [lsV_len]; exact Nat.lt_of_le_of_lt hl (by decide), by omega, by omega, ?_⟩
  have kI : Kp pl G9 (upd G9 pl (.lst ((lsV ls).take (n : Int).toNat ++ [V.ref x] ++ (lsV ls).drop (n : Int).toNat))) := Kp.refl.updp
  have eI : upd G9 pl (.lst ((lsV ls).take (n : Int).toNat ++ [V.ref x] ++ (lsV ls).drop (n : Int).toNat)) pl = some (.lst (lsV (ls.take n ++ [(x, ltF)] ++ ls.drop n))) := by
    rw [upd_same, lsV_app, lsV_app, Int.toNat_natCast, lsV_take, lsV_drop]
    rfl
  generalize upd G9 pl (.lst ((lsV ls).take (n : Int).toNat ++ [V.ref x] ++ (lsV ls).drop (n : Int).toNat)) = G10 at kI eI
  have f10 := Fm.kpL (ok := Any) kI hpl9
  have ok10 : LsOk Any CL G10 (ls.take n ++ [(x, ltF)] ++ ls.drop n) := by
    refine LsOk.fm (fun y hy => ?_) f10
    rcases List.mem_append.mp hy with hy | hy
    · rcases List.mem_append.mp hy with hy | hy
      · exact (ok4.same s49) y (List.mem_of_mem_take hy)
      · rw [List.mem_singleton.mp hy]
        exact ⟨aF, ltF_wf⟩
    · exact (ok4.same s49) y (List.mem_of_mem_drop hy)
  have bd10 : LsB (ls.take n ++ [(x, ltF)] ++ ls.drop n) := fun y hy => by
    rcases List.mem_append.mp hy with hy | hy
    · rcases List.mem_append.mp hy with hy | hy
      · exact hbd y (List.mem_of_mem_take hy)
      · rw [List.mem_singleton.mp hy]
        exact bodyF_ok
    · exact hbd y (List.mem_of_mem_drop hy)
  have hl10 : (ls.take n ++ [(x, ltF)] ++ ls.drop n).length ≤ 61 := by
    rw [List.length_append, List.length_append, List.length_take, List.length_drop, List.length_singleton]
    omega
  generalize ls.take n ++ [(x, ltF)] ++ ls.drop n = LS at eI ok10 bd10 hl10
  have st10 : Stm G10 p := stm_kp (st4.same s49) kI npl.symm
  have npp : pa ≠ pl := fun e => by
    rw [e] at hpa3
    rw [hpl] at hpa3
    injection hpa3 with e2
    injection e2 with e2
    cases ps with
    | nil => simp at h1
    | cons y ps =>
      cases ls with
      | nil => exact nomatch e2
      | cons o ls =>
        have : V.ref o.1 = V.str y := (List.cons.inj e2).1
        exact nomatch this
  have hpa10 := kI _ _ npp (s49 _ _ hpa4)
  clear k4 st4 hpl4 hpa4 ok4 s5 s6 s7 s8 e5 e6 e7 e8 dS dB e9 ed aF hpl9 kI f10 hok hbd hpl hpa3
  -- a name
  with_reducible refine w_seq ?_
  refine w_asg (w_op (w_op (w_var rfl (w_lstV (w_cons (w_c (w_cons (w_c (w_nil ⟨sz (by simp), w_new fun t1 G11 _ s11 e11 => ?_⟩)))))))))
  refine w_catV (s11 _ _ hpa10) e11 (by rw [List.length_map]; simp; omega) fun t2 G12 _ s12 e12 => ?_
  have hpa12 := s12 _ _ (s11 _ _ hpa10)
  have st12 := (st10.same s11).same s12
  refine w_call (w_cons (w_var rfl (w_cons (w_op (w_cb (w_cons (w_var rfl (w_nil (w_lenL (SqL.of hpa12) (w_c (w_I0 (w_nil ⟨p, _, rfl, st12, by omega, by rw [List.length_map]; omega, fun v G13 k13 st13 w0 w1 => ?_⟩))))))))))))
  rw [List.length_map] at w1
  have e12' : G12 t2 = some (.lst ((ps ++ [Str.ofString "zora", Str.ofString "a"]).map V.str)) := by rw [e12, List.map_append]; rfl
  have hvl : v.toNat < (ps ++ [Str.ofString "zora", Str.ofString "a"]).length := by
    rw [List.length_append]
    show v.toNat < ps.length + 2
    omega
  have nt2 := stm_neS st12 e12'
  refine w_ixL (SqL.of (k13 _ _ nt2 e12')) (v := .str (ps ++ [Str.ofString "zora", Str.ofString "a"])[v.toNat]) (atI_of w0 (by rw [List.getElem?_map, List.getElem?_eq_getElem hvl]; rfl)) (w_name ?_)
  have hnm : (ps ++ [Str.ofString "zora", Str.ofString "a"])[v.toNat] ∈ NAMES10 := by
    rcases List.mem_append.mp (List.getElem_mem hvl) with h | h
    · exact names8_10 _ (hps _ h)
    · simp only [List.mem_cons, List.not_mem_nil, or_false] at h
      rcases h with h | h <;> rw [h] <;> decide +kernel
  generalize (ps ++ [Str.ofString "zora", Str.ofString "a"])[v.toNat] = nm at hnm
  have hnm := (nmOk_of hnm).1
  have s1012 := s11.trans s12
  have npl12 := stm_ne st12 (s1012 _ _ eI)
  have eI13 := k13 _ _ npl12 (s1012 _ _ eI)
  have ok13 := (ok10.same s1012).fm (Fm.stm k13 st12)
  have hpa13 := k13 _ _ (stm_neS st12 hpa12) hpa12
  clear e12 e12' e11 st10 eI ok10 hpa10 hpa12 st12 k13 s11 s12 s1012
  -- the inboxes
  with_reducible refine w_seq ?_
  refine w_asg (w_make (w_cons (w_var rfl (w_nil fun x1 dx1 hx1 hdx1 ndx1 => ⟨x1, dx1, nm, rfl, upd_same, fun G14 d1 hd1 k14 ib1 => ⟨rfl, w_name ?_⟩⟩))))
  have s14 : Same G13 G14 := same_made2 hx1 hdx1 k14
  with_reducible refine w_seq ?_
  refine w_asg (w_make (w_cons (w_var rfl (w_nil fun x2 dx2 hx2 hdx2 ndx2 => ⟨x2, dx2, nm, rfl, upd_same, fun G15 d2 hd2 k15 ib2 => ⟨rfl, w_name ?_⟩⟩))))
  have s15 : Same G14 G15 := same_made2 hx2 hdx2 k15
  have nd12 : d1 ≠ d2 := by
    obtain ⟨E1, e1, _⟩ := ib1.hd
    refine ne_of_none e1 (same_none (fun b o e => ?_) hd2)
    rw [upd_ne (ne_of_none e hx2), upd_ne (ne_of_none e hdx2)]
    exact e
  have ib1' := ib1.same s15
  have s35 := s14.trans s15
  have st15 := st13.same s35
  have hpa15 := s35 _ _ hpa13
  have hpl15 := s35 _ _ eI13
  have ok15 := ok13.same s35
  -- the rooms
  obtain ⟨P0, hP0⟩ : ∃ P0, ps[0]? = some P0 := ⟨_, List.getElem?_eq_getElem (by omega)⟩
  have hP0m : P0 ∈ NAMES8 := hps _ (List.mem_of_getElem? hP0)
  have eP0 : atI (ps.map V.str) 0 = some (.str P0) := atI_nat (j := 0) (by rw [List.getElem?_map, hP0]; rfl)
  with_reducible refine w_seq ?_
  refine w_asg (w_lstV (w_cons (w_tupV (w_cons (w_op (w_var rfl (w_c (w_ixL (SqL.of hpa15) eP0 (w_cons (w_c (w_nil ⟨sz (by simp), w_new fun r0 G16 _ s16 er0 => ?_⟩)))))))))))
  refine w_cons (w_op (w_tupV (w_cons (w_tupV (w_cons (w_op (w_var rfl (w_c (w_ixL (SqL.of (s16 _ _ hpa15)) eP0 (w_cons (w_c (w_nil ⟨sz (by simp), w_new fun ra G17 _ s17 era => ?_⟩))))))))))))
  refine w_cons (w_tupV (w_cons (w_c (w_cons (w_c (w_nil ⟨sz (by simp), w_new fun rb G18 _ s18 erb => w_nil ⟨sz (by simp), w_new fun T G19 _ s19 eT => ?_⟩⟩))))))
  have s59 := ((s16.trans s17).trans s18).trans s19
  refine w_call (w_cons (w_var rfl (w_cons (w_c (w_nil ⟨p, 2, rfl, st15.same s59, by decide, by decide, fun v G20 k20 st20 y0 y1 => ?_⟩)))))
  have f20 := Fm.stm (ok := Any) k20 (st15.same s59)
  have er0' := f20.1 _ _ (s19 _ _ (s18 _ _ (s17 _ _ er0)))
  obtain ⟨r1, A, Bb, hat, er1, hne⟩ : ∃ (r1 : Addr) (A Bb : Str), atI [V.ref ra, V.ref rb] v = some (.ref r1) ∧ G20 r1 = some (.tup [.str A, .str Bb]) ∧ (A, Bb) ≠ (P0, Str.ofString "tea") := by
    have : v = 0 ∨ v = 1 := by omega
    rcases this with e | e <;> rw [e]
    · exact ⟨ra, P0, _, atI_nat (j := 0) rfl, f20.1 _ _ (s19 _ _ (s18 _ _ era)), fun z => absurd (Prod.mk.inj z).2 (by decide)⟩
    · exact ⟨rb, _, _, atI_nat (j := 1) rfl, f20.1 _ _ (s19 _ _ erb), fun z => zz_not P0 hP0m (Prod.mk.inj z).1.symm⟩
  refine w_ixT (SqT.of (f20.1 _ _ eT)) hat (w_nil ⟨sz (by simp), w_new fun R G21 _ s21 eR => w_name ?_⟩)
  have npl20 := stm_ne (st15.same s59) (s59 _ _ hpl15)
  have hpl21 := s21 _ _ (k20 _ _ npl20 (s59 _ _ hpl15))
  have ok21 := ((ok15.same s59).fm f20).same s21
  have st21 := st20.same s21
  have ib121 : Ib C G21 x1 dx1 d1 nm (fun _ => 0) 0 := by
    obtain ⟨i1, i2, e, _⟩ := st15.same s59
    exact ((ib1'.same s59).kpL k20 e).same s21
  have ib221 : Ib C G21 x2 dx2 d2 nm (fun _ => 0) 0 := by
    obtain ⟨i1, i2, e, _⟩ := st15.same s59
    exact ((ib2.same s59).kpL k20 e).same s21
  have er021 := s21 _ _ er0'
  have er121 := s21 _ _ er1
  clear er0' er1 er0 era erb eT k20 f20 s59 s16 s17 s18 s19 hpl15 ok15 ib1' ib1 ib2 st15 st20 eI13 ok13 hpa13 hpa15 k14 k15 s14 s15 s35 hd1 hd2 npl20 npl12
  -- what is kept
  with_reducible refine w_seq ?_
  refine w_asg (w_lc (w_iList (w_var rfl ⟨pl, rfl, ⟨_, SqL.of hpl21⟩, lcVals hpl21 ok21 (by omega) (fun _ => rfl) (fun _ => rfl) fun KP ts G22 kp0 s22 eK dK => w_name ?_⟩)))
  with_reducible refine w_seq ?_
  refine w_asg (w_lstV (w_cons (w_c (w_cons (w_c (w_nil ⟨sz (by simp), w_new fun Cc G23 c0 s23 eC => w_name ?_⟩))))))
  have s13 := s22.trans s23
  have hpl := s13 _ _ hpl21
  have ok := ok21.same s13
  have st := st21.same s13
  have ib1 := ib121.same s13
  have ib2 := ib221.same s13
  have hR := s13 _ _ eR
  have hr0 := s13 _ _ er021
  have hr1 := s13 _ _ er121
  have hK := s23 _ _ eK
  have dK := dK.same s23
  have nCp : Cc ≠ p := (st21.same s22).ne c0
  have nCpl : Cc ≠ pl := (ne_of_none (s22 _ _ hpl21) c0).symm
  have nCR : Cc ≠ R := (ne_of_none (s22 _ _ eR) c0).symm
  have nCK : Cc ≠ KP := (ne_of_none eK c0).symm
  have npl := stm_ne st hpl
  have nRp : R ≠ p := by
    intro z
    obtain ⟨i1, i2, e, _⟩ := st
    rw [← z, hR] at e
    injection e with e
    injection e with e
    have : V.ref r0 = V.int i1 := (List.cons.inj e).1
    exact nomatch this
  have nKp : KP ≠ p := st21.ne kp0
  clear hpl21 ok21 st21 ib121 ib221 eR er021 er121 eK c0 s22 s23 s13 kp0
  with_reducible refine w_seq ?_
  refine w_asg (w_cb (w_cons (w_var rfl (w_nil (w_lenL (SqL.of hpl) (w_name ?_))))))
  rw [lsV_len]
  obtain ⟨i1, i2, hst, _⟩ := id st
  obtain ⟨E1, hE1, _⟩ := id ib1.hd
  have der : ∀ G : Hp, (∀ b o, b ≠ p → b ≠ Cc → b ≠ d1 → G23 b = some o → G b = some o) → G pl = some (.lst (lsV LS)) ∧ LsOk Any CL G LS ∧ G R = some (.lst [.ref r0, .ref r1]) ∧ G r0 = some (.tup [.str P0, .str (Str.ofString "tea")]) ∧ G r1 = some (.tup [.str A, .str Bb]) ∧ G KP = some (.lst ts) ∧ DnAll Any G ts (LS.map fun y => valD y.2) ∧ Ib C G x2 dx2 d2 nm (fun _ => 0) 0 := by
    intro G kx
    have fm : Fm Any G23 G := ⟨fun b xs e => kx b _ (ne_kind e hst fun z => by cases z) (ne_kind e eC fun z => by cases z) (ne_kind e hE1 fun z => by cases z) e,
      fun b C' dx fs e => kx b _ (ne_kind e hst fun z => by cases z) (ne_kind e eC fun z => by cases z) (ne_kind e hE1 fun z => by cases z) e,
      fun b kvs e _ => kx b _ (ne_kind e hst fun z => by cases z) (ne_kind e eC fun z => by cases z) (ne_kind e hE1 fun z => by cases z) e⟩
    obtain ⟨E2, hE2, l2, v2⟩ := ib2.hd
    exact ⟨kx _ _ npl nCpl.symm (ne_kind hpl hE1 fun z => by cases z) hpl, ok.fm fm, kx _ _ nRp nCR.symm (ne_kind hR hE1 fun z => by cases z) hR, fm.1 _ _ hr0, fm.1 _ _ hr1, kx _ _ nKp nCK.symm (ne_kind hK hE1 fun z => by cases z) hK,
      dnall_tk fm.1 (plainAll_of fun d hd => by
        obtain ⟨y, hy, rfl⟩ := List.mem_map.mp hd
        exact (ok y hy).2.plain) dK, fm.2.1 _ _ _ _ ib2.hx, E2, kx _ _ (ne_kind hE2 hst fun z => by cases z) (ne_kind hE2 eC fun z => by cases z) nd12.symm hE2, l2, v2⟩
  have nd1p : d1 ≠ p := ne_kind hE1 hst fun z => by cases z
  have nd1C : d1 ≠ Cc := ne_kind hE1 eC fun z => by cases z
  -- the turns
  with_reducible refine w_seq ?_
  refine w_for (w_iRng1 (w_cons (w_c (w_nil ?_))))
  refine w_rng (by decide) (by decide) (fun i σ G => (∃ u14 u15 u16 u17 u18, σ = [some (.ref a), some (.int z), some (.ref p), some (.ref pa), some (.ref pl), some (.int (n : Int)), some (.str nm), some (.ref x1), some (.ref x2), some (.ref R), none, some (.ref KP), some (.ref Cc), some (.int LS.length), u14, u15, u16, u17, u18]) ∧
    (∀ b o, b ≠ p → b ≠ Cc → b ≠ d1 → G23 b = some o → G b = some o) ∧ Stm G p ∧ ∃ f c0 c1, Ib C G x1 dx1 d1 nm f i ∧ G Cc = some (.lst [.int c0, .int c1]) ∧ 0 ≤ c0 ∧ 0 ≤ c1 ∧ f (P0, Str.ofString "tea") = c0 ∧ f (A, Bb) = c1)
    ⟨⟨_, _, _, _, _, rfl⟩, fun _ _ _ _ _ e => e, st, fun _ => 0, 0, 0, ib1, eC, Int.le_refl _, Int.le_refl _, rfl, rfl⟩ ?_ ?_
  · rintro i σ G hi ⟨⟨u14, u15, u16, u17, u18, rfl⟩, kx, st, f, c0, c1, ib, eCc, h0, h1', hf0, hf1⟩
    refine w_name ?_
    with_reducible refine w_seq ?_
    refine w_asg (w_call (w_cons (w_var rfl (w_cons (w_c (w_nil ⟨p, 2, rfl, st, by decide, by decide, fun w G5 k5 st5 w0 w1 => w_name ?_⟩))))))
    with_reducible refine w_seq ?_
    refine w_asg (w_call (w_cons (w_var rfl (w_cons (w_op (w_var rfl (w_c (w_I0 (w_nil ⟨p, _, rfl, st5, by omega, by omega, fun cnt G6 k6 st6 q0 q1 => w_name ?_⟩)))))))))
    have drw : ∀ {Ga Gb : Hp}, (∀ b o, b ≠ p → b ≠ Cc → b ≠ d1 → G23 b = some o → Ga b = some o) → Kp p Ga Gb → (∀ b o, b ≠ p → b ≠ Cc → b ≠ d1 → G23 b = some o → Gb b = some o) := fun k1 k2 b o e1 e2 e3 e => k2 _ _ e1 (k1 b o e1 e2 e3 e)
    have ibd : ∀ {Ga Gb : Hp} {f : Str × Str → Int} {n : Nat}, Ib C Ga x1 dx1 d1 nm f n → Stm Ga p → Kp p Ga Gb → Ib C Gb x1 dx1 d1 nm f n := fun ib s k => by
      obtain ⟨_, _, e, _⟩ := s
      exact ib.kpL k e
    have kx6 := drw (drw kx k5) k6
    have ib6 := ibd (ibd ib st k5) st5 k6
    have eC6 := k6 _ _ nCp (k5 _ _ nCp eCc)
    -- a great count
    with_reducible refine w_seq ?_
    refine w_ifCut (Mid := fun σ' G' => ∃ cnt : Int, 0 ≤ cnt ∧ σ' = [some (.ref a), some (.int z), some (.ref p), some (.ref pa), some (.ref pl), some (.int (n : Int)), some (.str nm), some (.ref x1), some (.ref x2), some (.ref R), none, some (.ref KP), some (.ref Cc), some (.int LS.length), some (.int (i : Int)), some (.int w), some (.int cnt), u17, u18] ∧
      (∀ b o, b ≠ p → b ≠ Cc → b ≠ d1 → G23 b = some o → G' b = some o) ∧ Stm G' p ∧ Ib C G' x1 dx1 d1 nm f i ∧ G' Cc = some (.lst [.int c0, .int c1])) ?_ ?_
    rotate_left
    · intro Rk hRk
      refine w_ifS (w_test (w_op (w_call (w_cons (w_var rfl (w_cons (w_c (w_nil ⟨p, 8, rfl, st6, by decide, by decide, fun v G7 k7 st7 _ _ => w_c (w_eqI (w_exb ?_))⟩))))))))
      refine w_ite (fun _ => ?_) (fun _ => w_next (hRk _ _ ⟨cnt, q0, rfl, drw kx6 k7, st7, ibd ib6 st6 k7, k7 _ _ nCp eC6⟩))
      walk_at "w"
      refine ⟨p, 5, rfl, st7, by decide, by decide, fun v2 G8 k8 st8 y0 y1 => ?_⟩
      walk_at "w"
      refine hRk _ _ ⟨_, ?_, rfl, drw (drw kx6 k7) k8, st8, ibd (ibd ib6 st6 k7) st7 k8, k8 _ _ nCp (k7 _ _ nCp eC6)⟩
      have : (10 : Int) ^ (18 : Int).toNat = 1000000000000000000 := by decide
      omega
    clear kx6 ib6 eC6 st6 k6 k5 st5 kx st ib eCc
    rintro σ' G7 ⟨cnt, hcnt, rfl, kx, st, ib, eCc⟩
    -- it is read, perhaps
    with_reducible refine w_seq ?_
    refine w_ifCut (Mid := fun σ' G' => σ' = [some (.ref a), some (.int z), some (.ref p), some (.ref pa), some (.ref pl), some (.int (n : Int)), some (.str nm), some (.ref x1), some (.ref x2), some (.ref R), none, some (.ref KP), some (.ref Cc), some (.int LS.length), some (.int (i : Int)), some (.int w), some (.int cnt), u17, u18] ∧
      (∀ b o, b ≠ p → b ≠ Cc → b ≠ d1 → G23 b = some o → G' b = some o) ∧ Stm G' p ∧ ∃ f c0 c1, Ib C G' x1 dx1 d1 nm f (i + 1) ∧ G' Cc = some (.lst [.int c0, .int c1]) ∧ 0 ≤ c0 ∧ 0 ≤ c1 ∧ f (P0, Str.ofString "tea") = c0 ∧ f (A, Bb) = c1) ?_ ?_
    rotate_left
    · intro Rk hRk
      refine w_ifS (w_test (w_op (w_call (w_cons (w_var rfl (w_cons (w_c (w_nil ⟨p, 3, rfl, st, by decide, by decide, fun v G8 k8 st8 _ _ => w_c (w_I0 (w_exb ?_))⟩))))))))
      have kx8 := drw kx k8
      have ib8 := ibd ib st k8
      have eC8 := k8 _ _ nCp eCc
      refine w_ite (fun _ => ?_) (fun _ => w_next (hRk _ _ ⟨rfl, kx8, st8, f, c0, c1, ib8.mono (Nat.le_succ i), eC8, h0, h1', hf0, hf1⟩))
      obtain ⟨_, _, hR8, hr08, hr18, _⟩ := der G8 kx8
      have mk : ∀ (rj : Addr) (A' B' : Str), atI [V.ref r0, V.ref r1] w = some (.ref rj) → G8 rj = some (.tup [.str A', .str B']) → ∀ (j : Nat) (cj : Int), w = j → ([V.int c0, V.int c1])[j]? = some (.int cj) →
          (∀ G', (∀ b o, b ≠ p → b ≠ Cc → b ≠ d1 → G23 b = some o → G' b = some o) → Stm G' p → Ib C G' x1 dx1 d1 nm (fun q => if q = (A', B') then (if f (A', B') > cnt then f (A', B') else cnt) else f q) (i + 1) → G' Cc = some (.lst (([V.int c0, V.int c1]).set j (.int (if cnt > cj then cnt else cj)))) → Rk [some (.ref a), some (.int z), some (.ref p), some (.ref pa), some (.ref pl), some (.int (n : Int)), some (.str nm), some (.ref x1), some (.ref x2), some (.ref R), none, some (.ref KP), some (.ref Cc), some (.int LS.length), some (.int (i : Int)), some (.int w), some (.int cnt), u17, u18] G') →
          (tSeq (tIfS (tTest (tOp qNotN (tMeth C "mark_read" (spMark K C) [] C8.E0 (tVar 7) (tCons (tOp (rIxL K) (tVar 9) (tVar 15)) (tCons (tVar 16) tNil))) (tC .non))) (tRet (tC (.bl false))) tNext) (tAsg (tCB qMax2 (tCons (tOp (rIxL K) (tVar 12) (tVar 15)) (tCons (tVar 16) tNil))) (gSub (tVar 12) (tVar 15) rSetL))) { nx := Rk, rt := Q, bk := fun _ _ => False, ct := fun _ _ => False } [some (.ref a), some (.int z), some (.ref p), some (.ref pa), some (.ref pl), some (.int (n : Int)), some (.str nm), some (.ref x1), some (.ref x2), some (.ref R), none, some (.ref KP), some (.ref Cc), some (.int LS.length), some (.int (i : Int)), some (.int w), some (.int cnt), u17, u18] G8 := by
        intro rj A' B' hat hrj j cj hw hcj rest
        refine w_seq (w_ifS (w_test (w_op (w_methV rfl ib8.hx rfl (w_cons (w_op (w_var rfl (w_var rfl (w_ixL (SqL.of hR8) hat (w_cons (w_var rfl (w_nil ⟨x1, dx1, d1, rj, nm, A', B', f, i, cnt, rfl, ib8, by omega, hrj, fun G9 k9 ib9 => w_c (w_notN (w_exb (ite_f (by decide) (w_next ?_))))⟩))))))))))))
        have eC9 := k9 _ _ nd1C.symm eC8
        with_reducible refine w_asg ?_
        refine w_cb (w_cons (w_op (w_var rfl (w_var rfl (w_ixL (SqL.of eC9) (by rw [hw]; exact atI_nat hcj) (w_cons (w_var rfl (w_nil (w_max2 (w_sub (w_var rfl (w_var rfl ?_))))))))))))
        have hj2 : j < 2 := by omega
        refine w_setL eC9 (by rw [hw]; exact ixN_at hj2) (rest _ (fun b o e1 e2 e3 e => ?_) ?_ ?_ upd_same)
        · rw [upd_ne e2]
          exact k9 _ _ e3 (kx8 b o e1 e2 e3 e)
        · exact stm_kp (stm_kp st8 k9 nd1p.symm) Kp.refl.updp nCp.symm
        · exact ib9.kpL Kp.refl.updp eC9
      have hw01 : w = 0 ∨ w = 1 := by omega
      rcases hw01 with hw | hw
      · refine mk r0 P0 (Str.ofString "tea") (by rw [hw]; exact atI_nat (j := 0) rfl) hr08 0 c0 hw rfl fun G' kx' st' ib' eC' => hRk _ _ ⟨rfl, kx', st', _, _, _, ib', eC', ?_, h1', ?_, ?_⟩
        · split <;> omega
        · rw [if_pos rfl, hf0]
          split <;> split <;> omega
        · rw [if_neg hne, hf1]
      · refine mk r1 A Bb (by rw [hw]; exact atI_nat (j := 1) rfl) hr18 1 c1 hw rfl fun G' kx' st' ib' eC' => hRk _ _ ⟨rfl, kx', st', _, _, _, ib', eC', h0, ?_, ?_, ?_⟩
        · split <;> omega
        · rw [if_neg (fun z => hne z.symm), hf0]
        · rw [if_pos rfl, hf1]
          split <;> split <;> omega
    clear kx st ib eCc h0 h1' hf0 hf1 f c0 c1
    rintro σ' G8 ⟨rfl, kx, st, f, c0, c1, ib, eCc, h0, h1', hf0, hf1⟩
    -- both rooms
    with_reducible refine w_for ?_
    refine w_iRng1 (w_cons (w_c (w_nil ?_)))
    refine w_rng (by decide) (by decide) (fun k σ G => (∃ u17 u18, σ = [some (.ref a), some (.int z), some (.ref p), some (.ref pa), some (.ref pl), some (.int (n : Int)), some (.str nm), some (.ref x1), some (.ref x2), some (.ref R), none, some (.ref KP), some (.ref Cc), some (.int LS.length), some (.int (i : Int)), some (.int w), some (.int cnt), u17, u18]) ∧
      (∀ b o, b ≠ p → b ≠ Cc → b ≠ d1 → G23 b = some o → G b = some o) ∧ Stm G p ∧ Ib C G x1 dx1 d1 nm f (i + 1) ∧ G Cc = some (.lst [.int c0, .int c1])) ⟨⟨_, _, rfl⟩, kx, st, ib, eCc⟩ ?_ ?_
    · clear kx st ib eCc
      rintro k σ G hk ⟨⟨u17', u18', rfl⟩, kx, st, ib, eCc⟩
      obtain ⟨hplG, _, _⟩ := der G kx
      refine w_name ?_
      with_reducible refine w_seq ?_
      refine w_asg (w_sl (w_var rfl (w_noPart (w_part (w_call (w_cons (w_var rfl (w_cons (w_op (w_var rfl (w_c (w_I0 (w_nil ⟨p, _, rfl, st, by omega, by omega, fun m G9 k9 st9 y0 y1 => w_exi ?_⟩)))))))))))))
      have kx9 := drw kx k9
      have hpl9 := (der G9 kx9).1
      obtain ⟨m', rfl⟩ : ∃ m' : Nat, m = m' := ⟨m.toNat, by omega⟩
      refine w_slLV (SqL.of hpl9) fun sl G10 _ s10 esl => w_name ?_
      rw [cutV_to (by rw [lsV_len]; omega), lsV_take] at esl
      have kx10 : ∀ b o, b ≠ p → b ≠ Cc → b ≠ d1 → G23 b = some o → G10 b = some o := fun b o e1 e2 e3 e => s10 _ _ (kx9 b o e1 e2 e3 e)
      have st10 := st9.same s10
      have ib10 := (ibd ib st k9).same s10
      have eC10 := s10 _ _ (k9 _ _ nCp eCc)
      with_reducible refine w_seq ?_
      refine w_ifCut (Mid := fun σ' G' => ∃ sl SS, σ' = [some (.ref a), some (.int z), some (.ref p), some (.ref pa), some (.ref pl), some (.int (n : Int)), some (.str nm), some (.ref x1), some (.ref x2), some (.ref R), none, some (.ref KP), some (.ref Cc), some (.int LS.length), some (.int (i : Int)), some (.int w), some (.int cnt), some (.int (k : Int)), some (.ref sl)] ∧
        G' sl = some (.lst (lsV SS)) ∧ (∀ y ∈ SS, y ∈ LS) ∧ SS.length ≤ 100 ∧ (∀ b o, b ≠ p → b ≠ Cc → b ≠ d1 → G23 b = some o → G' b = some o) ∧ Stm G' p ∧ Ib C G' x1 dx1 d1 nm f (i + 1) ∧ G' Cc = some (.lst [.int c0, .int c1])) ?_ ?_
      rotate_left
      · intro Rk hRk
        refine w_ifS (w_test (w_op (w_call (w_cons (w_var rfl (w_cons (w_c (w_nil ⟨p, 2, rfl, st10, by decide, by decide, fun v G11 k11 st11 _ _ => w_c (w_eqI (w_exb ?_))⟩))))))))
        have kx11 := drw kx10 k11
        have ib11 := ibd ib10 st10 k11
        have eC11 := k11 _ _ nCp eC10
        refine w_ite (fun _ => w_asg (w_var rfl (w_name (hRk _ _ ⟨pl, LS, rfl, (der G11 kx11).1, fun y hy => hy, by omega, kx11, st11, ib11, eC11⟩)))) (fun _ => w_next (hRk _ _ ⟨sl, _, rfl, k11 _ _ (stm_ne st10 esl) esl, fun y hy => List.mem_of_mem_take hy, ?_, kx11, st11, ib11, eC11⟩))
        rw [List.length_take]
        omega
      clear kx st ib eCc kx9 hpl9 kx10 st10 ib10 eC10 esl s10 k9 st9 hplG
      rintro σ' G11 ⟨sl, SS, rfl, esl, hSS, hSl, kx, st, ib, eCc⟩
      obtain ⟨_, okG, hRG, hr0G, hr1G, _⟩ := der G11 kx
      have hk01 : k = 0 ∨ k = 1 := by omega
      have call : ∀ (rj : Addr) (A' B' : Str) (cj : Int), atI [V.ref r0, V.ref r1] (k : Int) = some (.ref rj) → G11 rj = some (.tup [.str A', .str B']) → atI [V.int c0, V.int c1] (k : Int) = some (.int cj) → 0 ≤ cj → cj = f (A', B') →
          ∀ D : Ends, D.rt = Q → (∀ G', Same G11 G' → D.nx [some (.ref a), some (.int z), some (.ref p), some (.ref pa), some (.ref pl), some (.int (n : Int)), some (.str nm), some (.ref x1), some (.ref x2), some (.ref R), none, some (.ref KP), some (.ref Cc), some (.int LS.length), some (.int (i : Int)), some (.int w), some (.int cnt), some (.int (k : Int)), some (.ref sl)] G') →
          (tIfS (tNot (tB (tCall (spHolds K CL C) [] C8.E0 (tCons (tVar 7) (tCons (tOp (rIxL K) (tVar 9) (tVar 17)) (tCons (tVar 18) (tCons (tOp (rIxL K) (tVar 12) (tVar 17)) tNil))))))) (tRet (tC (.bl false))) tNext) D [some (.ref a), some (.int z), some (.ref p), some (.ref pa), some (.ref pl), some (.int (n : Int)), some (.str nm), some (.ref x1), some (.ref x2), some (.ref R), none, some (.ref KP), some (.ref Cc), some (.int LS.length), some (.int (i : Int)), some (.int w), some (.int cnt), some (.int (k : Int)), some (.ref sl)] G11 := by
        intro rj A' B' cj hat hrj hcj h0 hcf D _ nx
        refine w_ifS (w_not (w_B (w_call (w_cons (w_var rfl (w_cons (w_op (w_var rfl (w_var rfl (w_ixL (SqL.of hRG) hat (w_cons (w_var rfl (w_cons (w_op (w_var rfl (w_var rfl (w_ixL (SqL.of eCc) hcj (w_nil ?_))))))))))))))))))
        exact ⟨x1, dx1, d1, rj, sl, nm, A', B', f, i + 1, SS, cj, rfl, ib, hnm, hrj, h0, hcf, esl, okG.sub hSS, fun y hy => bd10 y (hSS y hy), hSl, fun G' s => w_exb (w_nt (w_next (nx G' s)))⟩
      have nxt : ∀ G', Same G11 G' → (∃ u17 u18, [some (V.ref a), some (.int z), some (.ref p), some (.ref pa), some (.ref pl), some (.int (n : Int)), some (.str nm), some (.ref x1), some (.ref x2), some (.ref R), none, some (.ref KP), some (.ref Cc), some (.int LS.length), some (.int (i : Int)), some (.int w), some (.int cnt), some (.int (k : Int)), some (.ref sl)] = [some (V.ref a), some (.int z), some (.ref p), some (.ref pa), some (.ref pl), some (.int (n : Int)), some (.str nm), some (.ref x1), some (.ref x2), some (.ref R), none, some (.ref KP), some (.ref Cc), some (.int LS.length), some (.int (i : Int)), some (.int w), some (.int cnt), u17, u18]) ∧
          (∀ b o, b ≠ p → b ≠ Cc → b ≠ d1 → G23 b = some o → G' b = some o) ∧ Stm G' p ∧ Ib C G' x1 dx1 d1 nm f (i + 1) ∧ G' Cc = some (.lst [.int c0, .int c1]) := fun G' s => ⟨⟨_, _, rfl⟩, fun b o e1 e2 e3 e => s _ _ (kx b o e1 e2 e3 e), st.same s, ib.same s, s _ _ eCc⟩
      rcases hk01 with hk0 | hk0 <;> subst hk0
      · exact call r0 P0 (Str.ofString "tea") c0 (atI_nat (j := 0) rfl) hr0G (atI_nat (j := 0) rfl) h0 hf0.symm _ rfl nxt
      · exact call r1 A Bb c1 (atI_nat (j := 1) rfl) hr1G (atI_nat (j := 1) rfl) h1' hf1.symm _ rfl nxt
    · rintro σ G ⟨⟨u17', u18', rfl⟩, kx, st, ib, eCc⟩
      exact ⟨⟨_, _, _, _, _, rfl⟩, kx, st, f, c0, c1, ib, eCc, h0, h1', hf0, hf1⟩
  · rintro σ G ⟨⟨u14, u15, u16, u17, u18, rfl⟩, kx, st, f, c0, c1, ib, eCc, _⟩
    obtain ⟨hplG, okG, hRG, hr0G, hr1G, hKG, dKG, ib2G⟩ := der G kx
    -- the other one
    with_reducible refine w_seq ?_
    refine w_ifS (w_or (w_test (w_op (w_methV rfl ib2G.hx rfl (w_cons (w_op (w_var rfl (w_c (w_ixL (SqL.of hRG) (atI_nat (j := 0) rfl) (w_nil ⟨x2, dx2, d2, r0, nm, P0, _, _, 0, rfl, ib2G, hr0G, w_c (w_neI (w_exb (ite_f (by decide) ?_)))⟩))))))))) )
    refine w_or (w_test (w_op (w_methV rfl ib2G.hx rfl (w_cons (w_op (w_var rfl (w_c (w_ixL (SqL.of hRG) (atI_nat (j := 1) rfl) (w_nil ⟨x2, dx2, d2, r1, nm, A, Bb, _, 0, rfl, ib2G, hr1G, w_c (w_neI (w_exb (ite_f (by decide) ?_)))⟩)))))))))
    refine w_test (w_op (w_fldV rfl ib2G.hx LC.cl LC.n_name rfl (w_var rfl (w_neS (w_exb (ite_f (by simp) (w_next ?_)))))))
    with_reducible refine w_seq ?_
    refine w_ifS (w_or (w_not (w_B (w_call (w_cons (w_var rfl (w_cons (w_op (w_var rfl (w_c (w_ixL (SqL.of hRG) (atI_nat (j := 0) rfl) (w_cons (w_var rfl (w_cons (w_c (w_nil ?_))))))))))))))))
    refine ⟨x2, dx2, d2, r0, pl, nm, P0, _, _, 0, LS, 0, rfl, ib2G, hnm, hr0G, Int.le_refl _, rfl, hplG, okG, bd10, by omega, fun G3 s3 => w_exb (w_nt ?_)⟩
    refine w_test (w_op (w_lc (w_iList (w_var rfl ⟨pl, rfl, ⟨_, SqL.of (s3 _ _ hplG)⟩, lcVals (s3 _ _ hplG) (okG.same s3) (by omega) (fun _ => rfl) (fun _ => rfl) fun D2 ts2 G4 _ s4 e4 d4 => ?_⟩))))
    refine w_var rfl (w_neDs (ok := Any) (ok2 := Any) (d := .list (LS.map fun y => valD y.2)) (.lst trivial e4 d4) (.lst trivial (s4 _ _ (s3 _ _ hKG)) ((dKG.same s3).same s4)) (lay_vals fun y hy => (okG y hy).2) (w_exb (ite_f (by decide) (w_next ?_))))
    have s34 := s3.trans s4
    with_reducible refine w_ret ?_
    refine w_andV (w_op (w_fldV rfl (s34 _ _ ib.hx) LC.cl LC.n_name rfl (w_var rfl (w_eqS (w_exb (ite_t (by simp) ?_))))))
    refine w_op (w_cb (w_cons (w_var rfl (w_nil (w_lenL (SqL.of (s34 _ _ hplG)) (w_var rfl (w_eqI ?_)))))))
    rw [lsV_len, decide_eq_true rfl]
    exact q _
end

section
variable {P : Program} {w : World} {K : PySem.W.Frag} {mg : Str → Option Value} {base : Heap} {C_Inbox : Addr} {C_Letter : Addr}
def topS (i : Nat) : Stmt := PySem.Challenge.pw_lettersonce_k56_unread_letters.main.body.getD i (.Pass ⟨0, 0, 0, 0⟩)
def inC (s : Stmt) (j : Nat) : Stmt := (C8.clsBody s).getD j (.Pass ⟨0, 0, 0, 0⟩)
abbrev s_text_of : Stmt := topS 4
theorem sc_text_of : FnScope ["body"] ["body"] (C8.fnScope s_text_of) := C8.fnScope_by (by decide +kernel)
theorem c_text_of {f : Addr} {fd : FuncData} (F : C8.Def K mg "text_of" s_text_of f fd) (b : Binds K fd ["body"] [])
   :
  C8.Cal P w K mg base 1 "text_of" (spTextOf K) [] :=
  C8.cal0 F b .nil sc_text_of (fun vs H Q E h => l_text_of h) (fun cdv A outer s H vs Q E hr h => ⟨t_text_of K,
  (pss_cons (ps_if (pt_cmpR op_eq (pe_ix ix_tup (pv 0) pe_int (fun _ _ => rfl)) pe_str (nomark _)) (pss_one (ps_ret (pe_ix ix_tup (pv 0) pe_int (fun _ _ => rfl)))) pss_nil)
  (pss_cons (ps_if (pt_cmpR op_in_seq (pe_ix ix_tup (pv 0) pe_int (fun _ _ => rfl)) (pe_tup (pa_cons pe_str (pa_cons pe_str pa_nil))) (by rfl)) (pss_one (ps_ret (pe_ix ix_tup (pv 0) pe_int (fun _ _ => rfl)))) pss_nil)
  (pss_one (ps_ret pe_non)))), r_text_of h⟩)
abbrev s_Inbox___init__ : Stmt := inC (topS 7) 0
theorem sc_Inbox___init__ : FnScope ["self", "name"] ["self", "name"] (C8.fnScope s_Inbox___init__) := C8.fnScope_by (by decide +kernel)
theorem c_Inbox___init__ {f : Addr} {fd : FuncData} (M : Mk K C_Inbox f) (hm : mg "Inbox" = some (.ref C_Inbox)) (F : C8.Fun K "__init__" "Inbox.__init__" s_Inbox___init__ f fd) (b : Binds K fd ["self", "name"] [])
  (LC_Inbox : IsC_Inbox K C_Inbox) :
  C8.Mak P w K mg base 1 "Inbox" C_Inbox (spIInit K C_Inbox) [] :=
  C8.mak0 M hm F b .nil sc_Inbox___init__ (fun vs H Q E h => l_Inbox___init__ h) (fun cdv A outer s H vs Q E hr h => ⟨t_Inbox___init__ K C_Inbox,
  (pss_cons (ps_fld (pv 0) (pv 1) rfl)
  (pss_one (ps_fld (pv 0) pe_dnewT rfl))), r_Inbox___init__ LC_Inbox h⟩)
abbrev s_Inbox_read : Stmt := inC (topS 7) 2
theorem sc_Inbox_read : FnScope ["self", "room"] ["self", "room"] (C8.fnScope s_Inbox_read) := C8.fnScope_by (by decide +kernel)
theorem c_Inbox_read {f : Addr} {fd : FuncData} (me : Meth K C_Inbox "read" f) (F : C8.Fun K "read" "Inbox.read" s_Inbox_read f fd) (b : Binds K fd ["self", "room"] [])
  (LC_Inbox : IsC_Inbox K C_Inbox) :
  C8.Met P w K mg base 1 C_Inbox "read" (spRead K C_Inbox) [] :=
  C8.met0 LC_Inbox.cl me F b sc_Inbox_read (fun vs H Q E h => l_Inbox_read h) (fun cdv A outer s H vs Q E hr h => ⟨t_Inbox_read K C_Inbox,
  (pss_one (ps_ret (pe_dget2 (Wp.hu1 hr) (pe_fld (pv 0) rfl) (pv 1) pe_int ⟨rfl, rfl, rfl, rfl⟩))), r_Inbox_read LC_Inbox h⟩)
abbrev s__front_signs : Stmt := topS 9
theorem sc__front_signs : FnScope ["text", "end"] ["text"] (C8.fnScope s__front_signs) := C8.fnScope_by (by decide +kernel)
theorem c__front_signs {f : Addr} {fd : FuncData} (F : C8.Def K mg "_front_signs" s__front_signs f fd) (b : Binds K fd ["text"] [])
  (n_len : mg "len" = none) (g_LETTERS : ∃ u, mg "LETTERS" = some u ∧ RelV v_LETTERS u) (g_DIGITS : ∃ u, mg "DIGITS" = some u ∧ RelV v_DIGITS u) :
  C8.Cal P w K mg base 1 "_front_signs" (spFront K) [] :=
  C8.cal0 F b .nil sc__front_signs (fun vs H Q E h => l__front_signs h) (fun cdv A outer s H vs Q E hr h => ⟨t__front_signs K,
  (pss_cons (ps_set (i := 1) sc__front_signs.nd rfl (Or.inl rfl) pe_int)
  (pss_cons (ps_while PassesOwn.never (PW.pt (pw_and (pt_cmpR op_lt (pv 1) (pe_callB call_len_str (by rfl) n_len (by decide +kernel) (pa_cons (pv 0) pa_nil)) (nomark _)) (pw_and1 (PW.pt (pw_or (pt_cmpR op_in_sign (pe_ix ix_str (pv 0) (pv 1) (fun _ _ => rfl)) (C8.pe_gc (by rfl) g_LETTERS) (by rfl)) (pw_or1 (pt_cmpR op_in_sign (pe_ix ix_str (pv 0) (pv 1) (fun _ _ => rfl)) (C8.pe_gc (by rfl) g_DIGITS) (by rfl)))))))) (pss_one (ps_aug (i := 1) sc__front_signs.nd rfl (Or.inl rfl) pe_int ip_add)))
  (pss_one (ps_ret (pe_slice sl_str (pv 0) po_none (po_some (pv 1))))))), r__front_signs h⟩)
abbrev s_Letter___init__ : Stmt := inC (topS 11) 0
theorem sc_Letter___init__ : FnScope ["self", "author", "number", "stamp", "seen", "body", "name", "count"] ["self", "author", "number", "stamp", "seen", "body"] (C8.fnScope s_Letter___init__) := C8.fnScope_by (by decide +kernel)
theorem c_Letter___init__ {f : Addr} {fd : FuncData} (M : Mk K C_Letter f) (hm : mg "Letter" = some (.ref C_Letter)) (F : C8.Fun K "__init__" "Letter.__init__" s_Letter___init__ f fd) (b : Binds K fd ["self", "author", "number", "stamp", "seen", "body"] [])
  (LC_Letter : IsC_Letter K C_Letter) :
  C8.Mak P w K mg base 1 "Letter" C_Letter (spInit K C_Letter) [] :=
  C8.mak0 M hm F b .nil sc_Letter___init__ (fun vs H Q E h => l_Letter___init__ h) (fun cdv A outer s H vs Q E hr h => ⟨t_Letter___init__ K C_Letter,
  (pss_cons (ps_fld (pv 0) (pv 1) rfl)
  (pss_cons (ps_fld (pv 0) (pv 2) rfl)
  (pss_cons (ps_fld (pv 0) (pv 3) rfl)
  (pss_cons (ps_fld (pv 0) (pv 4) rfl)
  (pss_cons (ps_fld (pv 0) (pv 5) rfl)
  (pss_one (ps_fld (pv 0) (pe_dc (own := [("name", 6), ("count", 7)]) (g := (gTup K 2 (gCons (gName 6) (gCons (gName 7) gNil)))) (tt := tYes) (by rfl) sc_Letter___init__.nd (pi_tup (pv 4)) (blkOk_by (own := [("name", 6), ("count", 7)]) (N := ["self", "author", "number", "stamp", "seen", "body", "name", "count"]) (sc := C8.fnScope s_Letter___init__) (by decide +kernel)) (fun _ _ _ _ _ => (pg_tup rfl (pgs_cons (pg_name (i := 6) sc_Letter___init__.nd rfl (Or.inl rfl)) (pgs_cons (pg_name (i := 7) sc_Letter___init__.nd rfl (Or.inl rfl)) pgs_nil)))) (fun _ _ _ _ _ => pts_nil) (fun _ _ _ _ _ => (pv 6)) (fun _ _ _ _ _ => (pv 7))) rfl))))))), r_Letter___init__ LC_Letter h⟩)
abbrev s_Letter_ref : Stmt := inC (topS 11) 1
theorem sc_Letter_ref : FnScope ["self"] ["self"] (C8.fnScope s_Letter_ref) := C8.fnScope_by (by decide +kernel)
theorem c_Letter_ref {f : Addr} {fd : FuncData} {p : Addr} (hp : PropOf K C_Letter "ref" p f) (F : C8.Fun K "ref" "Letter.ref" s_Letter_ref f fd) (b : Binds K fd ["self"] [])
  (LC_Letter : IsC_Letter K C_Letter) :
  Wp.Prp P w K mg base 1 C_Letter "ref" (spRefP K C_Letter) :=
  Wp.prp0 LC_Letter.cl hp F b sc_Letter_ref (fun vs H Q E h => l_Letter_ref h) (fun cdv A outer s H vs Q E hr h => ⟨t_Letter_ref K C_Letter,
  (pss_one (ps_ret (pe_tup (pa_cons (pe_fld (pv 0) rfl) (pa_cons (pe_fld (pv 0) rfl) pa_nil))))), r_Letter_ref LC_Letter h⟩)
abbrev s_Letter_value : Stmt := inC (topS 11) 5
theorem sc_Letter_value : FnScope ["self"] ["self"] (C8.fnScope s_Letter_value) := C8.fnScope_by (by decide +kernel)
theorem c_Letter_value {f : Addr} {fd : FuncData} (me : Meth K C_Letter "value" f) (F : C8.Fun K "value" "Letter.value" s_Letter_value f fd) (b : Binds K fd ["self"] [])
  (LC_Letter : IsC_Letter K C_Letter) :
  C8.Met P w K mg base 1 C_Letter "value" (spValue K C_Letter) [] :=
  C8.met0 LC_Letter.cl me F b sc_Letter_value (fun vs H Q E h => l_Letter_value h) (fun cdv A outer s H vs Q E hr h => ⟨t_Letter_value K C_Letter,
  (pss_one (ps_ret (pe_tup (pa_cons (pe_fld (pv 0) rfl) (pa_cons (pe_fld (pv 0) rfl) (pa_cons (pe_fld (pv 0) rfl) (pa_cons (pe_fld (pv 0) rfl) (pa_cons (pe_fld (pv 0) rfl) pa_nil)))))))), r_Letter_value LC_Letter h⟩)
abbrev s__law_stream : Stmt := topS 13
theorem sc__law_stream : FnScope ["cell", "k", "digits"] ["cell", "k"] (C8.fnScope s__law_stream) := C8.fnScope_by (by decide +kernel)
theorem c__law_stream {f : Addr} {fd : FuncData} (F : C8.Def K mg "_law_stream" s__law_stream f fd) (b : Binds K fd ["cell", "k"] [])
  (n_int : mg "int" = none) :
  C8.Cal P w K mg base 1 "_law_stream" (spStream K) [] :=
  C8.cal0 F b .nil sc__law_stream (fun vs H Q E h => l__law_stream h) (fun cdv A outer s H vs Q E hr h => ⟨t__law_stream K,
  (pss_cons (ps_set (i := 2) sc__law_stream.nd rfl (Or.inl rfl) pe_int)
  (pss_cons (ps_if (pt_cmpR op_ge (pv 0) (pe_op op_pow pe_int pe_int) (nomark _)) (pss_one (ps_set (i := 2) sc__law_stream.nd rfl (Or.inl rfl) (pv 0))) pss_nil)
  (pss_one (ps_ret (pe_lst (pa_cons (pv 2) (pa_cons (pe_op op_mod (pe_callTy call_int1 (by rfl) n_int (by decide +kernel) (pa_cons (pe_op op_add (pe_op op_add (pe_op op_mul (pv 0) pe_int) (pe_op op_mul (pv 1) pe_int)) pe_int) pa_nil)) pe_int) pa_nil))))))), r__law_stream h⟩)
abbrev s__law_next : Stmt := topS 14
theorem sc__law_next : FnScope ["stream", "size", "drawn"] ["stream", "size"] (C8.fnScope s__law_next) := C8.fnScope_by (by decide +kernel)
theorem c__law_next {f : Addr} {fd : FuncData} (F : C8.Def K mg "_law_next" s__law_next f fd) (b : Binds K fd ["stream", "size"] [])
  (n_int : mg "int" = none) :
  C8.Cal P w K mg base 1 "_law_next" (spNext K) [] :=
  C8.cal0 F b .nil sc__law_next (fun vs H Q E h => l__law_next h) (fun cdv A outer s H vs Q E hr h => ⟨t__law_next K,
  (pss_cons (ps_if (pt_cmpR op_gt (pe_ix ix_list (pv 0) pe_int (fun _ _ => rfl)) pe_int (nomark _)) (pss_cons (ps_set (i := 2) sc__law_next.nd rfl (Or.inl rfl) (pe_op op_mod (pe_callTy call_int1 (by rfl) n_int (by decide +kernel) (pa_cons (pe_ix ix_list (pv 0) pe_int (fun _ _ => rfl)) pa_nil)) (pv 1)))
  (pss_cons (ps_asg (pe_op op_fdiv (pe_ix ix_list (pv 0) pe_int (fun _ _ => rfl)) (pv 1)) (pg_sub (pv 0) pe_int set_list))
  (pss_one (ps_ret (pv 2))))) pss_nil)
  (pss_cons (ps_asg (pe_op op_mod (pe_callTy call_int1 (by rfl) n_int (by decide +kernel) (pa_cons (pe_op op_add (pe_op op_mul (pe_ix ix_list (pv 0) pe_int (fun _ _ => rfl)) pe_int) pe_int) pa_nil)) pe_int) (pg_sub (pv 0) pe_int set_list))
  (pss_one (ps_ret (pe_op op_mod (pe_callTy call_int1 (by rfl) n_int (by decide +kernel) (pa_cons (pe_op op_fdiv (pe_op op_mod (pe_callTy call_int1 (by rfl) n_int (by decide +kernel) (pa_cons (pe_op op_add (pe_op op_mul (pe_ix ix_list (pv 0) pe_int (fun _ _ => rfl)) pe_int) pe_int) pa_nil)) pe_int) pe_int) pa_nil)) (pv 1)))))), r__law_next h⟩)
abbrev s__law_is : Stmt := topS 15
theorem sc__law_is : FnScope ["actual", "due"] ["actual", "due"] (C8.fnScope s__law_is) := C8.fnScope_by (by decide +kernel)
theorem c__law_is {f : Addr} {fd : FuncData} (F : C8.Def K mg "_law_is" s__law_is f fd) (b : Binds K fd ["actual", "due"] [])
  (n_isinstance : mg "isinstance" = none) (n_int : mg "int" = none) (n_bool : mg "bool" = none) :
  C8.Cal P w K mg base 1 "_law_is" (spIs K) [] :=
  C8.cal0 F b .nil sc__law_is (fun vs H Q E h => l__law_is h) (fun cdv A outer s H vs Q E hr h => ⟨t__law_is K,
  (pss_one (ps_ret (pe_and (pe_callB call_isi (by rfl) n_isinstance (by decide +kernel) (pa_cons (pv 0) (pa_cons (pe_bltn (v := .ty "int") (by rfl) n_int PyProof.Rows.boot_int rfl) pa_nil))) (pe_and (pe_not (pe_callB call_isi (by rfl) n_isinstance (by decide +kernel) (pa_cons (pv 0) (pa_cons (pe_bltn (v := .ty "bool") (by rfl) n_bool PyProof.Rows.boot_bool rfl) pa_nil)))) (pe_one (pe_cmpR op_eq (pv 0) (pv 1) (nomark _))))))), r__law_is h⟩)
abbrev s__law_calls : Stmt := topS 23
theorem sc__law_calls : FnScope ["text", "name", "parts", "part"] ["text", "name"] (C8.fnScope s__law_calls) := C8.fnScope_by (by decide +kernel)
theorem c__law_calls {f : Addr} {fd : FuncData} (F : C8.Def K mg "_law_calls" s__law_calls f fd) (b : Binds K fd ["text", "name"] [])
   :
  C8.Cal P w K mg base 1 "_law_calls" (spLawCalls K) [] :=
  C8.cal0 F b .nil sc__law_calls (fun vs H Q E h => l__law_calls h) (fun cdv A outer s H vs Q E hr h => ⟨t__law_calls K,
  (pss_cons (ps_set (i := 2) sc__law_calls.nd rfl (Or.inl rfl) (pe_bm PySem.F.plainAttrs_str PySem.F.slot_str_split PySem.F.type_str_split mt_split (pv 0) (pa_cons (pe_op op_add_str pe_str (pv 1)) pa_nil)))
  (pss_cons (ps_for PassesOwn.never rfl (pi_list (pe_slice sl_list (pv 2) (po_some pe_int) po_none)) (pg_name (i := 3) sc__law_calls.nd rfl (Or.inl rfl)) (pss_one (ps_if (PW.pt (pw_or (pt_cmpR op_eq (pv 3) pe_str (nomark _)) (pw_or1 (pt_cmpR op_notIn_sign (pe_ix ix_str (pv 3) pe_int (fun _ _ => rfl)) pe_str (by rfl))))) (pss_one (ps_ret pe_bl)) pss_nil)))
  (pss_one (ps_ret pe_bl)))), r__law_calls h⟩)
abbrev s_Inbox_mark_read : Stmt := inC (topS 7) 1
theorem sc_Inbox_mark_read : FnScope ["self", "room", "count"] ["self", "room", "count"] (C8.fnScope s_Inbox_mark_read) := C8.fnScope_by (by decide +kernel)
theorem c_Inbox_mark_read {f : Addr} {fd : FuncData} (me : Meth K C_Inbox "mark_read" f) (F : C8.Fun K "mark_read" "Inbox.mark_read" s_Inbox_mark_read f fd) (b : Binds K fd ["self", "room", "count"] [])
  (LC_Inbox : IsC_Inbox K C_Inbox) (c_Inbox_read : C8.Met P w K mg base 1 C_Inbox "read" (spRead K C_Inbox) []) (n_max : mg "max" = none) :
  C8.Met P w K mg base 2 C_Inbox "mark_read" (spMark K C_Inbox) [] :=
  C8.met0 LC_Inbox.cl me F b sc_Inbox_mark_read (fun vs H Q E h => l_Inbox_mark_read h) (fun cdv A outer s H vs Q E hr h => ⟨t_Inbox_mark_read K C_Inbox,
  (pss_one (ps_dput (Wp.hu1 hr) (pe_fld (pv 0) rfl) (pv 1) (pe_callB (call_max2 rfl) (by rfl) n_max (by decide +kernel) (pa_cons (pv 2) (pa_cons (C8.pe_mt c_Inbox_read hr (by decide) (pv 0) (pa_cons (pv 1) pa_nil)) pa_nil))) rfl)), r_Inbox_mark_read LC_Inbox h⟩)
abbrev s_Inbox__unread_letters : Stmt := inC (topS 7) 5
theorem sc_Inbox__unread_letters : FnScope ["self", "room", "letters", "left", "letter"] ["self", "room", "letters"] (C8.fnScope s_Inbox__unread_letters) := C8.fnScope_by (by decide +kernel)
theorem c_Inbox__unread_letters {f : Addr} {fd : FuncData} (me : Meth K C_Inbox "_unread_letters" f) (F : C8.Fun K "_unread_letters" "Inbox._unread_letters" s_Inbox__unread_letters f fd) (b : Binds K fd ["self", "room", "letters"] [])
  (LC_Inbox : IsC_Inbox K C_Inbox) (LC_Letter : IsC_Letter K C_Letter) (c_Inbox_read : C8.Met P w K mg base 1 C_Inbox "read" (spRead K C_Inbox) []) :
  C8.Met P w K mg base 2 C_Inbox "_unread_letters" (spUnreadL K C_Letter C_Inbox) [] :=
  C8.met0 LC_Inbox.cl me F b sc_Inbox__unread_letters (fun vs H Q E h => l_Inbox__unread_letters h) (fun cdv A outer s H vs Q E hr h => ⟨t_Inbox__unread_letters K C_Inbox C_Letter,
  (pss_cons (ps_set (i := 3) sc_Inbox__unread_letters.nd rfl (Or.inl rfl) (pe_slice sl_list (pv 2) (po_some (C8.pe_mt c_Inbox_read hr (by decide) (pv 0) (pa_cons (pv 1) pa_nil))) po_none))
  (pss_one (ps_ret (pe_lc (own := [("letter", 4)]) (g := (gName 4)) (tt := (tAnd (tTest (tOp (rIn K false) (tOp (rIxT K) (tFld K (tVar 4) "body") (tC (.int 0))) (tTup (tCons (tC (.str "say")) (tCons (tC (.str "reply")) tNil))))) (tTest (tOp rNe (tFld K (tVar 4) "author") (tFld K (tVar 0) "name"))))) (by rfl) sc_Inbox__unread_letters.nd (pi_list (pv 3)) (blkOk_by (own := [("letter", 4)]) (N := ["self", "room", "letters", "left", "letter"]) (sc := C8.fnScope s_Inbox__unread_letters) (by decide +kernel)) (fun _ _ _ _ _ => (pg_name (i := 4) sc_Inbox__unread_letters.nd rfl (Or.inl rfl))) (fun _ _ _ _ _ => (pts_one (PW.pt (pw_and (pt_cmpR op_in_seq (pe_ix ix_tup (pe_fld (pv 4) rfl) pe_int (fun _ _ => rfl)) (pe_tup (pa_cons pe_str (pa_cons pe_str pa_nil))) (by rfl)) (pw_and1 (pt_cmpR op_ne (pe_fld (pv 4) rfl) (pe_fld (pv 0) rfl) (nomark _))))))) (fun _ _ _ _ _ => (pv 4)))))), r_Inbox__unread_letters LC_Inbox LC_Letter h⟩)
abbrev s__calls : Stmt := topS 8
theorem sc__calls : FnScope ["text", "name", "part"] ["text", "name"] (C8.fnScope s__calls) := C8.fnScope_by (by decide +kernel)
theorem c__calls {f : Addr} {fd : FuncData} (F : C8.Def K mg "_calls" s__calls f fd) (b : Binds K fd ["text", "name"] [])
  (c__front_signs : C8.Cal P w K mg base 1 "_front_signs" (spFront K) []) (n_any : mg "any" = none) (g_SIGN : ∃ u, mg "SIGN" = some u ∧ RelV v_SIGN u) :
  C8.Cal P w K mg base 2 "_calls" (spCalls K) [] :=
  C8.cal0 F b .nil sc__calls (fun vs H Q E h => l__calls h) (fun cdv A outer s H vs Q E hr h => ⟨t__calls K,
  (pss_one (ps_ret (pe_callB (cr_any rfl) (by rfl) n_any (by decide +kernel) (pa_cons (pe_lc (own := [("part", 2)]) (g := (gName 2)) (tt := tYes) (by rfl) sc__calls.nd (pi_list (pe_slice sl_list (pe_bm PySem.F.plainAttrs_str PySem.F.slot_str_split PySem.F.type_str_split mt_split (pv 0) (pa_cons (C8.pe_gc (by rfl) g_SIGN) pa_nil)) (po_some pe_int) po_none)) (blkOk_by (own := [("part", 2)]) (N := ["text", "name", "part"]) (sc := C8.fnScope s__calls) (by decide +kernel)) (fun _ _ _ _ _ => (pg_name (i := 2) sc__calls.nd rfl (Or.inl rfl))) (fun _ _ _ _ _ => pts_nil) (fun _ _ _ _ _ => (pe_cmpR op_eq (C8.pe_c c__front_signs hr (by decide) (by rfl) (pa_cons (pv 2) pa_nil)) (pv 1) (nomark _)))) pa_nil)))), r__calls h⟩)
abbrev s__law_people : Stmt := topS 17
theorem sc__law_people : FnScope ["stream", "least", "names", "start", "step", "many", "k"] ["stream", "least"] (C8.fnScope s__law_people) := C8.fnScope_by (by decide +kernel)
theorem c__law_people {f : Addr} {fd : FuncData} (F : C8.Def K mg "_law_people" s__law_people f fd) (b : Binds K fd ["stream", "least"] [])
  (c__law_next : C8.Cal P w K mg base 1 "_law_next" (spNext K) []) (n_range : mg "range" = none) :
  C8.Cal P w K mg base 2 "_law_people" (spPeople K) [] :=
  C8.cal0 F b .nil sc__law_people (fun vs H Q E h => l__law_people h) (fun cdv A outer s H vs Q E hr h => ⟨t__law_people K,
  (pss_cons (ps_set (i := 2) sc__law_people.nd rfl (Or.inr rfl) (pe_lst (pa_cons pe_str (pa_cons pe_str (pa_cons pe_str (pa_cons pe_str (pa_cons pe_str (pa_cons pe_str (pa_cons pe_str (pa_cons pe_str pa_nil))))))))))
  (pss_cons (ps_set (i := 3) sc__law_people.nd rfl (Or.inr rfl) (C8.pe_c c__law_next hr (by decide) (by rfl) (pa_cons (pv 0) (pa_cons pe_int pa_nil))))
  (pss_cons (ps_set (i := 4) sc__law_people.nd rfl (Or.inr rfl) (pe_op op_add pe_int (pe_op op_mul pe_int (C8.pe_c c__law_next hr (by decide) (by rfl) (pa_cons (pv 0) (pa_cons pe_int pa_nil))))))
  (pss_cons (ps_set (i := 5) sc__law_people.nd rfl (Or.inl rfl) (pe_op op_add (pv 1) (C8.pe_c c__law_next hr (by decide) (by rfl) (pa_cons (pv 0) (pa_cons (pe_op op_sub pe_int (pv 1)) pa_nil)))))
  (pss_cons (ps_if (pt_cmpR op_eq (C8.pe_c c__law_next hr (by decide) (by rfl) (pa_cons (pv 0) (pa_cons pe_int pa_nil))) pe_int (nomark _)) (pss_one (ps_set (i := 5) sc__law_people.nd rfl (Or.inl rfl) (pe_op op_add pe_int (C8.pe_c c__law_next hr (by decide) (by rfl) (pa_cons (pv 0) (pa_cons pe_int pa_nil)))))) pss_nil)
  (pss_one (ps_ret (pe_lc (own := [("k", 6)]) (g := (gName 6)) (tt := tYes) (by rfl) sc__law_people.nd (pi_range1 (by rfl) n_range (pa_cons (pv 5) pa_nil)) (blkOk_by (own := [("k", 6)]) (N := ["stream", "least", "names", "start", "step", "many", "k"]) (sc := C8.fnScope s__law_people) (by decide +kernel)) (fun _ _ _ _ _ => (pg_name (i := 6) sc__law_people.nd rfl (Or.inl rfl))) (fun _ _ _ _ _ => pts_nil) (fun _ _ _ _ _ => (pe_ix ix_list (pv 2) (pe_op op_mod (pe_op op_add (pv 3) (pe_op op_mul (pv 4) (pv 6))) pe_int) (fun _ _ => rfl))))))))))), r__law_people h⟩)
abbrev s__law_word : Stmt := topS 18
theorem sc__law_word : FnScope ["stream", "text", "signs", "k"] ["stream"] (C8.fnScope s__law_word) := C8.fnScope_by (by decide +kernel)
theorem c__law_word {f : Addr} {fd : FuncData} (F : C8.Def K mg "_law_word" s__law_word f fd) (b : Binds K fd ["stream"] [])
  (c__law_next : C8.Cal P w K mg base 1 "_law_next" (spNext K) []) (n_range : mg "range" = none) :
  C8.Cal P w K mg base 2 "_law_word" (spLWord K) [] :=
  C8.cal0 F b .nil sc__law_word (fun vs H Q E h => l__law_word h) (fun cdv A outer s H vs Q E hr h => ⟨t__law_word K,
  (pss_cons (ps_set (i := 1) sc__law_word.nd rfl (Or.inl rfl) pe_str)
  (pss_cons (ps_set (i := 2) sc__law_word.nd rfl (Or.inl rfl) pe_str)
  (pss_cons (ps_for PassesOwn.never rfl (pi_range1 (by rfl) n_range (pa_cons (pe_op op_add pe_int (C8.pe_c c__law_next hr (by decide) (by rfl) (pa_cons (pv 0) (pa_cons pe_int pa_nil)))) pa_nil)) (pg_name (i := 3) sc__law_word.nd rfl (Or.inl rfl)) (pss_one (ps_set (i := 1) sc__law_word.nd rfl (Or.inl rfl) (pe_op op_add_str (pv 1) (pe_ix ix_str (pv 2) (C8.pe_c c__law_next hr (by decide) (by rfl) (pa_cons (pv 0) (pa_cons pe_int pa_nil))) (fun _ _ => rfl))))))
  (pss_one (ps_ret (pv 1)))))), r__law_word h⟩)
abbrev s_Inbox_unread : Stmt := inC (topS 7) 3
theorem sc_Inbox_unread : FnScope ["self", "room", "letters", "letter"] ["self", "room", "letters"] (C8.fnScope s_Inbox_unread) := C8.fnScope_by (by decide +kernel)
theorem c_Inbox_unread {f : Addr} {fd : FuncData} (me : Meth K C_Inbox "unread" f) (F : C8.Fun K "unread" "Inbox.unread" s_Inbox_unread f fd) (b : Binds K fd ["self", "room", "letters"] [])
  (LC_Inbox : IsC_Inbox K C_Inbox) (LC_Letter : IsC_Letter K C_Letter) (c_Inbox__unread_letters : C8.Met P w K mg base 2 C_Inbox "_unread_letters" (spUnreadL K C_Letter C_Inbox) []) (c_Letter_ref : Wp.Prp P w K mg base 1 C_Letter "ref" (spRefP K C_Letter)) :
  C8.Met P w K mg base 3 C_Inbox "unread" (spUnread K C_Letter C_Inbox) [] :=
  C8.met0 LC_Inbox.cl me F b sc_Inbox_unread (fun vs H Q E h => l_Inbox_unread h) (fun cdv A outer s H vs Q E hr h => ⟨t_Inbox_unread K C_Inbox C_Letter,
  (pss_one (ps_ret (pe_lc (own := [("letter", 3)]) (g := (gName 3)) (tt := tYes) (by rfl) sc_Inbox_unread.nd (pi_list (C8.pe_mt c_Inbox__unread_letters hr (by decide) (pv 0) (pa_cons (pv 1) (pa_cons (pv 2) pa_nil)))) (blkOk_by (own := [("letter", 3)]) (N := ["self", "room", "letters", "letter"]) (sc := C8.fnScope s_Inbox_unread) (by decide +kernel)) (fun _ _ _ _ _ => (pg_name (i := 3) sc_Inbox_unread.nd rfl (Or.inl rfl))) (fun _ _ _ _ _ => pts_nil) (fun _ _ _ _ _ => (Wp.pe_pp c_Letter_ref hr (by decide) (pv 3) rfl))))), r_Inbox_unread LC_Inbox LC_Letter h⟩)
abbrev s_Inbox_mentions : Stmt := inC (topS 7) 4
theorem sc_Inbox_mentions : FnScope ["self", "room", "letters", "letter"] ["self", "room", "letters"] (C8.fnScope s_Inbox_mentions) := C8.fnScope_by (by decide +kernel)
theorem c_Inbox_mentions {f : Addr} {fd : FuncData} (me : Meth K C_Inbox "mentions" f) (F : C8.Fun K "mentions" "Inbox.mentions" s_Inbox_mentions f fd) (b : Binds K fd ["self", "room", "letters"] [])
  (LC_Inbox : IsC_Inbox K C_Inbox) (LC_Letter : IsC_Letter K C_Letter) (c_Inbox__unread_letters : C8.Met P w K mg base 2 C_Inbox "_unread_letters" (spUnreadL K C_Letter C_Inbox) []) (c__calls : C8.Cal P w K mg base 2 "_calls" (spCalls K) []) (c_text_of : C8.Cal P w K mg base 1 "text_of" (spTextOf K) []) (c_Letter_ref : Wp.Prp P w K mg base 1 C_Letter "ref" (spRefP K C_Letter)) :
  C8.Met P w K mg base 3 C_Inbox "mentions" (spMentions K C_Letter C_Inbox) [] :=
  C8.met0 LC_Inbox.cl me F b sc_Inbox_mentions (fun vs H Q E h => l_Inbox_mentions h) (fun cdv A outer s H vs Q E hr h => ⟨t_Inbox_mentions K C_Inbox C_Letter,
  (pss_one (ps_ret (pe_lc (own := [("letter", 3)]) (g := (gName 3)) (tt := (tB (tCall (spCalls K) [] C8.E0 (tCons (tCall (spTextOf K) [] C8.E0 (tCons (tFld K (tVar 3) "body") tNil)) (tCons (tFld K (tVar 0) "name") tNil))))) (by rfl) sc_Inbox_mentions.nd (pi_list (C8.pe_mt c_Inbox__unread_letters hr (by decide) (pv 0) (pa_cons (pv 1) (pa_cons (pv 2) pa_nil)))) (blkOk_by (own := [("letter", 3)]) (N := ["self", "room", "letters", "letter"]) (sc := C8.fnScope s_Inbox_mentions) (by decide +kernel)) (fun _ _ _ _ _ => (pg_name (i := 3) sc_Inbox_mentions.nd rfl (Or.inl rfl))) (fun _ _ _ _ _ => (pts_one (pt_val (C8.pe_c c__calls hr (by decide) (by rfl) (pa_cons (C8.pe_c c_text_of hr (by decide) (by rfl) (pa_cons (pe_fld (pv 3) rfl) pa_nil)) (pa_cons (pe_fld (pv 0) rfl) pa_nil)))))) (fun _ _ _ _ _ => (Wp.pe_pp c_Letter_ref hr (by decide) (pv 3) rfl))))), r_Inbox_mentions LC_Inbox LC_Letter h⟩)
abbrev s__law_text : Stmt := topS 19
theorem sc__law_text : FnScope ["people", "stream", "parts", "k", "kind"] ["people", "stream"] (C8.fnScope s__law_text) := C8.fnScope_by (by decide +kernel)
theorem c__law_text {f : Addr} {fd : FuncData} (F : C8.Def K mg "_law_text" s__law_text f fd) (b : Binds K fd ["people", "stream"] [])
  (c__law_next : C8.Cal P w K mg base 1 "_law_next" (spNext K) []) (c__law_word : C8.Cal P w K mg base 2 "_law_word" (spLWord K) []) (n_range : mg "range" = none) (n_len : mg "len" = none) :
  C8.Cal P w K mg base 3 "_law_text" (spLText K) [] :=
  C8.cal0 F b .nil sc__law_text (fun vs H Q E h => l__law_text h) (fun cdv A outer s H vs Q E hr h => ⟨t__law_text K,
  (pss_cons (ps_set (i := 2) sc__law_text.nd rfl (Or.inl rfl) (pe_lst pa_nil))
  (pss_cons (ps_for PassesOwn.never rfl (pi_range1 (by rfl) n_range (pa_cons (pe_op op_add pe_int (C8.pe_c c__law_next hr (by decide) (by rfl) (pa_cons (pv 1) (pa_cons pe_int pa_nil)))) pa_nil)) (pg_name (i := 3) sc__law_text.nd rfl (Or.inl rfl)) (pss_cons (ps_set (i := 4) sc__law_text.nd rfl (Or.inl rfl) (C8.pe_c c__law_next hr (by decide) (by rfl) (pa_cons (pv 1) (pa_cons pe_int pa_nil))))
  (pss_cons (ps_if (pt_cmpR op_eq (pv 4) pe_int (nomark _)) (pss_one (ps_expr (pe_bm PySem.F.plainAttrs_list PySem.F.slot_list_append PySem.F.type_list_append mt_append (pv 2) (pa_cons (pe_op op_add_str pe_str (pe_ix ix_list (pv 0) (C8.pe_c c__law_next hr (by decide) (by rfl) (pa_cons (pv 1) (pa_cons (pe_callB call_len_seq (by rfl) n_len (by decide +kernel) (pa_cons (pv 0) pa_nil)) pa_nil))) (fun _ _ => rfl))) pa_nil)))) (pss_one (ps_if (pt_cmpR op_eq (pv 4) pe_int (nomark _)) (pss_one (ps_expr (pe_bm PySem.F.plainAttrs_list PySem.F.slot_list_append PySem.F.type_list_append mt_append (pv 2) (pa_cons (pe_ix ix_tup (pe_tup (pa_cons pe_str (pa_cons pe_str (pa_cons pe_str (pa_cons pe_str (pa_cons pe_str (pa_cons pe_str pa_nil))))))) (C8.pe_c c__law_next hr (by decide) (by rfl) (pa_cons (pv 1) (pa_cons pe_int pa_nil))) (fun _ _ => rfl)) pa_nil)))) (pss_one (ps_expr (pe_bm PySem.F.plainAttrs_list PySem.F.slot_list_append PySem.F.type_list_append mt_append (pv 2) (pa_cons (C8.pe_c c__law_word hr (by decide) (by rfl) (pa_cons (pv 1) pa_nil)) pa_nil)))))))
  (pss_one (ps_expr (pe_bm PySem.F.plainAttrs_list PySem.F.slot_list_append PySem.F.type_list_append mt_append (pv 2) (pa_cons (pe_ix ix_tup (pe_tup (pa_cons pe_str (pa_cons pe_str (pa_cons pe_str (pa_cons pe_str (pa_cons pe_str (pa_cons pe_str (pa_cons pe_str (pa_cons pe_str (pa_cons pe_str (pa_cons pe_str (pa_cons pe_str pa_nil)))))))))))) (C8.pe_c c__law_next hr (by decide) (by rfl) (pa_cons (pv 1) (pa_cons pe_int pa_nil))) (fun _ _ => rfl)) pa_nil)))))))
  (pss_one (ps_ret (pe_slice sl_str (pe_op op_mulS (pe_bm PySem.F.plainAttrs_str PySem.F.slot_str_join PySem.F.type_str_join mt_join pe_str (pa_cons (pv 2) pa_nil)) (pe_ix ix_tup (pe_tup (pa_cons pe_int (pa_cons pe_int (pa_cons pe_int (pa_cons pe_int (pa_cons pe_int (pa_cons pe_int (pa_cons pe_int (pa_cons pe_int pa_nil))))))))) (C8.pe_c c__law_next hr (by decide) (by rfl) (pa_cons (pv 1) (pa_cons pe_int pa_nil))) (fun _ _ => rfl))) po_none (po_some pe_int)))))), r__law_text h⟩)
abbrev s__law_ref : Stmt := topS 20
theorem sc__law_ref : FnScope ["letters", "people", "stream"] ["letters", "people", "stream"] (C8.fnScope s__law_ref) := C8.fnScope_by (by decide +kernel)
theorem c__law_ref {f : Addr} {fd : FuncData} (F : C8.Def K mg "_law_ref" s__law_ref f fd) (b : Binds K fd ["letters", "people", "stream"] [])
  (LC_Letter : IsC_Letter K C_Letter) (c__law_next : C8.Cal P w K mg base 1 "_law_next" (spNext K) []) (c_Letter_ref : Wp.Prp P w K mg base 1 C_Letter "ref" (spRefP K C_Letter)) (n_len : mg "len" = none) :
  C8.Cal P w K mg base 3 "_law_ref" (spLRef K C_Letter) [] :=
  C8.cal0 F b .nil sc__law_ref (fun vs H Q E h => l__law_ref h) (fun cdv A outer s H vs Q E hr h => ⟨t__law_ref K C_Letter,
  (pss_cons (ps_if (PW.pt (pw_and (pt_cmpR op_gt (pe_callB call_len_seq (by rfl) n_len (by decide +kernel) (pa_cons (pv 0) pa_nil)) pe_int (nomark _)) (pw_and1 (pt_cmpR op_gt (C8.pe_c c__law_next hr (by decide) (by rfl) (pa_cons (pv 2) (pa_cons pe_int pa_nil))) pe_int (nomark _))))) (pss_one (ps_ret (Wp.pe_pp c_Letter_ref hr (by decide) (pe_ix ix_list (pv 0) (C8.pe_c c__law_next hr (by decide) (by rfl) (pa_cons (pv 2) (pa_cons (pe_callB call_len_seq (by rfl) n_len (by decide +kernel) (pa_cons (pv 0) pa_nil)) pa_nil))) (fun _ _ => rfl)) rfl))) pss_nil)
  (pss_one (ps_ret (pe_tup (pa_cons (pe_ix ix_list (pv 1) (C8.pe_c c__law_next hr (by decide) (by rfl) (pa_cons (pv 2) (pa_cons (pe_callB call_len_seq (by rfl) n_len (by decide +kernel) (pa_cons (pv 1) pa_nil)) pa_nil))) (fun _ _ => rfl)) (pa_cons (pe_op op_add pe_int (C8.pe_c c__law_next hr (by decide) (by rfl) (pa_cons (pv 2) (pa_cons pe_int pa_nil)))) pa_nil)))))), r__law_ref LC_Letter h⟩)
abbrev s__law_body : Stmt := topS 21
theorem sc__law_body : FnScope ["letters", "people", "stream", "kind", "ref", "name", "act"] ["letters", "people", "stream"] (C8.fnScope s__law_body) := C8.fnScope_by (by decide +kernel)
theorem c__law_body {f : Addr} {fd : FuncData} (F : C8.Def K mg "_law_body" s__law_body f fd) (b : Binds K fd ["letters", "people", "stream"] [])
  (LC_Letter : IsC_Letter K C_Letter) (c__law_next : C8.Cal P w K mg base 1 "_law_next" (spNext K) []) (c__law_ref : C8.Cal P w K mg base 3 "_law_ref" (spLRef K C_Letter) []) (c__law_text : C8.Cal P w K mg base 3 "_law_text" (spLText K) []) (c__law_word : C8.Cal P w K mg base 2 "_law_word" (spLWord K) []) (n_len : mg "len" = none) :
  C8.Cal P w K mg base 4 "_law_body" (spLBody K C_Letter) [] :=
  C8.cal0 F b .nil sc__law_body (fun vs H Q E h => l__law_body h) (fun cdv A outer s H vs Q E hr h => ⟨t__law_body K C_Letter,
  (pss_cons (ps_set (i := 3) sc__law_body.nd rfl (Or.inl rfl) (C8.pe_c c__law_next hr (by decide) (by rfl) (pa_cons (pv 2) (pa_cons pe_int pa_nil))))
  (pss_cons (ps_set (i := 4) sc__law_body.nd rfl (Or.inl rfl) (C8.pe_c c__law_ref hr (by decide) (by rfl) (pa_cons (pv 0) (pa_cons (pv 1) (pa_cons (pv 2) pa_nil)))))
  (pss_cons (ps_if (pt_cmpR op_lt (pv 3) pe_int (nomark _)) (pss_one (ps_ret (pe_tup (pa_cons pe_str (pa_cons (C8.pe_c c__law_text hr (by decide) (by rfl) (pa_cons (pv 1) (pa_cons (pv 2) pa_nil))) pa_nil))))) pss_nil)
  (pss_cons (ps_if (pt_cmpR op_lt (pv 3) pe_int (nomark _)) (pss_one (ps_ret (pe_tup (pa_cons pe_str (pa_cons (pv 4) (pa_cons (C8.pe_c c__law_text hr (by decide) (by rfl) (pa_cons (pv 1) (pa_cons (pv 2) pa_nil))) pa_nil)))))) pss_nil)
  (pss_cons (ps_if (pt_cmpR op_lt (pv 3) pe_int (nomark _)) (pss_one (ps_ret (pe_tup (pa_cons pe_str (pa_cons (pv 4) (pa_cons (C8.pe_c c__law_text hr (by decide) (by rfl) (pa_cons (pv 1) (pa_cons (pv 2) pa_nil))) pa_nil)))))) pss_nil)
  (pss_cons (ps_if (pt_cmpR op_lt (pv 3) pe_int (nomark _)) (pss_one (ps_ret (pe_tup (pa_cons pe_str (pa_cons (pv 4) (pa_cons (pe_ix ix_tup (pe_tup (pa_cons pe_str (pa_cons pe_str (pa_cons pe_str (pa_cons pe_str pa_nil))))) (C8.pe_c c__law_next hr (by decide) (by rfl) (pa_cons (pv 2) (pa_cons pe_int pa_nil))) (fun _ _ => rfl)) pa_nil)))))) pss_nil)
  (pss_cons (ps_set (i := 5) sc__law_body.nd rfl (Or.inl rfl) (pe_ix ix_list (pv 1) (C8.pe_c c__law_next hr (by decide) (by rfl) (pa_cons (pv 2) (pa_cons (pe_callB call_len_seq (by rfl) n_len (by decide +kernel) (pa_cons (pv 1) pa_nil)) pa_nil))) (fun _ _ => rfl)))
  (pss_cons (ps_set (i := 6) sc__law_body.nd rfl (Or.inl rfl) (pe_tup (pa_cons (pe_ix ix_tup (pe_tup (pa_cons pe_str (pa_cons pe_str pa_nil))) (C8.pe_c c__law_next hr (by decide) (by rfl) (pa_cons (pv 2) (pa_cons pe_int pa_nil))) (fun _ _ => rfl)) (pa_cons (pv 5) pa_nil))))
  (pss_one (ps_ret (pe_ix ix_tup (pe_tup (pa_cons (pe_tup (pa_cons pe_str (pa_cons (pv 4) pa_nil))) (pa_cons (pe_tup (pa_cons pe_str (pa_cons (pe_op op_mulS (C8.pe_c c__law_word hr (by decide) (by rfl) (pa_cons (pv 2) pa_nil)) (C8.pe_c c__law_next hr (by decide) (by rfl) (pa_cons (pv 2) (pa_cons pe_int pa_nil)))) pa_nil))) (pa_cons (pe_tup (pa_cons pe_str (pa_cons (pv 5) pa_nil))) (pa_cons (pv 6) (pa_cons (pe_tup (pa_cons pe_str pa_nil)) pa_nil)))))) (pe_op op_sub (pv 3) pe_int) (fun _ _ => rfl)))))))))))), r__law_body LC_Letter h⟩)
abbrev s__law_holds : Stmt := topS 24
theorem sc__law_holds : FnScope ["inbox", "room", "letters", "count", "due", "calls", "letter", "turn", "told", "named"] ["inbox", "room", "letters", "count"] (C8.fnScope s__law_holds) := C8.fnScope_by (by decide +kernel)
theorem c__law_holds {f : Addr} {fd : FuncData} (F : C8.Def K mg "_law_holds" s__law_holds f fd) (b : Binds K fd ["inbox", "room", "letters", "count"] [])
  (LC_Letter : IsC_Letter K C_Letter) (LC_Inbox : IsC_Inbox K C_Inbox) (c_Letter_ref : Wp.Prp P w K mg base 1 C_Letter "ref" (spRefP K C_Letter)) (c__law_calls : C8.Cal P w K mg base 1 "_law_calls" (spLawCalls K) []) (c_Inbox_unread : C8.Met P w K mg base 3 C_Inbox "unread" (spUnread K C_Letter C_Inbox) []) (c_Inbox_mentions : C8.Met P w K mg base 3 C_Inbox "mentions" (spMentions K C_Letter C_Inbox) []) (c__law_is : C8.Cal P w K mg base 1 "_law_is" (spIs K) []) (c_Inbox_read : C8.Met P w K mg base 1 C_Inbox "read" (spRead K C_Inbox) []) (n_range : mg "range" = none) (n_isinstance : mg "isinstance" = none) (n_list : mg "list" = none) :
  C8.Cal P w K mg base 4 "_law_holds" (spHolds K C_Letter C_Inbox) [] :=
  C8.cal0 F b .nil sc__law_holds (fun vs H Q E h => l__law_holds h) (fun cdv A outer s H vs Q E hr h => ⟨t__law_holds K C_Letter C_Inbox,
  (pss_cons (ps_set (i := 4) sc__law_holds.nd rfl (Or.inl rfl) (pe_lst pa_nil))
  (pss_cons (ps_set (i := 5) sc__law_holds.nd rfl (Or.inl rfl) (pe_lst pa_nil))
  (pss_cons (ps_for PassesOwn.never rfl (pi_list (pe_slice sl_list (pv 2) (po_some (pv 3)) po_none)) (pg_name (i := 6) sc__law_holds.nd rfl (Or.inl rfl)) (pss_one (ps_if (PW.pt (pw_and (pt_cmpR op_in_seq (pe_ix ix_tup (pe_fld (pv 6) rfl) pe_int (fun _ _ => rfl)) (pe_tup (pa_cons pe_str (pa_cons pe_str pa_nil))) (by rfl)) (pw_and1 (pt_cmpR op_ne (pe_fld (pv 6) rfl) (pe_fld (pv 0) rfl) (nomark _))))) (pss_cons (ps_expr (pe_bm PySem.F.plainAttrs_list PySem.F.slot_list_append PySem.F.type_list_append mt_append (pv 4) (pa_cons (Wp.pe_pp c_Letter_ref hr (by decide) (pv 6) rfl) pa_nil)))
  (pss_one (ps_if (pt_val (C8.pe_c c__law_calls hr (by decide) (by rfl) (pa_cons (pe_ix ix_tup (pe_fld (pv 6) rfl) (pe_un un_neg pe_int) (fun _ _ => rfl)) (pa_cons (pe_fld (pv 0) rfl) pa_nil)))) (pss_one (ps_expr (pe_bm PySem.F.plainAttrs_list PySem.F.slot_list_append PySem.F.type_list_append mt_append (pv 5) (pa_cons (Wp.pe_pp c_Letter_ref hr (by decide) (pv 6) rfl) pa_nil)))) pss_nil))) pss_nil)))
  (pss_cons (ps_for PassesOwn.never rfl (pi_range1 (by rfl) n_range (pa_cons pe_int pa_nil)) (pg_name (i := 7) sc__law_holds.nd rfl (Or.inl rfl)) (pss_cons (ps_set (i := 8) sc__law_holds.nd rfl (Or.inl rfl) (C8.pe_mt c_Inbox_unread hr (by decide) (pv 0) (pa_cons (pv 1) (pa_cons (pv 2) pa_nil))))
  (pss_cons (ps_set (i := 9) sc__law_holds.nd rfl (Or.inl rfl) (C8.pe_mt c_Inbox_mentions hr (by decide) (pv 0) (pa_cons (pv 1) (pa_cons (pv 2) pa_nil))))
  (pss_cons (ps_if (PW.pt (pw_or (pt_cmpR (op_neD hr.units) (pv 8) (pv 4) (nomark _)) (pw_or (pt_cmpR (op_neD hr.units) (pv 9) (pv 5) (nomark _)) (pw_or (pt_not (pt_val (pe_callB call_isi (by rfl) n_isinstance (by decide +kernel) (pa_cons (pv 8) (pa_cons (pe_bltn (v := .ty "list") (by rfl) n_list PyProof.Rows.boot_list rfl) pa_nil))))) (pw_or1 (pt_not (pt_val (pe_callB call_isi (by rfl) n_isinstance (by decide +kernel) (pa_cons (pv 9) (pa_cons (pe_bltn (v := .ty "list") (by rfl) n_list PyProof.Rows.boot_list rfl) pa_nil)))))))))) (pss_one (ps_ret pe_bl)) pss_nil)
  (pss_cons (ps_expr (pe_bm PySem.F.plainAttrs_list PySem.F.slot_list_append PySem.F.type_list_append mt_append (pv 8) (pa_cons pe_str pa_nil)))
  (pss_one (ps_expr (pe_bm PySem.F.plainAttrs_list PySem.F.slot_list_append PySem.F.type_list_append mt_append (pv 9) (pa_cons pe_str pa_nil)))))))))
  (pss_one (ps_ret (C8.pe_c c__law_is hr (by decide) (by rfl) (pa_cons (C8.pe_mt c_Inbox_read hr (by decide) (pv 0) (pa_cons (pv 1) pa_nil)) (pa_cons (pv 3) pa_nil))))))))), r__law_holds LC_Letter LC_Inbox h⟩)
abbrev s__law_letters : Stmt := topS 22
theorem sc__law_letters : FnScope ["script", "people", "least", "letters", "counts", "k", "stream", "author", "name", "seen", "body"] ["script", "people", "least"] (C8.fnScope s__law_letters) := C8.fnScope_by (by decide +kernel)
theorem c__law_letters {f : Addr} {fd : FuncData} (F : C8.Def K mg "_law_letters" s__law_letters f fd) (b : Binds K fd ["script", "people", "least"] [])
  (LC_Letter : IsC_Letter K C_Letter) (c__law_stream : C8.Cal P w K mg base 1 "_law_stream" (spStream K) []) (c__law_next : C8.Cal P w K mg base 1 "_law_next" (spNext K) []) (c__law_body : C8.Cal P w K mg base 4 "_law_body" (spLBody K C_Letter) []) (c_Letter___init__ : C8.Mak P w K mg base 1 "Letter" C_Letter (spInit K C_Letter) []) (n_range : mg "range" = none) (n_min : mg "min" = none) (n_len : mg "len" = none) (n_tuple : mg "tuple" = none) (n_sorted : mg "sorted" = none) :
  C8.Cal P w K mg base 5 "_law_letters" (spLetters K C_Letter) [] :=
  C8.cal0 F b .nil sc__law_letters (fun vs H Q E h => l__law_letters h) (fun cdv A outer s H vs Q E hr h => ⟨t__law_letters K C_Letter,
  (pss_cons (ps_set (i := 3) sc__law_letters.nd rfl (Or.inl rfl) (pe_lst pa_nil))
  (pss_cons (ps_set (i := 4) sc__law_letters.nd rfl (Or.inr rfl) pe_dnewK)
  (pss_cons (ps_for PassesOwn.never rfl (pi_range2 (by rfl) n_range (pa_cons (pv 2) (pa_cons (pe_callB (call_min2 rfl) (by rfl) n_min (by decide +kernel) (pa_cons (pe_callB call_len_seq (by rfl) n_len (by decide +kernel) (pa_cons (pv 0) pa_nil)) (pa_cons pe_int pa_nil))) pa_nil))) (pg_name (i := 5) sc__law_letters.nd rfl (Or.inl rfl)) (pss_cons (ps_set (i := 6) sc__law_letters.nd rfl (Or.inl rfl) (C8.pe_c c__law_stream hr (by decide) (by rfl) (pa_cons (pe_ix ix_list (pv 0) (pv 5) (fun _ _ => rfl)) (pa_cons (pv 5) pa_nil))))
  (pss_cons (ps_set (i := 7) sc__law_letters.nd rfl (Or.inl rfl) (pe_ix ix_list (pv 1) (C8.pe_c c__law_next hr (by decide) (by rfl) (pa_cons (pv 6) (pa_cons (pe_callB call_len_seq (by rfl) n_len (by decide +kernel) (pa_cons (pv 1) pa_nil)) pa_nil))) (fun _ _ => rfl)))
  (pss_cons (ps_dput (Wp.hu1 hr) (pv 4) (pv 7) (pe_op op_add (pe_dget2 (Wp.hu1 hr) (pv 4) (pv 7) pe_int ⟨rfl, rfl, rfl, rfl⟩) pe_int) rfl)
  (pss_cons (ps_set (i := 9) sc__law_letters.nd rfl (Or.inl rfl) (pe_callTy call_tuple_of (by rfl) n_tuple (by decide +kernel) (pa_cons (pe_lc (own := [("name", 8)]) (g := (gName 8)) (tt := tYes) (by rfl) sc__law_letters.nd (pi_list (pe_callB (call_sortedD rfl) (by rfl) n_sorted (by decide +kernel) (pa_cons (pv 4) pa_nil))) (blkOk_by (own := [("name", 8)]) (N := ["script", "people", "least", "letters", "counts", "k", "stream", "author", "name", "seen", "body"]) (sc := C8.fnScope s__law_letters) (by decide +kernel)) (fun _ _ _ _ _ => (pg_name (i := 8) sc__law_letters.nd rfl (Or.inl rfl))) (fun _ _ _ _ _ => pts_nil) (fun _ _ _ _ _ => (pe_tup (pa_cons (pv 8) (pa_cons (pe_dget (Wp.hu1 hr) (pv 4) (pv 8) (fun _ _ => rfl)) pa_nil))))) pa_nil)))
  (pss_cons (ps_set (i := 10) sc__law_letters.nd rfl (Or.inl rfl) (C8.pe_c c__law_body hr (by decide) (by rfl) (pa_cons (pv 3) (pa_cons (pv 1) (pa_cons (pv 6) pa_nil)))))
  (pss_one (ps_expr (pe_bm PySem.F.plainAttrs_list PySem.F.slot_list_append PySem.F.type_list_append mt_append (pv 3) (pa_cons (C8.pe_mk c_Letter___init__ hr (by decide) (by rfl) (pa_cons (pv 7) (pa_cons (pe_dget (Wp.hu1 hr) (pv 4) (pv 7) (fun _ _ => rfl)) (pa_cons (pe_op op_add (pv 5) pe_int) (pa_cons (pv 9) (pa_cons (pv 10) pa_nil)))))) pa_nil))))))))))
  (pss_one (ps_ret (pv 3)))))), r__law_letters LC_Letter h⟩)
abbrev s_law : Stmt := topS 25
theorem sc_law : FnScope ["script", "cell", "stream", "people", "letters", "at", "name", "inbox", "other", "rooms", "letter", "kept", "counts", "size", "turn", "which", "count", "k", "some"] ["script"] (C8.fnScope s_law) := C8.fnScope_by (by decide +kernel)
theorem f_law {f : Addr} {fd : FuncData} (F : C8.Fun K "law" "law" s_law f fd)
  (LC_Letter : IsC_Letter K C_Letter) (LC_Inbox : IsC_Inbox K C_Inbox) (c__law_stream : C8.Cal P w K mg base 1 "_law_stream" (spStream K) []) (c__law_people : C8.Cal P w K mg base 2 "_law_people" (spPeople K) []) (c__law_letters : C8.Cal P w K mg base 5 "_law_letters" (spLetters K C_Letter) []) (c__law_next : C8.Cal P w K mg base 1 "_law_next" (spNext K) []) (c_Letter___init__ : C8.Mak P w K mg base 1 "Letter" C_Letter (spInit K C_Letter) []) (c_Inbox___init__ : C8.Mak P w K mg base 1 "Inbox" C_Inbox (spIInit K C_Inbox) []) (c_Letter_value : C8.Met P w K mg base 1 C_Letter "value" (spValue K C_Letter) []) (c_Inbox_mark_read : C8.Met P w K mg base 2 C_Inbox "mark_read" (spMark K C_Inbox) []) (c__law_holds : C8.Cal P w K mg base 4 "_law_holds" (spHolds K C_Letter C_Inbox) []) (c_Inbox_read : C8.Met P w K mg base 1 C_Inbox "read" (spRead K C_Inbox) []) (n_len : mg "len" = none) (n_range : mg "range" = none) (n_max : mg "max" = none) :
  FnOk P w K mg base C8.CX0 6 f fd ["script"] (spLaw K) :=
  C8.fn0 F sc_law (fun vs H Q E h => l_law h) (fun cdv A outer s H vs Q E hr h => ⟨t_law K C_Letter C_Inbox,
  (pss_cons (ps_set (i := 1) sc_law.nd rfl (Or.inl rfl) pe_int)
  (pss_cons (ps_if (pt_cmpR op_gt (pe_callB call_len_seq (by rfl) n_len (by decide +kernel) (pa_cons (pv 0) pa_nil)) pe_int (nomark _)) (pss_one (ps_set (i := 1) sc_law.nd rfl (Or.inl rfl) (pe_ix ix_list (pv 0) pe_int (fun _ _ => rfl)))) pss_nil)
  (pss_cons (ps_set (i := 2) sc_law.nd rfl (Or.inl rfl) (C8.pe_c c__law_stream hr (by decide) (by rfl) (pa_cons (pv 1) (pa_cons pe_int pa_nil))))
  (pss_cons (ps_set (i := 3) sc_law.nd rfl (Or.inl rfl) (C8.pe_c c__law_people hr (by decide) (by rfl) (pa_cons (pv 2) (pa_cons pe_int pa_nil))))
  (pss_cons (ps_set (i := 4) sc_law.nd rfl (Or.inl rfl) (C8.pe_c c__law_letters hr (by decide) (by rfl) (pa_cons (pv 0) (pa_cons (pv 3) (pa_cons pe_int pa_nil)))))
  (pss_cons (ps_set (i := 5) sc_law.nd rfl (Or.inl rfl) (C8.pe_c c__law_next hr (by decide) (by rfl) (pa_cons (pv 2) (pa_cons (pe_op op_add (pe_callB call_len_seq (by rfl) n_len (by decide +kernel) (pa_cons (pv 4) pa_nil)) pe_int) pa_nil))))
  (pss_cons (ps_expr (pe_bm PySem.F.plainAttrs_list PySem.F.slot_list_insert PySem.F.type_list_insert mt_insert (pv 4) (pa_cons (pv 5) (pa_cons (C8.pe_mk c_Letter___init__ hr (by decide) (by rfl) (pa_cons pe_str (pa_cons pe_int (pa_cons pe_int (pa_cons (pe_tup (pa_cons (pe_tup (pa_cons pe_str (pa_cons pe_int pa_nil))) pa_nil)) (pa_cons (pe_tup (pa_cons pe_str (pa_cons pe_str (pa_cons (pe_tup (pa_cons pe_str (pa_cons pe_str pa_nil))) pa_nil)))) pa_nil)))))) pa_nil))))
  (pss_cons (ps_set (i := 6) sc_law.nd rfl (Or.inl rfl) (pe_ix ix_list (pe_op op_cat (pv 3) (pe_lst (pa_cons pe_str (pa_cons pe_str pa_nil)))) (C8.pe_c c__law_next hr (by decide) (by rfl) (pa_cons (pv 2) (pa_cons (pe_op op_add (pe_callB call_len_seq (by rfl) n_len (by decide +kernel) (pa_cons (pv 3) pa_nil)) pe_int) pa_nil))) (fun _ _ => rfl)))
  (pss_cons (ps_set (i := 7) sc_law.nd rfl (Or.inl rfl) (C8.pe_mk c_Inbox___init__ hr (by decide) (by rfl) (pa_cons (pv 6) pa_nil)))
  (pss_cons (ps_set (i := 8) sc_law.nd rfl (Or.inl rfl) (C8.pe_mk c_Inbox___init__ hr (by decide) (by rfl) (pa_cons (pv 6) pa_nil)))
  (pss_cons (ps_set (i := 9) sc_law.nd rfl (Or.inl rfl) (pe_lst (pa_cons (pe_tup (pa_cons (pe_ix ix_list (pv 3) pe_int (fun _ _ => rfl)) (pa_cons pe_str pa_nil))) (pa_cons (pe_ix ix_tup (pe_tup (pa_cons (pe_tup (pa_cons (pe_ix ix_list (pv 3) pe_int (fun _ _ => rfl)) (pa_cons pe_str pa_nil))) (pa_cons (pe_tup (pa_cons pe_str (pa_cons pe_str pa_nil))) pa_nil))) (C8.pe_c c__law_next hr (by decide) (by rfl) (pa_cons (pv 2) (pa_cons pe_int pa_nil))) (fun _ _ => rfl)) pa_nil))))
  (pss_cons (ps_setLc (i := 11) (own := [("letter", 10)]) (g := (gName 10)) (tt := tYes) (by rfl) sc_law.nd rfl rfl (sw_true rfl rfl rfl (by decide +kernel)) (pi_list (pv 4)) (blkOk_by (own := [("letter", 10)]) (N := ["script", "cell", "stream", "people", "letters", "at", "name", "inbox", "other", "rooms", "letter", "kept", "counts", "size", "turn", "which", "count", "k", "some"]) (sc := C8.fnScope s_law) (by decide +kernel)) (fun _ _ _ _ _ => (pg_name (i := 10) sc_law.nd rfl (Or.inl rfl))) (fun _ _ _ _ _ => pts_nil) (fun _ _ _ _ _ => (C8.pe_mt0 c_Letter_value hr (by decide) (pv 10))))
  (pss_cons (ps_set (i := 12) sc_law.nd rfl (Or.inl rfl) (pe_lst (pa_cons pe_int (pa_cons pe_int pa_nil))))
  (pss_cons (ps_set (i := 13) sc_law.nd rfl (Or.inl rfl) (pe_callB call_len_seq (by rfl) n_len (by decide +kernel) (pa_cons (pv 4) pa_nil)))
  (pss_cons (ps_for PassesOwn.never rfl (pi_range1 (by rfl) n_range (pa_cons pe_int pa_nil)) (pg_name (i := 14) sc_law.nd rfl (Or.inl rfl)) (pss_cons (ps_set (i := 15) sc_law.nd rfl (Or.inl rfl) (C8.pe_c c__law_next hr (by decide) (by rfl) (pa_cons (pv 2) (pa_cons pe_int pa_nil))))
  (pss_cons (ps_set (i := 16) sc_law.nd rfl (Or.inl rfl) (C8.pe_c c__law_next hr (by decide) (by rfl) (pa_cons (pv 2) (pa_cons (pe_op op_add (pv 13) pe_int) pa_nil))))
  (pss_cons (ps_if (pt_cmpR op_eq (C8.pe_c c__law_next hr (by decide) (by rfl) (pa_cons (pv 2) (pa_cons pe_int pa_nil))) pe_int (nomark _)) (pss_one (ps_set (i := 16) sc_law.nd rfl (Or.inl rfl) (pe_op op_sub (pe_op op_pow pe_int pe_int) (C8.pe_c c__law_next hr (by decide) (by rfl) (pa_cons (pv 2) (pa_cons pe_int pa_nil)))))) pss_nil)
  (pss_cons (ps_if (pt_cmpR op_gt (C8.pe_c c__law_next hr (by decide) (by rfl) (pa_cons (pv 2) (pa_cons pe_int pa_nil))) pe_int (nomark _)) (pss_cons (ps_if (pt_cmpR op_notN (C8.pe_mt c_Inbox_mark_read hr (by decide) (pv 7) (pa_cons (pe_ix ix_list (pv 9) (pv 15) (fun _ _ => rfl)) (pa_cons (pv 16) pa_nil))) pe_non (nomark _)) (pss_one (ps_ret pe_bl)) pss_nil)
  (pss_one (ps_asg (pe_callB (call_max2 rfl) (by rfl) n_max (by decide +kernel) (pa_cons (pe_ix ix_list (pv 12) (pv 15) (fun _ _ => rfl)) (pa_cons (pv 16) pa_nil))) (pg_sub (pv 12) (pv 15) set_list)))) pss_nil)
  (pss_one (ps_for PassesOwn.never rfl (pi_range1 (by rfl) n_range (pa_cons pe_int pa_nil)) (pg_name (i := 17) sc_law.nd rfl (Or.inl rfl)) (pss_cons (ps_set (i := 18) sc_law.nd rfl (Or.inl rfl) (pe_slice sl_list (pv 4) po_none (po_some (C8.pe_c c__law_next hr (by decide) (by rfl) (pa_cons (pv 2) (pa_cons (pe_op op_add (pv 13) pe_int) pa_nil))))))
  (pss_cons (ps_if (pt_cmpR op_eq (C8.pe_c c__law_next hr (by decide) (by rfl) (pa_cons (pv 2) (pa_cons pe_int pa_nil))) pe_int (nomark _)) (pss_one (ps_set (i := 18) sc_law.nd rfl (Or.inl rfl) (pv 4))) pss_nil)
  (pss_one (ps_if (pt_not (pt_val (C8.pe_c c__law_holds hr (by decide) (by rfl) (pa_cons (pv 7) (pa_cons (pe_ix ix_list (pv 9) (pv 17) (fun _ _ => rfl)) (pa_cons (pv 18) (pa_cons (pe_ix ix_list (pv 12) (pv 17) (fun _ _ => rfl)) pa_nil))))))) (pss_one (ps_ret pe_bl)) pss_nil)))))))))))
  (pss_cons (ps_if (PW.pt (pw_or (pt_cmpR op_ne (C8.pe_mt c_Inbox_read hr (by decide) (pv 8) (pa_cons (pe_ix ix_list (pv 9) pe_int (fun _ _ => rfl)) pa_nil)) pe_int (nomark _)) (pw_or (pt_cmpR op_ne (C8.pe_mt c_Inbox_read hr (by decide) (pv 8) (pa_cons (pe_ix ix_list (pv 9) pe_int (fun _ _ => rfl)) pa_nil)) pe_int (nomark _)) (pw_or1 (pt_cmpR op_ne (pe_fld (pv 8) rfl) (pv 6) (nomark _)))))) (pss_one (ps_ret pe_bl)) pss_nil)
  (pss_cons (ps_if (PW.pt (pw_or (pt_not (pt_val (C8.pe_c c__law_holds hr (by decide) (by rfl) (pa_cons (pv 8) (pa_cons (pe_ix ix_list (pv 9) pe_int (fun _ _ => rfl)) (pa_cons (pv 4) (pa_cons pe_int pa_nil))))))) (pw_or1 (pt_cmpR (op_neD hr.units) (pe_lc (own := [("letter", 10)]) (g := (gName 10)) (tt := tYes) (by rfl) sc_law.nd (pi_list (pv 4)) (blkOk_by (own := [("letter", 10)]) (N := ["script", "cell", "stream", "people", "letters", "at", "name", "inbox", "other", "rooms", "letter", "kept", "counts", "size", "turn", "which", "count", "k", "some"]) (sc := C8.fnScope s_law) (by decide +kernel)) (fun _ _ _ _ _ => (pg_name (i := 10) sc_law.nd rfl (Or.inl rfl))) (fun _ _ _ _ _ => pts_nil) (fun _ _ _ _ _ => (C8.pe_mt0 c_Letter_value hr (by decide) (pv 10)))) (pv 11) (nomark _))))) (pss_one (ps_ret pe_bl)) pss_nil)
  (pss_one (ps_ret (pe_and (pe_cmpR op_eq (pe_fld (pv 7) rfl) (pv 6) (nomark _)) (pe_one (pe_cmpR op_eq (pe_callB call_len_seq (by rfl) n_len (by decide +kernel) (pa_cons (pv 4) pa_nil)) (pv 13) (nomark _))))))))))))))))))))))), r_law LC_Letter LC_Inbox h⟩)
end
theorem all_mk {l : PySem.W.OpenLaw} {w : World} {K : PySem.W.Frag} {h : Heap} {mg : Str → Option Value} {fa f0 f1 f2 f3 f4 f5 f6 f7 f8 f9 f10 f11 f12 f13 f14 f15 f16 f17 f18 f19 f20 f21 f22 f23 C_Inbox C_Letter p5 : Addr} (X : K.In h) (G : h.Ns mainGlobals mg) (hfa : mg "law" = some (.ref fa))
    {od0 an0 od1 an1 od2 an2 od3 an3 od4 an4 od5 an5 od6 an6 od7 an7 od8 an8 od9 an9 od10 an10 od11 an11 od12 an12 od13 an13 od14 an14 od15 an15 od16 an16 od17 an17 od18 an18 od19 an19 od20 an20 od21 an21 od22 an22 od23 an23 : Option Addr} {sl0 sl1 sl2 sl3 sl4 sl5 sl6 sl7 sl8 sl9 sl10 sl11 sl12 sl13 sl14 sl15 sl16 sl17 sl18 sl19 sl20 sl21 sl22 sl23 : Array (Option Value)} {oc0 kV0 dc0 pm0 cd0 ct0 oc1 kV1 dc1 pm1 cd1 ct1 oc2 kV2 dc2 pm2 cd2 ct2 oc3 kV3 dc3 pm3 cd3 ct3 oc4 kV4 dc4 pm4 cd4 ct4 oc5 kV5 dc5 pm5 cd5 ct5 oc6 kV6 dc6 pm6 cd6 ct6 oc7 kV7 dc7 pm7 cd7 ct7 oc8 kV8 dc8 pm8 cd8 ct8 oc9 kV9 dc9 pm9 cd9 ct9 oc10 kV10 dc10 pm10 cd10 ct10 oc11 kV11 dc11 pm11 cd11 ct11 oc12 kV12 dc12 pm12 cd12 ct12 oc13 kV13 dc13 pm13 cd13 ct13 oc14 kV14 dc14 pm14 cd14 ct14 oc15 kV15 dc15 pm15 cd15 ct15 oc16 kV16 dc16 pm16 cd16 ct16 oc17 kV17 dc17 pm17 cd17 ct17 oc18 kV18 dc18 pm18 cd18 ct18 oc19 kV19 dc19 pm19 cd19 ct19 oc20 kV20 dc20 pm20 cd20 ct20 oc21 kV21 dc21 pm21 cd21 ct21 oc22 kV22 dc22 pm22 cd22 ct22 oc23 kV23 dc23 pm23 cd23 ct23 : Value} {rest5 : List Value}
    (aC_Inbox : PySem.W.nsIn K mainGlobals "Inbox" = some (some (.ref C_Inbox))) (pg_Inbox : PySem.W.plainGet K C_Inbox Str.empty = true) (hd_Inbox : PySem.W.hasDictIn K C_Inbox = true) (po_Inbox : PySem.W.plainOver K C_Inbox = true) (sa_Inbox : PySem.W.findIn K (.ref C_Inbox) "__setattr__" = some (some (.builtin "object.__setattr__"))) (mk_Inbox : PySem.W.makesIn K C_Inbox = true) (kc_Inbox : PySem.W.keepIn K (.ref C_Inbox) = true)
    (nf_Inbox_name : PySem.W.findIn K (.ref C_Inbox) "name" = some none)
    (nf_Inbox_counts : PySem.W.findIn K (.ref C_Inbox) "_counts" = some none)
    (aC_Letter : PySem.W.nsIn K mainGlobals "Letter" = some (some (.ref C_Letter))) (pg_Letter : PySem.W.plainGet K C_Letter Str.empty = true) (hd_Letter : PySem.W.hasDictIn K C_Letter = true) (po_Letter : PySem.W.plainOver K C_Letter = true) (sa_Letter : PySem.W.findIn K (.ref C_Letter) "__setattr__" = some (some (.builtin "object.__setattr__"))) (mk_Letter : PySem.W.makesIn K C_Letter = true) (kc_Letter : PySem.W.keepIn K (.ref C_Letter) = true)
    (nf_Letter_author : PySem.W.findIn K (.ref C_Letter) "author" = some none)
    (nf_Letter_number : PySem.W.findIn K (.ref C_Letter) "number" = some none)
    (nf_Letter_stamp : PySem.W.findIn K (.ref C_Letter) "stamp" = some none)
    (nf_Letter_seen : PySem.W.findIn K (.ref C_Letter) "seen" = some none)
    (nf_Letter_body : PySem.W.findIn K (.ref C_Letter) "body" = some none)
    (nf_Letter_counts : PySem.W.findIn K (.ref C_Letter) "_counts" = some none)
    (a0 : PySem.W.nsIn K mainGlobals "text_of" = some (some (.ref f0))) (l0 : K.lookup f0 = some ⟨oc0, od0, .func (PySem.W.fnOf "text_of" "text_of" (C8.fnArgs s_text_of) (C8.fnBody s_text_of) (C8.fnScope s_text_of) .none kV0 dc0 pm0 an0 cd0 ct0), sl0⟩) (c0 : PySem.W.codeIn K cd0 "text_of" = true) (k0 : PySem.W.keepIn K (.ref f0) = true)
    (a1 : PySem.W.findIn K (.ref C_Inbox) "__init__" = some (some (.ref f1))) (i1 : PySem.W.isFn K (.ref f1) = true) (l1 : K.lookup f1 = some ⟨oc1, od1, .func (PySem.W.fnOf "__init__" "Inbox.__init__" (C8.fnArgs s_Inbox___init__) (C8.fnBody s_Inbox___init__) (C8.fnScope s_Inbox___init__) .none kV1 dc1 pm1 an1 cd1 ct1), sl1⟩) (c1 : PySem.W.codeIn K cd1 "Inbox.__init__" = true) (k1 : PySem.W.keepIn K (.ref f1) = true)
    (a2 : PySem.W.findIn K (.ref C_Inbox) "read" = some (some (.ref f2))) (i2 : PySem.W.isFn K (.ref f2) = true) (l2 : K.lookup f2 = some ⟨oc2, od2, .func (PySem.W.fnOf "read" "Inbox.read" (C8.fnArgs s_Inbox_read) (C8.fnBody s_Inbox_read) (C8.fnScope s_Inbox_read) .none kV2 dc2 pm2 an2 cd2 ct2), sl2⟩) (c2 : PySem.W.codeIn K cd2 "Inbox.read" = true) (k2 : PySem.W.keepIn K (.ref f2) = true)
    (a3 : PySem.W.nsIn K mainGlobals "_front_signs" = some (some (.ref f3))) (l3 : K.lookup f3 = some ⟨oc3, od3, .func (PySem.W.fnOf "_front_signs" "_front_signs" (C8.fnArgs s__front_signs) (C8.fnBody s__front_signs) (C8.fnScope s__front_signs) .none kV3 dc3 pm3 an3 cd3 ct3), sl3⟩) (c3 : PySem.W.codeIn K cd3 "_front_signs" = true) (k3 : PySem.W.keepIn K (.ref f3) = true)
    (a4 : PySem.W.findIn K (.ref C_Letter) "__init__" = some (some (.ref f4))) (i4 : PySem.W.isFn K (.ref f4) = true) (l4 : K.lookup f4 = some ⟨oc4, od4, .func (PySem.W.fnOf "__init__" "Letter.__init__" (C8.fnArgs s_Letter___init__) (C8.fnBody s_Letter___init__) (C8.fnScope s_Letter___init__) .none kV4 dc4 pm4 an4 cd4 ct4), sl4⟩) (c4 : PySem.W.codeIn K cd4 "Letter.__init__" = true) (k4 : PySem.W.keepIn K (.ref f4) = true)
    (a5 : PySem.W.findIn K (.ref C_Letter) "ref" = some (some (.ref p5))) (g5 : PySem.W.specialIn K (.ref p5) "__get__" = some (some (.builtin "property.__get__"))) (t5_ : PySem.W.takesIn K (.ref p5) = some true) (r5 : PySem.W.recIn K p5 "property" = some (.ref f5 :: rest5)) (l5 : K.lookup f5 = some ⟨oc5, od5, .func (PySem.W.fnOf "ref" "Letter.ref" (C8.fnArgs s_Letter_ref) (C8.fnBody s_Letter_ref) (C8.fnScope s_Letter_ref) .none kV5 dc5 pm5 an5 cd5 ct5), sl5⟩) (c5 : PySem.W.codeIn K cd5 "Letter.ref" = true)
    (a6 : PySem.W.findIn K (.ref C_Letter) "value" = some (some (.ref f6))) (i6 : PySem.W.isFn K (.ref f6) = true) (l6 : K.lookup f6 = some ⟨oc6, od6, .func (PySem.W.fnOf "value" "Letter.value" (C8.fnArgs s_Letter_value) (C8.fnBody s_Letter_value) (C8.fnScope s_Letter_value) .none kV6 dc6 pm6 an6 cd6 ct6), sl6⟩) (c6 : PySem.W.codeIn K cd6 "Letter.value" = true) (k6 : PySem.W.keepIn K (.ref f6) = true)
    (a7 : PySem.W.nsIn K mainGlobals "_law_stream" = some (some (.ref f7))) (l7 : K.lookup f7 = some ⟨oc7, od7, .func (PySem.W.fnOf "_law_stream" "_law_stream" (C8.fnArgs s__law_stream) (C8.fnBody s__law_stream) (C8.fnScope s__law_stream) .none kV7 dc7 pm7 an7 cd7 ct7), sl7⟩) (c7 : PySem.W.codeIn K cd7 "_law_stream" = true) (k7 : PySem.W.keepIn K (.ref f7) = true)
    (a8 : PySem.W.nsIn K mainGlobals "_law_next" = some (some (.ref f8))) (l8 : K.lookup f8 = some ⟨oc8, od8, .func (PySem.W.fnOf "_law_next" "_law_next" (C8.fnArgs s__law_next) (C8.fnBody s__law_next) (C8.fnScope s__law_next) .none kV8 dc8 pm8 an8 cd8 ct8), sl8⟩) (c8 : PySem.W.codeIn K cd8 "_law_next" = true) (k8 : PySem.W.keepIn K (.ref f8) = true)
    (a9 : PySem.W.nsIn K mainGlobals "_law_is" = some (some (.ref f9))) (l9 : K.lookup f9 = some ⟨oc9, od9, .func (PySem.W.fnOf "_law_is" "_law_is" (C8.fnArgs s__law_is) (C8.fnBody s__law_is) (C8.fnScope s__law_is) .none kV9 dc9 pm9 an9 cd9 ct9), sl9⟩) (c9 : PySem.W.codeIn K cd9 "_law_is" = true) (k9 : PySem.W.keepIn K (.ref f9) = true)
    (a10 : PySem.W.nsIn K mainGlobals "_law_calls" = some (some (.ref f10))) (l10 : K.lookup f10 = some ⟨oc10, od10, .func (PySem.W.fnOf "_law_calls" "_law_calls" (C8.fnArgs s__law_calls) (C8.fnBody s__law_calls) (C8.fnScope s__law_calls) .none kV10 dc10 pm10 an10 cd10 ct10), sl10⟩) (c10 : PySem.W.codeIn K cd10 "_law_calls" = true) (k10 : PySem.W.keepIn K (.ref f10) = true)
    (a11 : PySem.W.findIn K (.ref C_Inbox) "mark_read" = some (some (.ref f11))) (i11 : PySem.W.isFn K (.ref f11) = true) (l11 : K.lookup f11 = some ⟨oc11, od11, .func (PySem.W.fnOf "mark_read" "Inbox.mark_read" (C8.fnArgs s_Inbox_mark_read) (C8.fnBody s_Inbox_mark_read) (C8.fnScope s_Inbox_mark_read) .none kV11 dc11 pm11 an11 cd11 ct11), sl11⟩) (c11 : PySem.W.codeIn K cd11 "Inbox.mark_read" = true) (k11 : PySem.W.keepIn K (.ref f11) = true)
    (a12 : PySem.W.findIn K (.ref C_Inbox) "_unread_letters" = some (some (.ref f12))) (i12 : PySem.W.isFn K (.ref f12) = true) (l12 : K.lookup f12 = some ⟨oc12, od12, .func (PySem.W.fnOf "_unread_letters" "Inbox._unread_letters" (C8.fnArgs s_Inbox__unread_letters) (C8.fnBody s_Inbox__unread_letters) (C8.fnScope s_Inbox__unread_letters) .none kV12 dc12 pm12 an12 cd12 ct12), sl12⟩) (c12 : PySem.W.codeIn K cd12 "Inbox._unread_letters" = true) (k12 : PySem.W.keepIn K (.ref f12) = true)
    (a13 : PySem.W.nsIn K mainGlobals "_calls" = some (some (.ref f13))) (l13 : K.lookup f13 = some ⟨oc13, od13, .func (PySem.W.fnOf "_calls" "_calls" (C8.fnArgs s__calls) (C8.fnBody s__calls) (C8.fnScope s__calls) .none kV13 dc13 pm13 an13 cd13 ct13), sl13⟩) (c13 : PySem.W.codeIn K cd13 "_calls" = true) (k13 : PySem.W.keepIn K (.ref f13) = true)
    (a14 : PySem.W.nsIn K mainGlobals "_law_people" = some (some (.ref f14))) (l14 : K.lookup f14 = some ⟨oc14, od14, .func (PySem.W.fnOf "_law_people" "_law_people" (C8.fnArgs s__law_people) (C8.fnBody s__law_people) (C8.fnScope s__law_people) .none kV14 dc14 pm14 an14 cd14 ct14), sl14⟩) (c14 : PySem.W.codeIn K cd14 "_law_people" = true) (k14 : PySem.W.keepIn K (.ref f14) = true)
    (a15 : PySem.W.nsIn K mainGlobals "_law_word" = some (some (.ref f15))) (l15 : K.lookup f15 = some ⟨oc15, od15, .func (PySem.W.fnOf "_law_word" "_law_word" (C8.fnArgs s__law_word) (C8.fnBody s__law_word) (C8.fnScope s__law_word) .none kV15 dc15 pm15 an15 cd15 ct15), sl15⟩) (c15 : PySem.W.codeIn K cd15 "_law_word" = true) (k15 : PySem.W.keepIn K (.ref f15) = true)
    (a16 : PySem.W.findIn K (.ref C_Inbox) "unread" = some (some (.ref f16))) (i16 : PySem.W.isFn K (.ref f16) = true) (l16 : K.lookup f16 = some ⟨oc16, od16, .func (PySem.W.fnOf "unread" "Inbox.unread" (C8.fnArgs s_Inbox_unread) (C8.fnBody s_Inbox_unread) (C8.fnScope s_Inbox_unread) .none kV16 dc16 pm16 an16 cd16 ct16), sl16⟩) (c16 : PySem.W.codeIn K cd16 "Inbox.unread" = true) (k16 : PySem.W.keepIn K (.ref f16) = true)
    (a17 : PySem.W.findIn K (.ref C_Inbox) "mentions" = some (some (.ref f17))) (i17 : PySem.W.isFn K (.ref f17) = true) (l17 : K.lookup f17 = some ⟨oc17, od17, .func (PySem.W.fnOf "mentions" "Inbox.mentions" (C8.fnArgs s_Inbox_mentions) (C8.fnBody s_Inbox_mentions) (C8.fnScope s_Inbox_mentions) .none kV17 dc17 pm17 an17 cd17 ct17), sl17⟩) (c17 : PySem.W.codeIn K cd17 "Inbox.mentions" = true) (k17 : PySem.W.keepIn K (.ref f17) = true)
    (a18 : PySem.W.nsIn K mainGlobals "_law_text" = some (some (.ref f18))) (l18 : K.lookup f18 = some ⟨oc18, od18, .func (PySem.W.fnOf "_law_text" "_law_text" (C8.fnArgs s__law_text) (C8.fnBody s__law_text) (C8.fnScope s__law_text) .none kV18 dc18 pm18 an18 cd18 ct18), sl18⟩) (c18 : PySem.W.codeIn K cd18 "_law_text" = true) (k18 : PySem.W.keepIn K (.ref f18) = true)
    (a19 : PySem.W.nsIn K mainGlobals "_law_ref" = some (some (.ref f19))) (l19 : K.lookup f19 = some ⟨oc19, od19, .func (PySem.W.fnOf "_law_ref" "_law_ref" (C8.fnArgs s__law_ref) (C8.fnBody s__law_ref) (C8.fnScope s__law_ref) .none kV19 dc19 pm19 an19 cd19 ct19), sl19⟩) (c19 : PySem.W.codeIn K cd19 "_law_ref" = true) (k19 : PySem.W.keepIn K (.ref f19) = true)
    (a20 : PySem.W.nsIn K mainGlobals "_law_body" = some (some (.ref f20))) (l20 : K.lookup f20 = some ⟨oc20, od20, .func (PySem.W.fnOf "_law_body" "_law_body" (C8.fnArgs s__law_body) (C8.fnBody s__law_body) (C8.fnScope s__law_body) .none kV20 dc20 pm20 an20 cd20 ct20), sl20⟩) (c20 : PySem.W.codeIn K cd20 "_law_body" = true) (k20 : PySem.W.keepIn K (.ref f20) = true)
    (a21 : PySem.W.nsIn K mainGlobals "_law_holds" = some (some (.ref f21))) (l21 : K.lookup f21 = some ⟨oc21, od21, .func (PySem.W.fnOf "_law_holds" "_law_holds" (C8.fnArgs s__law_holds) (C8.fnBody s__law_holds) (C8.fnScope s__law_holds) .none kV21 dc21 pm21 an21 cd21 ct21), sl21⟩) (c21 : PySem.W.codeIn K cd21 "_law_holds" = true) (k21 : PySem.W.keepIn K (.ref f21) = true)
    (a22 : PySem.W.nsIn K mainGlobals "_law_letters" = some (some (.ref f22))) (l22 : K.lookup f22 = some ⟨oc22, od22, .func (PySem.W.fnOf "_law_letters" "_law_letters" (C8.fnArgs s__law_letters) (C8.fnBody s__law_letters) (C8.fnScope s__law_letters) .none kV22 dc22 pm22 an22 cd22 ct22), sl22⟩) (c22 : PySem.W.codeIn K cd22 "_law_letters" = true) (k22 : PySem.W.keepIn K (.ref f22) = true)
    (a23 : PySem.W.nsIn K mainGlobals "law" = some (some (.ref f23))) (l23 : K.lookup f23 = some ⟨oc23, od23, .func (PySem.W.fnOf "law" "law" (C8.fnArgs s_law) (C8.fnBody s_law) (C8.fnScope s_law) .none kV23 dc23 pm23 an23 cd23 ct23), sl23⟩) (c23 : PySem.W.codeIn K cd23 "law" = true) (k23 : PySem.W.keepIn K (.ref f23) = true)
    (z0 : PySem.W.nsIn K mainGlobals "len" = some none)
    (z1 : PySem.W.nsIn K mainGlobals "int" = some none)
    (z2 : PySem.W.nsIn K mainGlobals "isinstance" = some none)
    (z3 : PySem.W.nsIn K mainGlobals "bool" = some none)
    (z4 : PySem.W.nsIn K mainGlobals "max" = some none)
    (z5 : PySem.W.nsIn K mainGlobals "any" = some none)
    (z6 : PySem.W.nsIn K mainGlobals "range" = some none)
    (z7 : PySem.W.nsIn K mainGlobals "list" = some none)
    (z8 : PySem.W.nsIn K mainGlobals "min" = some none)
    (z9 : PySem.W.nsIn K mainGlobals "tuple" = some none)
    (z10 : PySem.W.nsIn K mainGlobals "sorted" = some none)
    {t0 : Tok} (v0 : PySem.W.nsIn K mainGlobals "LETTERS" = some (some (.str "abcdefghijklmnopqrstuvwxyz" t0)))
    {t1 : Tok} (v1 : PySem.W.nsIn K mainGlobals "DIGITS" = some (some (.str "0123456789" t1)))
    {t2 : Tok} (v2 : PySem.W.nsIn K mainGlobals "SIGN" = some (some (.str "\x40" t2)))
    : ∃ fd : FuncData, (∀ (s : Shared) (v : Value), BindsTo s fd ⟨[v], []⟩ [("script", v)]) ∧ ∀ base : Heap, K.In base → base.Ns mainGlobals mg → FnOk l.prog w K mg base C8.CX0 6 fa fd ["script"] (spLaw K) := by
  have e := hfa.symm.trans (PySem.W.mg_of X G a23)
  cases e
  have n_len : mg "len" = none := PySem.W.mg_none_of X G z0
  have n_int : mg "int" = none := PySem.W.mg_none_of X G z1
  have n_isinstance : mg "isinstance" = none := PySem.W.mg_none_of X G z2
  have n_bool : mg "bool" = none := PySem.W.mg_none_of X G z3
  have n_max : mg "max" = none := PySem.W.mg_none_of X G z4
  have n_any : mg "any" = none := PySem.W.mg_none_of X G z5
  have n_range : mg "range" = none := PySem.W.mg_none_of X G z6
  have n_list : mg "list" = none := PySem.W.mg_none_of X G z7
  have n_min : mg "min" = none := PySem.W.mg_none_of X G z8
  have n_tuple : mg "tuple" = none := PySem.W.mg_none_of X G z9
  have n_sorted : mg "sorted" = none := PySem.W.mg_none_of X G z10
  have g_LETTERS : ∃ u, mg "LETTERS" = some u ∧ RelV v_LETTERS u := ⟨_, PySem.W.mg_of X G v0, _, rfl⟩
  have g_DIGITS : ∃ u, mg "DIGITS" = some u ∧ RelV v_DIGITS u := ⟨_, PySem.W.mg_of X G v1, _, rfl⟩
  have g_SIGN : ∃ u, mg "SIGN" = some u ∧ RelV v_SIGN u := ⟨_, PySem.W.mg_of X G v2, _, rfl⟩
  have LC_Inbox : IsC_Inbox K C_Inbox := ⟨⟨pg_Inbox, hd_Inbox, po_Inbox, sa_Inbox⟩, nf_Inbox_name, nf_Inbox_counts⟩
  have LC_Letter : IsC_Letter K C_Letter := ⟨⟨pg_Letter, hd_Letter, po_Letter, sa_Letter⟩, nf_Letter_author, nf_Letter_number, nf_Letter_stamp, nf_Letter_seen, nf_Letter_body, nf_Letter_counts⟩
  have F0 : C8.Fun K "text_of" "text_of" s_text_of _ _ := ⟨⟨_, _, _, _, _, _, _, _, _, _, rfl, l0, c0⟩⟩
  have F1 : C8.Fun K "__init__" "Inbox.__init__" s_Inbox___init__ _ _ := ⟨⟨_, _, _, _, _, _, _, _, _, _, rfl, l1, c1⟩⟩
  have F2 : C8.Fun K "read" "Inbox.read" s_Inbox_read _ _ := ⟨⟨_, _, _, _, _, _, _, _, _, _, rfl, l2, c2⟩⟩
  have F3 : C8.Fun K "_front_signs" "_front_signs" s__front_signs _ _ := ⟨⟨_, _, _, _, _, _, _, _, _, _, rfl, l3, c3⟩⟩
  have F4 : C8.Fun K "__init__" "Letter.__init__" s_Letter___init__ _ _ := ⟨⟨_, _, _, _, _, _, _, _, _, _, rfl, l4, c4⟩⟩
  have F5 : C8.Fun K "ref" "Letter.ref" s_Letter_ref _ _ := ⟨⟨_, _, _, _, _, _, _, _, _, _, rfl, l5, c5⟩⟩
  have F6 : C8.Fun K "value" "Letter.value" s_Letter_value _ _ := ⟨⟨_, _, _, _, _, _, _, _, _, _, rfl, l6, c6⟩⟩
  have F7 : C8.Fun K "_law_stream" "_law_stream" s__law_stream _ _ := ⟨⟨_, _, _, _, _, _, _, _, _, _, rfl, l7, c7⟩⟩
  have F8 : C8.Fun K "_law_next" "_law_next" s__law_next _ _ := ⟨⟨_, _, _, _, _, _, _, _, _, _, rfl, l8, c8⟩⟩
  have F9 : C8.Fun K "_law_is" "_law_is" s__law_is _ _ := ⟨⟨_, _, _, _, _, _, _, _, _, _, rfl, l9, c9⟩⟩
  have F10 : C8.Fun K "_law_calls" "_law_calls" s__law_calls _ _ := ⟨⟨_, _, _, _, _, _, _, _, _, _, rfl, l10, c10⟩⟩
  have F11 : C8.Fun K "mark_read" "Inbox.mark_read" s_Inbox_mark_read _ _ := ⟨⟨_, _, _, _, _, _, _, _, _, _, rfl, l11, c11⟩⟩
  have F12 : C8.Fun K "_unread_letters" "Inbox._unread_letters" s_Inbox__unread_letters _ _ := ⟨⟨_, _, _, _, _, _, _, _, _, _, rfl, l12, c12⟩⟩
  have F13 : C8.Fun K "_calls" "_calls" s__calls _ _ := ⟨⟨_, _, _, _, _, _, _, _, _, _, rfl, l13, c13⟩⟩
  have F14 : C8.Fun K "_law_people" "_law_people" s__law_people _ _ := ⟨⟨_, _, _, _, _, _, _, _, _, _, rfl, l14, c14⟩⟩
  have F15 : C8.Fun K "_law_word" "_law_word" s__law_word _ _ := ⟨⟨_, _, _, _, _, _, _, _, _, _, rfl, l15, c15⟩⟩
  have F16 : C8.Fun K "unread" "Inbox.unread" s_Inbox_unread _ _ := ⟨⟨_, _, _, _, _, _, _, _, _, _, rfl, l16, c16⟩⟩
  have F17 : C8.Fun K "mentions" "Inbox.mentions" s_Inbox_mentions _ _ := ⟨⟨_, _, _, _, _, _, _, _, _, _, rfl, l17, c17⟩⟩
  have F18 : C8.Fun K "_law_text" "_law_text" s__law_text _ _ := ⟨⟨_, _, _, _, _, _, _, _, _, _, rfl, l18, c18⟩⟩
  have F19 : C8.Fun K "_law_ref" "_law_ref" s__law_ref _ _ := ⟨⟨_, _, _, _, _, _, _, _, _, _, rfl, l19, c19⟩⟩
  have F20 : C8.Fun K "_law_body" "_law_body" s__law_body _ _ := ⟨⟨_, _, _, _, _, _, _, _, _, _, rfl, l20, c20⟩⟩
  have F21 : C8.Fun K "_law_holds" "_law_holds" s__law_holds _ _ := ⟨⟨_, _, _, _, _, _, _, _, _, _, rfl, l21, c21⟩⟩
  have F22 : C8.Fun K "_law_letters" "_law_letters" s__law_letters _ _ := ⟨⟨_, _, _, _, _, _, _, _, _, _, rfl, l22, c22⟩⟩
  have F23 : C8.Fun K "law" "law" s_law _ _ := ⟨⟨_, _, _, _, _, _, _, _, _, _, rfl, l23, c23⟩⟩
  refine ⟨PySem.W.fnOf "law" "law" (C8.fnArgs s_law) (C8.fnBody s_law) (C8.fnScope s_law) .none kV23 dc23 pm23 an23 cd23 ct23, fun s v => .of_eq rfl, fun base _ _ => ?_⟩
  have c_text_of := c_text_of (P := l.prog) (w := w) (base := base) ⟨F0, PySem.W.mg_of X G a0, k0⟩ (F0.binds rfl fun _ _ _ _ _ _ us hl => match us, hl with | [_], _ => rfl) 
  have c_Inbox___init__ := c_Inbox___init__ (P := l.prog) (w := w) (base := base) ⟨mk_Inbox, a1, i1, kc_Inbox⟩ (PySem.W.mg_of X G aC_Inbox) F1 (F1.binds rfl fun _ _ _ _ _ _ us hl => match us, hl with | [_, _], _ => rfl) LC_Inbox
  have c_Inbox_read := c_Inbox_read (P := l.prog) (w := w) (mg := mg) (base := base) ⟨a2, i2, k2⟩ F2 (F2.binds rfl fun _ _ _ _ _ _ us hl => match us, hl with | [_, _], _ => rfl) LC_Inbox
  have c__front_signs := c__front_signs (P := l.prog) (w := w) (base := base) ⟨F3, PySem.W.mg_of X G a3, k3⟩ (F3.binds rfl fun _ _ _ _ _ _ us hl => match us, hl with | [_], _ => rfl) n_len g_LETTERS g_DIGITS
  have c_Letter___init__ := c_Letter___init__ (P := l.prog) (w := w) (base := base) ⟨mk_Letter, a4, i4, kc_Letter⟩ (PySem.W.mg_of X G aC_Letter) F4 (F4.binds rfl fun _ _ _ _ _ _ us hl => match us, hl with | [_, _, _, _, _, _], _ => rfl) LC_Letter
  have c_Letter_ref := c_Letter_ref (P := l.prog) (w := w) (mg := mg) (base := base) ⟨a5, g5, t5_, ⟨_, r5⟩⟩ F5 (F5.binds rfl fun _ _ _ _ _ _ us hl => match us, hl with | [_], _ => rfl) LC_Letter
  have c_Letter_value := c_Letter_value (P := l.prog) (w := w) (mg := mg) (base := base) ⟨a6, i6, k6⟩ F6 (F6.binds rfl fun _ _ _ _ _ _ us hl => match us, hl with | [_], _ => rfl) LC_Letter
  have c__law_stream := c__law_stream (P := l.prog) (w := w) (base := base) ⟨F7, PySem.W.mg_of X G a7, k7⟩ (F7.binds rfl fun _ _ _ _ _ _ us hl => match us, hl with | [_, _], _ => rfl) n_int
  have c__law_next := c__law_next (P := l.prog) (w := w) (base := base) ⟨F8, PySem.W.mg_of X G a8, k8⟩ (F8.binds rfl fun _ _ _ _ _ _ us hl => match us, hl with | [_, _], _ => rfl) n_int
  have c__law_is := c__law_is (P := l.prog) (w := w) (base := base) ⟨F9, PySem.W.mg_of X G a9, k9⟩ (F9.binds rfl fun _ _ _ _ _ _ us hl => match us, hl with | [_, _], _ => rfl) n_isinstance n_int n_bool
  have c__law_calls := c__law_calls (P := l.prog) (w := w) (base := base) ⟨F10, PySem.W.mg_of X G a10, k10⟩ (F10.binds rfl fun _ _ _ _ _ _ us hl => match us, hl with | [_, _], _ => rfl) 
  have c_Inbox_mark_read := c_Inbox_mark_read (P := l.prog) (w := w) (mg := mg) (base := base) ⟨a11, i11, k11⟩ F11 (F11.binds rfl fun _ _ _ _ _ _ us hl => match us, hl with | [_, _, _], _ => rfl) LC_Inbox c_Inbox_read n_max
  have c_Inbox__unread_letters := c_Inbox__unread_letters (P := l.prog) (w := w) (mg := mg) (base := base) ⟨a12, i12, k12⟩ F12 (F12.binds rfl fun _ _ _ _ _ _ us hl => match us, hl with | [_, _, _], _ => rfl) LC_Inbox LC_Letter c_Inbox_read
  have c__calls := c__calls (P := l.prog) (w := w) (base := base) ⟨F13, PySem.W.mg_of X G a13, k13⟩ (F13.binds rfl fun _ _ _ _ _ _ us hl => match us, hl with | [_, _], _ => rfl) c__front_signs n_any g_SIGN
  have c__law_people := c__law_people (P := l.prog) (w := w) (base := base) ⟨F14, PySem.W.mg_of X G a14, k14⟩ (F14.binds rfl fun _ _ _ _ _ _ us hl => match us, hl with | [_, _], _ => rfl) c__law_next n_range
  have c__law_word := c__law_word (P := l.prog) (w := w) (base := base) ⟨F15, PySem.W.mg_of X G a15, k15⟩ (F15.binds rfl fun _ _ _ _ _ _ us hl => match us, hl with | [_], _ => rfl) c__law_next n_range
  have c_Inbox_unread := c_Inbox_unread (P := l.prog) (w := w) (mg := mg) (base := base) ⟨a16, i16, k16⟩ F16 (F16.binds rfl fun _ _ _ _ _ _ us hl => match us, hl with | [_, _, _], _ => rfl) LC_Inbox LC_Letter c_Inbox__unread_letters c_Letter_ref
  have c_Inbox_mentions := c_Inbox_mentions (P := l.prog) (w := w) (mg := mg) (base := base) ⟨a17, i17, k17⟩ F17 (F17.binds rfl fun _ _ _ _ _ _ us hl => match us, hl with | [_, _, _], _ => rfl) LC_Inbox LC_Letter c_Inbox__unread_letters c__calls c_text_of c_Letter_ref
  have c__law_text := c__law_text (P := l.prog) (w := w) (base := base) ⟨F18, PySem.W.mg_of X G a18, k18⟩ (F18.binds rfl fun _ _ _ _ _ _ us hl => match us, hl with | [_, _], _ => rfl) c__law_next c__law_word n_range n_len
  have c__law_ref := c__law_ref (P := l.prog) (w := w) (base := base) ⟨F19, PySem.W.mg_of X G a19, k19⟩ (F19.binds rfl fun _ _ _ _ _ _ us hl => match us, hl with | [_, _, _], _ => rfl) LC_Letter c__law_next c_Letter_ref n_len
  have c__law_body := c__law_body (P := l.prog) (w := w) (base := base) ⟨F20, PySem.W.mg_of X G a20, k20⟩ (F20.binds rfl fun _ _ _ _ _ _ us hl => match us, hl with | [_, _, _], _ => rfl) LC_Letter c__law_next c__law_ref c__law_text c__law_word n_len
  have c__law_holds := c__law_holds (P := l.prog) (w := w) (base := base) ⟨F21, PySem.W.mg_of X G a21, k21⟩ (F21.binds rfl fun _ _ _ _ _ _ us hl => match us, hl with | [_, _, _, _], _ => rfl) LC_Letter LC_Inbox c_Letter_ref c__law_calls c_Inbox_unread c_Inbox_mentions c__law_is c_Inbox_read n_range n_isinstance n_list
  have c__law_letters := c__law_letters (P := l.prog) (w := w) (base := base) ⟨F22, PySem.W.mg_of X G a22, k22⟩ (F22.binds rfl fun _ _ _ _ _ _ us hl => match us, hl with | [_, _, _], _ => rfl) LC_Letter c__law_stream c__law_next c__law_body c_Letter___init__ n_range n_min n_len n_tuple n_sorted
  exact f_law F23 LC_Letter LC_Inbox c__law_stream c__law_people c__law_letters c__law_next c_Letter___init__ c_Inbox___init__ c_Letter_value c_Inbox_mark_read c__law_holds c_Inbox_read n_len n_range n_max
end T
open PySem PySem.W PyProof.Rows
set_option maxHeartbeats 0 in
theorem PySem.Challenge.cw_lettersonce_k56_unread_letters_holds : PySem.Challenge.rw_lettersonce_k56_unread_letters.Holds := by
  w_on; o_law; k_head; (case hw => w_witness2)
  k_fill
  refine L2.walk_of (l := PySem.Challenge.rw_lettersonce_k56_unread_letters) (n := 63) (k := 6) (x := "script") (CX := fun _ => C8.CX0) (sp := fun w => T.spLaw _) rfl (by decide) rfl ⟨rfl, by decide, by decide⟩ (fun w h Y => PySem.W.kIn_of Y) ?F (fun _ _ a ns hl _ hS => ⟨a, ns, rfl, hS, hl, fun _ => rfl⟩) (fun _ _ _ _ _ h => h)
  case F =>
    intro w mg fa h KX G hmg
    refine' T.all_mk KX G hmg ?aC_Inbox ?pg_Inbox ?hd_Inbox ?po_Inbox ?sa_Inbox ?mk_Inbox ?kc_Inbox ?nf_Inbox_name ?nf_Inbox_counts ?aC_Letter ?pg_Letter ?hd_Letter ?po_Letter ?sa_Letter ?mk_Letter ?kc_Letter ?nf_Letter_author ?nf_Letter_number ?nf_Letter_stamp ?nf_Letter_seen ?nf_Letter_body ?nf_Letter_counts ?a0 ?l0 ?c0 ?k0 ?a1 ?i1 ?l1 ?c1 ?k1 ?a2 ?i2 ?l2 ?c2 ?k2 ?a3 ?l3 ?c3 ?k3 ?a4 ?i4 ?l4 ?c4 ?k4 ?a5 ?g5 ?t5_ ?r5 ?l5 ?c5 ?a6 ?i6 ?l6 ?c6 ?k6 ?a7 ?l7 ?c7 ?k7 ?a8 ?l8 ?c8 ?k8 ?a9 ?l9 ?c9 ?k9 ?a10 ?l10 ?c10 ?k10 ?a11 ?i11 ?l11 ?c11 ?k11 ?a12 ?i12 ?l12 ?c12 ?k12 ?a13 ?l13 ?c13 ?k13 ?a14 ?l14 ?c14 ?k14 ?a15 ?l15 ?c15 ?k15 ?a16 ?i16 ?l16 ?c16 ?k16 ?a17 ?i17 ?l17 ?c17 ?k17 ?a18 ?l18 ?c18 ?k18 ?a19 ?l19 ?c19 ?k19 ?a20 ?l20 ?c20 ?k20 ?a21 ?l21 ?c21 ?k21 ?a22 ?l22 ?c22 ?k22 ?a23 ?l23 ?c23 ?k23 ?z0 ?z1 ?z2 ?z3 ?z4 ?z5 ?z6 ?z7 ?z8 ?z9 ?z10 ?v0 ?v1 ?v2
    (case aC_Inbox => k_is); (case pg_Inbox => k_is); (case hd_Inbox => k_is); (case po_Inbox => k_is); (case sa_Inbox => k_is); (case mk_Inbox => k_is); (case kc_Inbox => k_is); (case nf_Inbox_name => k_is); (case nf_Inbox_counts => k_is); (case aC_Letter => k_is); (case pg_Letter => k_is); (case hd_Letter => k_is); (case po_Letter => k_is); (case sa_Letter => k_is); (case mk_Letter => k_is); (case kc_Letter => k_is); (case nf_Letter_author => k_is); (case nf_Letter_number => k_is); (case nf_Letter_stamp => k_is); (case nf_Letter_seen => k_is); (case nf_Letter_body => k_is); (case nf_Letter_counts => k_is); (case a0 => k_is); (case l0 => k_is); (case c0 => k_is); (case k0 => k_is); (case a1 => k_is); (case i1 => k_is); (case l1 => k_is); (case c1 => k_is); (case k1 => k_is); (case a2 => k_is); (case i2 => k_is); (case l2 => k_is); (case c2 => k_is); (case k2 => k_is); (case a3 => k_is); (case l3 => k_is); (case c3 => k_is); (case k3 => k_is); (case a4 => k_is); (case i4 => k_is); (case l4 => k_is); (case c4 => k_is); (case k4 => k_is); (case a5 => k_is); (case g5 => k_is); (case t5_ => k_is); (case r5 => k_is); (case l5 => k_is); (case c5 => k_is); (case a6 => k_is); (case i6 => k_is); (case l6 => k_is); (case c6 => k_is); (case k6 => k_is); (case a7 => k_is); (case l7 => k_is); (case c7 => k_is); (case k7 => k_is); (case a8 => k_is); (case l8 => k_is); (case c8 => k_is); (case k8 => k_is); (case a9 => k_is); (case l9 => k_is); (case c9 => k_is); (case k9 => k_is); (case a10 => k_is); (case l10 => k_is); (case c10 => k_is); (case k10 => k_is); (case a11 => k_is); (case i11 => k_is); (case l11 => k_is); (case c11 => k_is); (case k11 => k_is); (case a12 => k_is); (case i12 => k_is); (case l12 => k_is); (case c12 => k_is); (case k12 => k_is); (case a13 => k_is); (case l13 => k_is); (case c13 => k_is); (case k13 => k_is); (case a14 => k_is); (case l14 => k_is); (case c14 => k_is); (case k14 => k_is); (case a15 => k_is); (case l15 => k_is); (case c15 => k_is); (case k15 => k_is); (case a16 => k_is); (case i16 => k_is); (case l16 => k_is); (case c16 => k_is); (case k16 => k_is); (case a17 => k_is); (case i17 => k_is); (case l17 => k_is); (case c17 => k_is); (case k17 => k_is); (case a18 => k_is); (case l18 => k_is); (case c18 => k_is); (case k18 => k_is); (case a19 => k_is); (case l19 => k_is); (case c19 => k_is); (case k19 => k_is); (case a20 => k_is); (case l20 => k_is); (case c20 => k_is); (case k20 => k_is); (case a21 => k_is); (case l21 => k_is); (case c21 => k_is); (case k21 => k_is); (case a22 => k_is); (case l22 => k_is); (case c22 => k_is); (case k22 => k_is); (case a23 => k_is); (case l23 => k_is); (case c23 => k_is); (case k23 => k_is); (case z0 => k_is); (case z1 => k_is); (case z2 => k_is); (case z3 => k_is); (case z4 => k_is); (case z5 => k_is); (case z6 => k_is); (case z7 => k_is); (case z8 => k_is); (case z9 => k_is); (case z10 => k_is); (case v0 => k_is); (case v1 => k_is); (case v2 => k_is)
