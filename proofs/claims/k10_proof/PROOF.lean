import PyProof.Rows.All
import Wide.All
import OpenK.AllK
import Wide.FinOn
import HandS.ForMost
import HandS.IsInst
import HandS.More
import PyProof.TypeEq
import PyProof.InstEq
import HandS.Codes
import HandS.TupLe
import HandS.Walk
import HandS.StrMore
import PyProof.StrBlock2
import HandS.Property
import HandS.DictComp
import HandS.HeadHook3
import HandS.Zip
import HandS.FStr
import HandS.TupAny
import PyProof.FitsInt
import HandS.Exc
import HandS.ExcOwn
import HandS.ExcIs
import HandS.TryOnly
import PySem.Challenge.RW_lettersonce_k10_unfold
set_option Elab.async false
set_option linter.all false
set_option maxRecDepth 100000
set_option maxHeartbeats 4000000
namespace TyNe
open PySem PySem.Spec PyProof.Rows L2 PySem.TypeEq Builtin

theorem slot_type_ne : Slot "type" (cmpInfo .NotEq).2.1 "object.__ne__" :=
  .of (owner := "object") (n := "__ne__") (by rw [typeLookup_type, builtinLookup_eq_fast]; kernel_rfl) (by decide +kernel) (by decide +kernel) (by decide +kernel)
    (by first | exact .inl (by decide +kernel) | exact .inr (by decide +kernel)) (by rw [isSubtype_type]; kernel_rfl)
theorem slot_type_ne_refl : Slot "type" (cmpInfo .NotEq).2.2 "object.__ne__" :=
  .of (owner := "object") (n := "__ne__") (by rw [typeLookup_type, builtinLookup_eq_fast]; kernel_rfl) (by decide +kernel) (by decide +kernel) (by decide +kernel)
    (by first | exact .inl (by decide +kernel) | exact .inr (by decide +kernel)) (by rw [isSubtype_type]; kernel_rfl)
theorem slot_type_eq' : Slot "type" "__eq__" "object.__eq__" := slot_type_eq
section
variable {prog : Program} {w : World} {A : Around} {E : Value → Shared → Prop} {s : Shared}
theorem ne_entry_same {X : String} (hX : ∀ s' : Shared, s'.TypeIs (.type X) "type") {Q : Fin → Shared → Prop} (h : Q (.done (.ret (.bool false))) s) :
    wpAny (model prog w) A (Builtin.«object.__ne__» ⟨[.type X, .type X], []⟩) Q E s := by
  unfold Builtin.«object.__ne__»
  repeat (first
    | with_reducible refine wpAny_cRoomFor_or (.inl rfl) ?_
    | (refine wpAny_bind (m := callSpecialIfBound? (.type X) (Str.ofString "__eq__") [.type X]) (wpAny_callSpecialIfBound?_slot (hX s) slot_type_eq'
        (call_gives slot_type_eq' (hX s) F.entry_object_eq (F.args_object_eq_2 _ _) (object_eq_same rfl (by simp)) ?_)))
    | wp_step)
  show wpAny _ A _ Q E s
  repeat (first | exact h | exact wpAny_pure h | (refine wpAny_bind (m := truthy (.bool _)) (wpAny_truthy_bool ?_)) | wp_step)
theorem ne_entry_other {X Y : String} (hX : ∀ s' : Shared, s'.TypeIs (.type X) "type") (hne : (Value.type X == Value.type Y) = false) {Q : Fin → Shared → Prop} (h : Q (.done (.ret .notImplemented)) s) :
    wpAny (model prog w) A (Builtin.«object.__ne__» ⟨[.type X, .type Y], []⟩) Q E s := by
  unfold Builtin.«object.__ne__»
  repeat (first
    | with_reducible refine wpAny_cRoomFor_or (.inl rfl) ?_
    | (refine wpAny_bind (m := callSpecialIfBound? (.type X) (Str.ofString "__eq__") [.type Y]) (wpAny_callSpecialIfBound?_slot (hX s) slot_type_eq'
        (call_gives slot_type_eq' (hX s) F.entry_object_eq (F.args_object_eq_2 _ _) (object_eq_other rfl hne) ?_)))
    | wp_step)
  show wpAny _ A _ Q E s
  repeat (first | exact h | exact wpAny_pure h | wp_step)
theorem call_ne_same {X : String} (hX : ∀ s' : Shared, s'.TypeIs (.type X) "type") {Q : Value → Shared → Prop} (h : Q (.bool false) s) :
    wpAny (model prog w) A (call (.builtin "object.__ne__") [.type X, .type X]) Q E s :=
  wpAny_call_entry slot_type_ne (hX s) F.cmpEntry_ne (ne_entry_same hX ⟨_, rfl, h⟩) (F.cmpArgs_ne _ _)
theorem call_ne_other {X Y : String} (hX : ∀ s' : Shared, s'.TypeIs (.type X) "type") (hne : (Value.type X == Value.type Y) = false) {Q : Value → Shared → Prop} (h : Q .notImplemented s) :
    wpAny (model prog w) A (call (.builtin "object.__ne__") [.type X, .type Y]) Q E s :=
  wpAny_call_entry slot_type_ne (hX s) F.cmpEntry_ne (ne_entry_other hX hne ⟨_, rfl, h⟩) (F.cmpArgs_ne _ _)
theorem ne_type_same {Q : Value → Shared → Prop} {X : String} (hX : ∀ s' : Shared, s'.TypeIs (.type X) "type") (h : Q (.bool false) s) : wpAny (model prog w) A (compareOp .NotEq (.type X) (.type X)) Q E s := by
  show wpAny _ A (richCompare .NotEq _ _) Q E s
  exact wpAny_richCompare_same (T := "type") (hX s) (hX s) slot_type_ne (call_ne_same hX ⟨(by intro e; cases e), h⟩)
theorem rich_ne_decline {M : Model} {a b : Value} {T id : String} {k : Bool} {Q : Value → Shared → Prop} (ha : ∀ s' : Shared, s'.TypeIs a T) (hb : ∀ s' : Shared, s'.TypeIs b T)
    (h1 : Slot T (cmpInfo .NotEq).2.1 id) (h2 : Slot T (cmpInfo .NotEq).2.2 id) (hv : [a, b].any Value.onHeap = false) (hk : isSame a b = pure k)
    (hc : wpAny M A (call (.builtin id) [a, b]) (fun v s₁ => v = .notImplemented ∧ wpAny M A (call (.builtin id) [b, a]) (fun v s₂ => v = .notImplemented ∧ Q (.bool (!k)) s₂) E s₁) E s) :
    wpAny M A (richCompare .NotEq a b) Q E s := by
  rcases hi : cmpInfo CmpOp.NotEq with ⟨sym, f, r⟩
  rw [hi] at h1 h2
  simp only [richCompare, hi, (ha s).oneThing_none]
  try with_reducible refine wpAny_holding ?_
  refine wpAny_bind (wpAny_cRoomFor_or (.inl hv) ?_)
  refine wpAny_bind (wpAny_typeOf (ha s) (wpAny_bind (wpAny_typeOf (hb s) ?_)))
  simp only [bne_self_eq_false, Bool.false_eq_true, if_false, pure_bind, Bool.not_false, if_true]
  refine wpAny_bind (m := tryCompare a _ b) (wpAny_tryCompare_declines (ha s) h1 (wpAny_mono hc (fun v s₁ h₁ => ⟨h₁.1, ?_⟩) fun _ _ x => x))
  refine wpAny_bind (m := tryCompare b _ a) (wpAny_tryCompare_declines (hb s₁) h2 (wpAny_mono h₁.2 (fun v s₂ h₂ => ⟨h₂.1, ?_⟩) fun _ _ x => x))
  refine wpAny_bind (wpAny_rule (wpAny_bind (wpAny_of_eq hk (wpAny_pure h₂.2))))
theorem ne_type_other {Q : Value → Shared → Prop} {X Y : String} (hX : ∀ s' : Shared, s'.TypeIs (.type X) "type") (hY : ∀ s' : Shared, s'.TypeIs (.type Y) "type") (hne : (Value.type X == Value.type Y) = false) (h : Q (.bool true) s) : wpAny (model prog w) A (compareOp .NotEq (.type X) (.type Y)) Q E s := by
  have hne' : (Value.type Y == Value.type X) = false := by
    rw [Bool.eq_false_iff] at hne ⊢
    intro e
    exact hne (by rw [beq_iff_eq] at e ⊢; exact e.symm)
  show wpAny _ A (richCompare .NotEq _ _) Q E s
  exact rich_ne_decline (T := "type") (k := false) hX hY slot_type_ne slot_type_ne_refl rfl (by rw [isSame_plain rfl, hne])
    (call_ne_other hX hne ⟨rfl, call_ne_other hY hne' ⟨rfl, h⟩⟩)
end
/-- the types whose own type is plainly `type` -/
def Ty9 (a : String) : Prop := ∀ s' : Shared, s'.TypeIs (.type a) "type"
section
variable {X : Cx}
def rEqTy : R2 := fun x y H Q => ∃ a b, x = .ty a ∧ y = .ty b ∧ Ty9 a ∧ Ty9 b ∧ Q (.bl (decide (a = b))) H
def rNeTy : R2 := fun x y H Q => ∃ a b, x = .ty a ∧ y = .ty b ∧ Ty9 a ∧ Ty9 b ∧ Q (.bl (!decide (a = b))) H
theorem op_eqTy : OpR X (compareOp .Eq) rEqTy := by
  intro pins s σ H x y v u Q I rx ry h
  obtain ⟨a, b, rfl, rfl, ta, tb, q⟩ := h
  cases (show v = Value.type a from rx)
  cases (show u = Value.type b from ry)
  by_cases e : a = b
  · subst e
    exact eq_type_same ta (fin_bl I q (by simp))
  · exact eq_type_other ta tb (by rw [ty_beq]; exact decide_eq_false e) (fin_bl I q (by simp [e]))
theorem op_neTy : OpR X (compareOp .NotEq) rNeTy := by
  intro pins s σ H x y v u Q I rx ry h
  obtain ⟨a, b, rfl, rfl, ta, tb, q⟩ := h
  cases (show v = Value.type a from rx)
  cases (show u = Value.type b from ry)
  by_cases e : a = b
  · subst e
    exact ne_type_same ta (fin_bl I q (by simp))
  · exact ne_type_other ta tb (by rw [ty_beq]; exact decide_eq_false e) (fin_bl I q (by simp [e]))
end
end TyNe

namespace Wp
open PySem PySem.Spec PyProof.Rows L2 TyNe

/-! ### the rules' readings under short names -/
abbrev qAdd : R2 := rI0 fun i j => .int (i + j)
abbrev qSub : R2 := rI0 fun i j => .int (i - j)
abbrev qMul : R2 := rI CMul fun i j => .int (i * j)
abbrev qFdiv : R2 := rI CDiv fun i j => .int (i / j)
abbrev qMod : R2 := rI (fun _ j => 0 < j) fun i j => .int (i % j)
abbrev qPow : R2 := rI CPow fun i j => .int (i ^ j.toNat)
abbrev qNeg : V → Hp → VK → Prop := rU fun i => .int (-i)
abbrev qLt : R2 := rI0 fun i j => .bl (decide (i < j))
abbrev qLe : R2 := rI0 fun i j => .bl (decide (i ≤ j))
abbrev qGt : R2 := rI0 fun i j => .bl (decide (j < i))
abbrev qGe : R2 := rI0 fun i j => .bl (decide (j ≤ i))
abbrev qAddS : R2 := fun x y H Q => ∃ i j, x = .str i ∧ y = .str j ∧ i.length + j.length ≤ sizeLine ∧ Q (.str (i ++ j)) H
abbrev qInSign : R2 := fun x y H Q => ∃ (c : Nat) (z : Str), x = .str ⟨#[c]⟩ ∧ y = .str z ∧ Q (.bl (decide (c ∈ z.cps.toList))) H
abbrev qNinSign : R2 := fun x y H Q => ∃ (c : Nat) (z : Str), x = .str ⟨#[c]⟩ ∧ y = .str z ∧ Q (.bl (!decide (c ∈ z.cps.toList))) H
abbrev qLtS : R2 := fun x y H Q => ∃ i j, x = .str i ∧ y = .str j ∧ Q (.bl (decide (i.cps.toList < j.cps.toList))) H
abbrev qLeS : R2 := fun x y H Q => ∃ i j, x = .str i ∧ y = .str j ∧ Q (.bl (!decide (j.cps.toList < i.cps.toList))) H
abbrev qGtS : R2 := fun x y H Q => ∃ i j, x = .str i ∧ y = .str j ∧ Q (.bl (decide (j.cps.toList < i.cps.toList))) H
abbrev qGeS : R2 := fun x y H Q => ∃ i j, x = .str i ∧ y = .str j ∧ Q (.bl (!decide (i.cps.toList < j.cps.toList))) H
abbrev qIsBl : R2 := fun x y H Q => ∃ a b, x = .bl a ∧ y = .bl b ∧ Q (.bl (decide (a = b))) H
abbrev qLenStr : List V → Hp → VK → Prop := fun xs H Q => ∃ z, xs = [.str z] ∧ z.length ≤ sizeLine ∧ Q (.int z.length) H
abbrev qLenSeq (K : PySem.W.Frag) : List V → Hp → VK → Prop := fun xs H Q => ∃ p ys, xs = [.ref p] ∧ (SqL K H p ys ∨ SqT K H p ys) ∧ Q (.int ys.length) H
abbrev qInt1 : List V → Hp → VK → Prop := fun xs H Q => (∃ i, xs = [.int i] ∧ Q (.int i) H) ∨ ∃ k, xs = [.bl k] ∧ Q (.int (if k then 1 else 0)) H
abbrev qStrInt : List V → Hp → VK → Prop := fun xs H Q => ∃ i : Int, xs = [.int i] ∧ i.natAbs.log2 < 1920 ∧ Q (.str (toString i)) H
abbrev qTupleOf (K : PySem.W.Frag) : List V → Hp → VK → Prop := fun xs H Q => ∃ p ys, xs = [.ref p] ∧ ((SqL K H p ys ∧ ∀ l, H l = none → Q (.ref l) (upd H l (.tup ys))) ∨ (SqT K H p ys ∧ Q (.ref p) H))
abbrev qListOf (K : PySem.W.Frag) : List V → Hp → VK → Prop := fun xs H Q => ∃ p ys, xs = [.ref p] ∧ (SqL K H p ys ∨ SqT K H p ys) ∧ ∀ l, H l = none → Q (.ref l) (upd H l (.lst ys))
abbrev qIsN : R2 := fun x y H Q => y = .non ∧ Q (.bl (decide (x = .non))) H
abbrev qNotN : R2 := fun x y H Q => y = .non ∧ Q (.bl (!decide (x = .non))) H
abbrev qMax2 : List V → Hp → VK → Prop := fun xs H Q => ∃ i j, xs = [.int i, .int j] ∧ Q (.int (if j > i then j else i)) H
abbrev qMin2 : List V → Hp → VK → Prop := fun xs H Q => ∃ i j, xs = [.int i, .int j] ∧ Q (.int (if j < i then j else i)) H

/-! ### heaps -/
/-- what was tracked stands as it stood, but p -/
def Kp (p : Addr) (H H' : Hp) : Prop := ∀ b o, b ≠ p → H b = some o → H' b = some o
theorem Same.kp {p : Addr} {H H' : Hp} (h : Same H H') : Kp p H H' := fun b o _ e => h b o e
theorem Kp.refl {p : Addr} {H : Hp} : Kp p H H := fun _ _ _ e => e
theorem Kp.trans {p : Addr} {H H1 H2 : Hp} (a : Kp p H H1) (b : Kp p H1 H2) : Kp p H H2 := fun c o n e => b c o n (a c o n e)
theorem Kp.get {p : Addr} {H H' : Hp} (h : Kp p H H') {b : Addr} {o : HO} (n : b ≠ p) (e : H b = some o) : H' b = some o := h b o n e
theorem Kp.updp {p : Addr} {H H' : Hp} {o : HO} (h : Kp p H H') : Kp p H (upd H' p o) := fun b u n e => by
  rw [upd_ne n]
  exact h b u n e
theorem Kp.upd {p a : Addr} {H H' : Hp} {o : HO} (h : Kp p H H') (n : H a = none) : Kp p H (upd H' a o) := fun b u m e => by
  rw [upd_ne (ne_of_none e n)]
  exact h b u m e
theorem Same.upd {a : Addr} {H H' : Hp} {o : HO} (h : Same H H') (n : H a = none) : Same H (L2.upd H' a o) := fun b u e => by
  rw [upd_ne (ne_of_none e n)]
  exact h b u e
theorem Kp.same {p : Addr} {H H' : Hp} (h : Kp p H H') (n : H p = none) : Same H H' := fun b o e => h b o (ne_of_none e n) e
theorem Kp.free {p a : Addr} {H H' : Hp} (h : Kp p H H') (n : a ≠ p) (e : H' a = none) : H a = none := by
  cases q : H a with
  | none => rfl
  | some o => rw [h a o n q] at e; cases e
/-- a stream -/
def Stm (H : Hp) (p : Addr) : Prop := ∃ a b : Int, H p = some (.lst [.int a, .int b]) ∧ 0 ≤ a ∧ 0 ≤ b
theorem Stm.ne {H : Hp} {p a : Addr} (h : Stm H p) (e : H a = none) : a ≠ p := by
  obtain ⟨x, y, h, _⟩ := h
  exact (ne_of_none h e).symm
theorem Stm.same {H H' : Hp} {p : Addr} (h : Stm H p) (s : Same H H') : Stm H' p := by
  obtain ⟨x, y, h, r⟩ := h
  exact ⟨x, y, s _ _ h, r⟩
theorem Stm.up {H : Hp} {p a : Addr} {o : HO} (h : Stm H p) (e : H a = none) : Stm (L2.upd H a o) p := by
  obtain ⟨x, y, h, r⟩ := h
  exact ⟨x, y, by rw [upd_ne (ne_of_none h e)]; exact h, r⟩

/-! ### steps, in the order of the reading -/
section
variable {K : PySem.W.Frag} {σ : L2.St} {H : Hp} {Q : VK} {v : V} {ta tb tc te : TE} {tt uu : TT} {r r' : R2} {D : Ends} {t u : TS}
theorem w_var {i : Nat} (h : σ[i]? = some (some v)) (q : Q v H) : tVar i σ H Q := ⟨v, h, q⟩
theorem w_c (q : Q v H) : tC v σ H Q := q
theorem w_op (q : ta σ H fun x H1 => tb σ H1 fun y H2 => r x y H2 Q) : tOp r ta tb σ H Q := q
theorem w_un {r : V → Hp → VK → Prop} (q : ta σ H fun x H1 => r x H1 Q) : tUn r ta σ H Q := q
theorem w_I0 {g : Int → Int → V} {i j : Int} (q : Q (g i j) H) : rI0 g (.int i) (.int j) H Q := ⟨i, j, rfl, rfl, q⟩
theorem w_I {C : Int → Int → Prop} {g : Int → Int → V} {i j : Int} (c : C i j) (q : Q (g i j) H) : rI C g (.int i) (.int j) H Q := ⟨i, j, rfl, rfl, c, q⟩
theorem w_U {g : Int → V} {i : Int} (q : Q (g i) H) : rU g (.int i) H Q := ⟨i, rfl, q⟩
theorem w_eqI {i j : Int} (q : Q (.bl (decide (i = j))) H) : rEq (.int i) (.int j) H Q := ⟨rfl, by
  have e : decide (V.int i = V.int j) = decide (i = j) := by rw [decide_eq_decide]; exact ⟨fun z => V.int.inj z, fun z => by rw [z]⟩
  rw [e]; exact q⟩
theorem w_neI {i j : Int} (q : Q (.bl (decide (i ≠ j))) H) : rNe (.int i) (.int j) H Q := ⟨rfl, by
  have e : (!decide (V.int i = V.int j)) = decide (i ≠ j) := by rw [decide_not]; congr 1; rw [decide_eq_decide]; exact ⟨fun z => V.int.inj z, fun z => by rw [z]⟩
  rw [e]; exact q⟩
theorem w_eqS {i j : Str} (q : Q (.bl (decide (i = j))) H) : rEq (.str i) (.str j) H Q := ⟨rfl, by
  have e : decide (V.str i = V.str j) = decide (i = j) := by rw [decide_eq_decide]; exact ⟨fun z => V.str.inj z, fun z => by rw [z]⟩
  rw [e]; exact q⟩
theorem w_neS {i j : Str} (q : Q (.bl (decide (i ≠ j))) H) : rNe (.str i) (.str j) H Q := ⟨rfl, by
  have e : (!decide (V.str i = V.str j)) = decide (i ≠ j) := by rw [decide_not]; congr 1; rw [decide_eq_decide]; exact ⟨fun z => V.str.inj z, fun z => by rw [z]⟩
  rw [e]; exact q⟩
theorem w_eqB {i j : Bool} (q : Q (.bl (decide (i = j))) H) : rEq (.bl i) (.bl j) H Q := ⟨rfl, by
  have e : decide (V.bl i = V.bl j) = decide (i = j) := by rw [decide_eq_decide]; exact ⟨fun z => V.bl.inj z, fun z => by rw [z]⟩
  rw [e]; exact q⟩
theorem w_eqTy {a b : String} (ha : Ty9 a) (hb : Ty9 b) (q : Q (.bl (decide (a = b))) H) : rEqTy (.ty a) (.ty b) H Q := ⟨a, b, rfl, rfl, ha, hb, q⟩
theorem w_neTy {a b : String} (ha : Ty9 a) (hb : Ty9 b) (q : Q (.bl (decide (a ≠ b))) H) : rNeTy (.ty a) (.ty b) H Q := ⟨a, b, rfl, rfl, ha, hb, by rw [← decide_not]; exact q⟩
theorem w_addS {i j : Str} (h : i.length + j.length ≤ sizeLine) (q : Q (.str (i ++ j)) H) : qAddS (.str i) (.str j) H Q := ⟨i, j, rfl, rfl, h, q⟩
theorem w_inSign {c : Nat} {z : Str} (q : Q (.bl (decide (c ∈ z.cps.toList))) H) : qInSign (.str ⟨#[c]⟩) (.str z) H Q := ⟨c, z, rfl, rfl, q⟩
theorem w_ninSign {c : Nat} {z : Str} (q : Q (.bl (!decide (c ∈ z.cps.toList))) H) : qNinSign (.str ⟨#[c]⟩) (.str z) H Q := ⟨c, z, rfl, rfl, q⟩
theorem w_ixL {p : Addr} {xs : List V} {i : Int} (h : SqL K H p xs) (ha : atI xs i = some v) (q : Q v H) : rIxL K (.ref p) (.int i) H Q := ⟨p, xs, i, v, rfl, rfl, h, ha, q⟩
theorem w_ixT {p : Addr} {xs : List V} {i : Int} (h : SqT K H p xs) (ha : atI xs i = some v) (q : Q v H) : rIxT K (.ref p) (.int i) H Q := ⟨p, xs, i, v, rfl, rfl, h, ha, q⟩
theorem w_ixS {z : Str} {i : Int} {c : Nat} (h : z.length ≤ sizeLine) (ha : atI z.cps.toList i = some c) (q : Q (.str ⟨#[c]⟩) H) : rIxS (.str z) (.int i) H Q := ⟨z, i, c, rfl, rfl, h, ha, q⟩
theorem w_nil {R : List V → Hp → Prop} (q : R [] H) : tNil σ H R := q
theorem w_cons {tr : TA} {R : List V → Hp → Prop} (q : ta σ H fun x H1 => tr σ H1 fun xs H2 => R (x :: xs) H2) : tCons ta tr σ H R := q
theorem w_tup {tr : TA} (q : tr σ H fun xs H1 => xs.length ≤ sizeLine ∧ ∀ p, H1 p = none → Q (.ref p) (upd H1 p (.tup xs))) : tTup tr σ H Q := q
theorem w_lst {tr : TA} (q : tr σ H fun xs H1 => xs.length ≤ sizeLine ∧ ∀ p, H1 p = none → Q (.ref p) (upd H1 p (.lst xs))) : tLst tr σ H Q := q
theorem w_cb {r : List V → Hp → VK → Prop} {tr : TA} (q : tr σ H fun vs H1 => r vs H1 Q) : tCB r tr σ H Q := q
theorem w_lenStr {z : Str} (h : z.length ≤ sizeLine) (q : Q (.int z.length) H) : qLenStr [.str z] H Q := ⟨z, rfl, h, q⟩
theorem w_lenL {p : Addr} {xs : List V} (h : SqL K H p xs) (q : Q (.int xs.length) H) : qLenSeq K [.ref p] H Q := ⟨p, xs, rfl, .inl h, q⟩
theorem w_lenT {p : Addr} {xs : List V} (h : SqT K H p xs) (q : Q (.int xs.length) H) : qLenSeq K [.ref p] H Q := ⟨p, xs, rfl, .inr h, q⟩
theorem w_int1 {i : Int} (q : Q (.int i) H) : qInt1 [.int i] H Q := .inl ⟨i, rfl, q⟩
theorem w_int1b {c : Prop} [Decidable c] (q : Q (.int (if c then 1 else 0)) H) : qInt1 [.bl (decide c)] H Q := .inr ⟨_, rfl, by
  by_cases h : c
  · simp only [h, decide_true, if_true] at q ⊢; exact q
  · simp only [h, decide_false, if_false, Bool.false_eq_true] at q ⊢; exact q⟩
theorem w_strInt {i : Int} (h0 : 0 ≤ i) (h1 : i ≤ 100000000000000000000) (q : Q (.str (toString i)) H) : qStrInt [.int i] H Q := ⟨i, rfl, by
  have h2 : i.natAbs ≤ 100000000000000000000 := by omega
  have h3 : i.natAbs.log2 < 67 := by
    by_cases h : i.natAbs = 0
    · rw [h]; decide
    · exact (Nat.log2_lt h).mpr (Nat.lt_of_le_of_lt h2 (by decide))
  omega, q⟩
theorem w_tupleOfL {p : Addr} {ys : List V} (h : SqL K H p ys) (q : ∀ l, H l = none → Q (.ref l) (upd H l (.tup ys))) : qTupleOf K [.ref p] H Q := ⟨p, ys, rfl, .inl ⟨h, q⟩⟩
theorem w_tupleOfT {p : Addr} {ys : List V} (h : SqT K H p ys) (q : Q (.ref p) H) : qTupleOf K [.ref p] H Q := ⟨p, ys, rfl, .inr ⟨h, q⟩⟩
theorem w_listOf {p : Addr} {ys : List V} (h : SqL K H p ys ∨ SqT K H p ys) (q : ∀ l, H l = none → Q (.ref l) (upd H l (.lst ys))) : qListOf K [.ref p] H Q := ⟨p, ys, rfl, h, q⟩
theorem w_isN (q : Q (.bl (decide (v = .non))) H) : qIsN v .non H Q := ⟨rfl, q⟩
theorem w_notN (q : Q (.bl (!decide (v = .non))) H) : qNotN v .non H Q := ⟨rfl, q⟩
theorem w_bm {T : String} {r : V → List V → Hp → VK → Prop} {tr : TA} (q : te σ H fun x H1 => tyV K T x H1 ∧ tr σ H1 fun xs H2 => r x xs H2 Q) : tBM K T r te tr σ H Q := q
theorem w_tyL {p : Addr} {xs : List V} {A : Prop} (h : H p = some (.lst xs)) (q : A) : tyV K "list" (.ref p) H ∧ A := ⟨.inl ⟨rfl, xs, SqL.of h⟩, q⟩
theorem w_app {p : Addr} {xs : List V} (h : H p = some (.lst xs)) (z : xs.length < sizeLine) (q : Q .non (upd H p (.lst (xs ++ [v])))) : rAppend (.ref p) [v] H Q := ⟨p, xs, v, rfl, rfl, h, z, q⟩
theorem w_inL {neg : Bool} {p : Addr} {xs : List V} (h : SqL K H p xs) (f : flatV v = true) (fs : xs.all flatV = true) (q : Q (.bl (if neg then !inV v xs else inV v xs)) H) : rIn K neg v (.ref p) H Q := ⟨p, xs, rfl, .inl h, f, fs, q⟩
theorem w_inT {neg : Bool} {p : Addr} {xs : List V} (h : SqT K H p xs) (f : flatV v = true) (fs : xs.all flatV = true) (q : Q (.bl (if neg then !inV v xs else inV v xs)) H) : rIn K neg v (.ref p) H Q := ⟨p, xs, rfl, .inr h, f, fs, q⟩
theorem inV_strs (z : Str) (ys : List Str) : inV (.str z) (ys.map V.str) = decide (z ∈ ys) := by
  unfold inV
  rw [List.any_map, Bool.eq_iff_iff, List.any_eq_true, decide_eq_true_eq]
  constructor
  · rintro ⟨y, hy, e⟩
    have e' : (y == z) = true := e
    rw [beq_iff_eq] at e'
    exact e' ▸ hy
  · intro h
    refine ⟨z, h, ?_⟩
    show (z == z) = true
    exact beq_self_eq_true z
theorem flat_strs (ys : List Str) : (ys.map V.str).all flatV = true := by
  rw [List.all_map, List.all_eq_true]
  intro y _
  rfl
theorem w_max2 {i j : Int} (q : Q (.int (if j > i then j else i)) H) : qMax2 [.int i, .int j] H Q := ⟨i, j, rfl, q⟩
theorem w_min2 {i j : Int} (q : Q (.int (if j < i then j else i)) H) : qMin2 [.int i, .int j] H Q := ⟨i, j, rfl, q⟩
theorem w_test {R : Bool → Hp → Prop} (q : te σ H fun x H' => ∃ k, x = .bl k ∧ R k H') : tTest te σ H R := q
theorem w_B {R : Bool → Hp → Prop} (q : te σ H fun x H' => ∃ k, x = .bl k ∧ R k H') : tB te σ H R := q
theorem w_exb {b : Bool} {R : Bool → Prop} (q : R b) : ∃ k, V.bl b = .bl k ∧ R k := ⟨b, rfl, q⟩
theorem w_and {R : Bool → Hp → Prop} (q : tt σ H fun c H1 => if c = true then uu σ H1 R else R false H1) : tAnd tt uu σ H R := q
theorem w_or {R : Bool → Hp → Prop} (q : tt σ H fun c H1 => if c = true then R true H1 else uu σ H1 R) : tOr tt uu σ H R := q
theorem w_not {R : Bool → Hp → Prop} (q : tt σ H fun c H1 => R (!c) H1) : tNot tt σ H R := q
theorem w_andV (q : ta σ H fun x H1 => ∃ c, x = .bl c ∧ if c = true then tb σ H1 Q else Q (.bl false) H1) : tAndV ta tb σ H Q := q
theorem w_orV (q : ta σ H fun x H1 => ∃ c, x = .bl c ∧ if c = true then Q (.bl true) H1 else tb σ H1 Q) : tOrV ta tb σ H Q := q
theorem w_notV (q : ta σ H fun x H1 => ∃ c, x = .bl c ∧ Q (.bl (!c)) H1) : tNotV ta σ H Q := q
theorem w_if (q : tt σ H fun c H1 => if c = true then ta σ H1 Q else tb σ H1 Q) : tIf tt ta tb σ H Q := q
theorem w_chain (q : ta σ H fun x H1 => tb σ H1 fun y H2 => r x y H2 fun z H3 => ∃ k, z = .bl k ∧ (if k = true then tc σ H3 fun w' H4 => r' y w' H4 Q else Q (.bl false) H3)) : tChain r r' ta tb tc σ H Q := q
theorem w_ifS (q : tt σ H fun b H1 => if b = true then t D σ H1 else u D σ H1) : tIfS tt t u D σ H := q
theorem w_ifCut {Mid : L2.St → Hp → Prop} (k : ∀ σ' H', Mid σ' H' → D.nx σ' H') (q : ∀ R : L2.St → Hp → Prop, (∀ σ' H', Mid σ' H' → R σ' H') → tIfS tt t u { D with nx := R } σ H) : tIfS tt t u D σ H := q _ k
theorem cmul_l {i j : Int} (h0 : -1000000000000 ≤ i) (h1 : i ≤ 1000000000000) : CMul i j := .inl ⟨by omega, by omega⟩
theorem cmul_r {i j : Int} (h0 : -1000000000000 ≤ j) (h1 : j ≤ 1000000000000) : CMul i j := .inr ⟨by omega, by omega⟩
theorem w_ite {c A B : Prop} [Decidable c] (h1 : c → A) (h2 : ¬ c → B) : if decide c = true then A else B := by
  by_cases h : c
  · rw [if_pos (decide_eq_true h)]; exact h1 h
  · rw [if_neg (by rw [decide_eq_true_iff]; exact h)]; exact h2 h
theorem w_iteN {c A B : Prop} [Decidable c] (h1 : ¬ c → A) (h2 : c → B) : if (!decide c) = true then A else B := by
  by_cases h : c
  · rw [decide_eq_true h, if_neg (by decide)]; exact h2 h
  · rw [decide_eq_false h]; exact h1 h
theorem w_iteb {b : Bool} {A B : Prop} (h1 : b = true → A) (h2 : b = false → B) : if b = true then A else B := by
  cases b
  · rw [if_neg (by decide)]; exact h2 rfl
  · rw [if_pos rfl]; exact h1 rfl
theorem w_seq (q : t { D with nx := u D } σ H) : tSeq t u D σ H := q
theorem w_next (q : D.nx σ H) : tNext D σ H := q
theorem w_asg {g : TG} (q : te σ H fun x H1 => g x σ H1 D.nx) : tAsg te g D σ H := q
theorem w_name {i : Nat} {R : L2.St → Hp → Prop} (q : R (σ.set i (some v)) H) : gName i v σ H R := q
theorem w_sub {to ti : TE} {ts : TSet} {R : L2.St → Hp → Prop} (q : to σ H fun o H1 => ti σ H1 fun i H2 => ts o i v H2 fun H3 => R σ H3) : gSub to ti ts v σ H R := q
theorem w_setL {p : Addr} {xs : List V} {k : Int} {j : Nat} {R : Hp → Prop} (h : H p = some (.lst xs)) (hj : ixN xs.length k = some j) (q : R (upd H p (.lst (xs.set j v)))) : rSetL (.ref p) (.int k) v H R := ⟨p, xs, k, j, rfl, rfl, h, hj, q⟩
theorem w_ret (q : te σ H D.rt) : tRet te D σ H := q
theorem w_retN (q : D.rt .non H) : tRetN D σ H := q
theorem w_drop (q : te σ H fun _ H1 => D.nx σ H1) : tDrop te D σ H := q
theorem w_call {sp : Sp} {dvs : List V} {E : XK} {tr : TA} (q : tr σ H fun vs H1 => sp (vs ++ dvs) H1 Q E) : tCall sp dvs E tr σ H Q := q
theorem w_sl {r : V → Option Int → Option Int → Hp → VK → Prop} {tl th : TO} (q : te σ H fun x H1 => tl σ H1 fun l H2 => th σ H2 fun u H3 => r x l u H3 Q) : tSl r te tl th σ H Q := q
theorem w_noPart {R : Option Int → Hp → Prop} (q : R none H) : tNoPart σ H R := q
theorem w_part {R : Option Int → Hp → Prop} (q : te σ H fun x H1 => ∃ i, x = .int i ∧ R (some i) H1) : tPart te σ H R := q
theorem w_exi {i : Int} {R : Int → Prop} (q : R i) : ∃ k, V.int i = .int k ∧ R k := ⟨i, rfl, q⟩
theorem w_slS {z : Str} {lo hi : Option Int} (h : z.length ≤ sizeLine) (q : Q (.str (cutS z lo hi)) H) : rSlS (.str z) lo hi H Q := ⟨z, rfl, h, q⟩
theorem w_isi {x : V} {t : Value} {T : String} {b : Bool} (h : TyX K H x t) (k : PySem.W.kitOne K t (.type T) = some b) (q : Q (.bl b) H) : rIsi K [x, .ty T] H Q := ⟨x, _, t, _, b, rfl, .ty T, h, k, q⟩
theorem w_typ {x : V} {T : String} (h : TyB K H x T) (q : Q (.ty T) H) : rTyp K [x] H Q := ⟨x, T, rfl, h, q⟩
theorem w_cat {l b : Addr} {xs zs : List V} (h : H l = some (.lst xs)) (h' : H b = some (.lst zs)) (z : xs.length + zs.length ≤ sizeLine) (q : ∀ p, H p = none → Q (.ref p) (upd H p (.lst (xs ++ zs)))) : rCat (.ref l) (.ref b) H Q := ⟨l, b, xs, zs, rfl, rfl, h, h', z, q⟩
theorem w_isBl {a b : Bool} (q : Q (.bl (decide (a = b))) H) : qIsBl (.bl a) (.bl b) H Q := ⟨a, b, rfl, rfl, q⟩
theorem w_nf {A B : Prop} (q : A) : if (!false) = true then A else B := q
theorem w_nt {A B : Prop} (q : B) : if (!true) = true then A else B := q
theorem w_len0 {n : Nat} {A : Prop} (h : n ≤ sizeLine) (q : A) : n ≤ sizeLine ∧ A := ⟨h, q⟩
end
theorem sz {n : Nat} (h : n ≤ 100000) : n ≤ sizeLine := Nat.le_trans h (by decide)
theorem atI_of {α : Type} {xs : List α} {i : Int} {v : α} (h0 : 0 ≤ i) (h : xs[i.toNat]? = some v) : atI xs i = some v := by
  have e : ((i.toNat : Nat) : Int) = i := Int.toNat_of_nonneg h0
  rw [← e]
  exact atI_nat h
end Wp

namespace Wp
open PySem PySem.Spec PyProof.Rows L2 TyNe

/-! ### what is made of data -/
mutual
/-- v denotes d at H; every object on the way stands at an address that ok takes -/
inductive Dn (ok : Addr → Prop) (H : Hp) : V → PyData → Prop where
  | non : Dn ok H .non .none
  | bl (b : Bool) : Dn ok H (.bl b) (.bool b)
  | int (i : Int) : Dn ok H (.int i) (.int i)
  | str (x : Str) : Dn ok H (.str x) (.str x)
  | lst {a : Addr} {xs : List V} {ds : List PyData} (ha : ok a) (h : H a = some (.lst xs)) (hs : DnAll ok H xs ds) : Dn ok H (.ref a) (.list ds)
  | tup {a : Addr} {xs : List V} {ds : List PyData} (ha : ok a) (h : H a = some (.tup xs)) (hs : DnAll ok H xs ds) : Dn ok H (.ref a) (.tuple ds)
  | dic {a : Addr} {kvs : List (Key × V)} (ha : ok a) (h : H a = some (.dK kvs)) : Dn ok H (.ref a) (.dict [])
inductive DnAll (ok : Addr → Prop) (H : Hp) : List V → List PyData → Prop where
  | nil : DnAll ok H [] []
  | cons {v : V} {vs : List V} {d : PyData} {ds : List PyData} (h : Dn ok H v d) (hs : DnAll ok H vs ds) : DnAll ok H (v :: vs) (d :: ds)
end
mutual
theorem Dn.step {ok : Addr → Prop} {H H' : Hp} (k : ∀ a o, ok a → H a = some o → H' a = some o) {v : V} {d : PyData} : Dn ok H v d → Dn ok H' v d
  | .non => .non
  | .bl b => .bl b
  | .int i => .int i
  | .str x => .str x
  | .lst ha h hs => .lst ha (k _ _ ha h) (DnAll.step k hs)
  | .tup ha h hs => .tup ha (k _ _ ha h) (DnAll.step k hs)
  | .dic ha h => .dic ha (k _ _ ha h)
theorem DnAll.step {ok : Addr → Prop} {H H' : Hp} (k : ∀ a o, ok a → H a = some o → H' a = some o) {vs : List V} {ds : List PyData} : DnAll ok H vs ds → DnAll ok H' vs ds
  | .nil => .nil
  | .cons h hs => .cons (Dn.step k h) (DnAll.step k hs)
end
mutual
theorem Dn.weak {ok ok' : Addr → Prop} {H : Hp} (k : ∀ a o, ok a → H a = some o → ok' a) {v : V} {d : PyData} : Dn ok H v d → Dn ok' H v d
  | .non => .non
  | .bl b => .bl b
  | .int i => .int i
  | .str x => .str x
  | .lst ha h hs => .lst (k _ _ ha h) h (DnAll.weak k hs)
  | .tup ha h hs => .tup (k _ _ ha h) h (DnAll.weak k hs)
  | .dic ha h => .dic (k _ _ ha h) h
theorem DnAll.weak {ok ok' : Addr → Prop} {H : Hp} (k : ∀ a o, ok a → H a = some o → ok' a) {vs : List V} {ds : List PyData} : DnAll ok H vs ds → DnAll ok' H vs ds
  | .nil => .nil
  | .cons h hs => .cons (Dn.weak k h) (DnAll.weak k hs)
end
/-- off the address p -/
abbrev Off (p : Addr) : Addr → Prop := fun a => a ≠ p
abbrev Any : Addr → Prop := fun _ => True
theorem Dn.same {ok : Addr → Prop} {H H' : Hp} {v : V} {d : PyData} (h : Dn ok H v d) (s : Same H H') : Dn ok H' v d := h.step fun a o _ e => s a o e
theorem Dn.kp {p : Addr} {H H' : Hp} {v : V} {d : PyData} (h : Dn (Off p) H v d) (s : Kp p H H') : Dn (Off p) H' v d := h.step fun a o n e => s a o n e
theorem Dn.any {ok : Addr → Prop} {H : Hp} {v : V} {d : PyData} (h : Dn ok H v d) : Dn Any H v d := h.weak fun _ _ _ _ => trivial
theorem Dn.off {ok : Addr → Prop} {p : Addr} {H : Hp} {v : V} {d : PyData} (h : Dn ok H v d) (n : H p = none) : Dn (Off p) H v d := h.weak fun a o _ e => ne_of_none e n
theorem DnAll.same {ok : Addr → Prop} {H H' : Hp} {v : List V} {d : List PyData} (h : DnAll ok H v d) (s : Same H H') : DnAll ok H' v d := h.step fun a o _ e => s a o e
theorem DnAll.kp {p : Addr} {H H' : Hp} {v : List V} {d : List PyData} (h : DnAll (Off p) H v d) (s : Kp p H H') : DnAll (Off p) H' v d := h.step fun a o n e => s a o n e
theorem DnAll.any {ok : Addr → Prop} {H : Hp} {v : List V} {d : List PyData} (h : DnAll ok H v d) : DnAll Any H v d := h.weak fun _ _ _ _ => trivial
theorem DnAll.off {ok : Addr → Prop} {p : Addr} {H : Hp} {v : List V} {d : List PyData} (h : DnAll ok H v d) (n : H p = none) : DnAll (Off p) H v d := h.weak fun a o _ e => ne_of_none e n
theorem DnAll.len {ok : Addr → Prop} {H : Hp} : ∀ {vs : List V} {ds : List PyData}, DnAll ok H vs ds → vs.length = ds.length
  | _, _, .nil => rfl
  | _, _, .cons _ hs => congrArg (· + 1) (DnAll.len hs)
theorem DnAll.get {ok : Addr → Prop} {H : Hp} : ∀ {vs : List V} {ds : List PyData} {i : Nat} {v : V}, DnAll ok H vs ds → vs[i]? = some v → ∃ d, ds[i]? = some d ∧ Dn ok H v d
  | _, _, _, _, .nil, e => by simp at e
  | _, _, 0, _, .cons h _, e => by
    have e' := Option.some.inj e
    subst e'
    exact ⟨_, rfl, h⟩
  | _, _, i + 1, v, .cons _ hs, e => DnAll.get (i := i) hs e
theorem DnAll.app {ok : Addr → Prop} {H : Hp} : ∀ {vs ws : List V} {ds es : List PyData}, DnAll ok H vs ds → DnAll ok H ws es → DnAll ok H (vs ++ ws) (ds ++ es)
  | _, _, _, _, .nil, h => h
  | _, _, _, _, .cons h hs, h' => .cons h (DnAll.app hs h')
def tyN : PyData → String
  | .none => "NoneType" | .bool _ => "bool" | .int _ => "int" | .str _ => "str" | .list _ => "list" | .tuple _ => "tuple" | .dict _ => "dict"
theorem Dn.tyB {K : PySem.W.Frag} {ok : Addr → Prop} {H : Hp} {v : V} {d : PyData} (h : Dn ok H v d) : TyB K H v (tyN d) := by
  cases h with
  | non => exact .non
  | bl b => exact .bl b
  | int i => exact .int i
  | str x => exact .str x
  | lst ha h hs => exact .lst (SqL.of h)
  | tup ha h hs => exact .tup (SqT.of h)
  | dic ha h => exact .dK h
theorem Dn.tyX {K : PySem.W.Frag} {ok : Addr → Prop} {H : Hp} {v : V} {d : PyData} (h : Dn ok H v d) : TyX K H v (.type (tyN d)) := by
  cases h with
  | non => exact .base .non
  | bl b => exact .base (.bl b)
  | int i => exact .base (.int i)
  | str x => exact .base (.str x)
  | lst ha h hs => exact .base (.lst h)
  | tup ha h hs => exact .base (.tup h)
  | dic ha h => exact .base (.dK h)
theorem ty9 (d : PyData) : Ty9 (tyN d) := by
  cases d
  · exact TypeEq.meta_NoneType
  · exact TypeEq.meta_bool
  · exact TypeEq.meta_int
  · exact TypeEq.meta_str
  · exact TypeEq.meta_list
  · exact TypeEq.meta_tuple
  · exact TypeEq.meta_dict
theorem kit_str {K : PySem.W.Frag} (d : PyData) : PySem.W.kitOne K (.type (tyN d)) (.type "str") = some (decide (tyN d = "str")) := by
  have hh : ∀ a ∈ ["NoneType", "bool", "int", "str", "list", "tuple", "dict"], kitB a "str" = some (decide (a = "str")) := by decide +kernel
  exact kit_ty (hh _ (by cases d <;> simp [tyN]))
theorem kit_tuple {K : PySem.W.Frag} (d : PyData) : PySem.W.kitOne K (.type (tyN d)) (.type "tuple") = some (decide (tyN d = "tuple")) := by
  have hh : ∀ a ∈ ["NoneType", "bool", "int", "str", "list", "tuple", "dict"], kitB a "tuple" = some (decide (a = "tuple")) := by decide +kernel
  exact kit_ty (hh _ (by cases d <;> simp [tyN]))
theorem kit_list {K : PySem.W.Frag} (d : PyData) : PySem.W.kitOne K (.type (tyN d)) (.type "list") = some (decide (tyN d = "list")) := by
  have hh : ∀ a ∈ ["NoneType", "bool", "int", "str", "list", "tuple", "dict"], kitB a "list" = some (decide (a = "list")) := by decide +kernel
  exact kit_ty (hh _ (by cases d <;> simp [tyN]))
theorem kit_bool {K : PySem.W.Frag} (d : PyData) : PySem.W.kitOne K (.type (tyN d)) (.type "bool") = some (decide (tyN d = "bool")) := by
  have hh : ∀ a ∈ ["NoneType", "bool", "int", "str", "list", "tuple", "dict"], kitB a "bool" = some (decide (a = "bool")) := by decide +kernel
  exact kit_ty (hh _ (by cases d <;> simp [tyN]))
theorem kit_int {K : PySem.W.Frag} (d : PyData) : PySem.W.kitOne K (.type (tyN d)) (.type "int") = some (decide (tyN d = "int" ∨ tyN d = "bool")) := by
  have hh : ∀ a ∈ ["NoneType", "bool", "int", "str", "list", "tuple", "dict"], kitB a "int" = some (decide (a = "int" ∨ a = "bool")) := by decide +kernel
  exact kit_ty (hh _ (by cases d <;> simp [tyN]))

/-! ### loops -/
section
variable {K : PySem.W.Frag} {σ : L2.St} {H : Hp} {Q : VK} {ta : TA} {te : TE} {g : TG} {tb : TS} {D : Ends} {tt : TT}
theorem w_forR (q : ta σ H fun vs H1 => ∃ n : Int, vs = [.int n] ∧ -(2 ^ 62) ≤ n ∧ n < 2 ^ 62 ∧ ∃ Pv : Nat → L2.St → Hp → Prop, Pv 0 σ H1 ∧
    (∀ (i : Nat) σ H, (i : Int) < n → Pv i σ H → g (.int (i : Int)) σ H fun σ2 H2 => tb { D with nx := Pv (i + 1), ct := Pv (i + 1), bk := D.nx } σ2 H2) ∧ ∀ σ H, Pv n.toNat σ H → D.nx σ H)
    (mono : ∀ R R' : List V → Hp → Prop, (∀ vs H, R vs H → R' vs H) → ta σ H R → ta σ H R') : tFor (iRng1 ta) g tb D σ H := by
  refine mono _ _ (fun vs H1 h => ?_) q
  obtain ⟨n, rfl, h1, h2, Pv, p0, ps, pd⟩ := h
  refine ⟨n, rfl, h1, h2, for_range (lo := 0) (n := n.toNat) Pv p0 (fun i σ' H' hi p => ?_) pd⟩
  have e0 : (0 : Int) + (i : Int) = (i : Int) := Int.zero_add _
  rw [e0]
  exact ps i σ' H' (by omega) p
theorem w_for {wi : TI} (q : wi σ H fun J H1 => ∃ W : Nat → Nat → L2.St → Hp → Prop, (∃ m, W 0 m σ H1) ∧ ∀ i m σ H, W i m σ H →
  (J.stop i H ∧ D.nx σ H) ∨ (J.go i H ∧ ∃ N : L2.St → Hp → Prop, (∀ σ' H', N σ' H' → ∃ m', m' < m ∧ W (i + 1) m' σ' H') ∧ ∀ x H', J.yld i H x H' → g x σ H' fun σ2 H2 => tb { D with nx := N, ct := N, bk := D.nx } σ2 H2)) : tFor wi g tb D σ H := q
theorem w_iRng1 {R : It → Hp → Prop} (q : ta σ H fun vs H1 => ∃ j : Int, vs = [.int j] ∧ -(2 ^ 62) ≤ j ∧ j < 2 ^ 62 ∧ R (Itr 0 j.toNat) H1) : iRng1 ta σ H R := q
theorem w_iRng2 {R : It → Hp → Prop} (q : ta σ H fun vs H1 => ∃ i j : Int, vs = [.int i, .int j] ∧ (-(2 ^ 62) ≤ i ∧ i < 2 ^ 62 ∧ -(2 ^ 62) ≤ j ∧ j < 2 ^ 62) ∧ R (Itr i (j - i).toNat) H1) : iRng2 ta σ H R := q
theorem w_iList {R : It → Hp → Prop} (q : te σ H fun x H1 => ∃ a, x = .ref a ∧ (∃ xs, SqL K H1 a xs) ∧ R (Itl K a) H1) : iList K te σ H R := q
theorem w_iTup {R : It → Hp → Prop} (q : te σ H fun x H1 => ∃ a, x = .ref a ∧ (∃ xs, SqT K H1 a xs) ∧ R (Itt K a) H1) : iTup K te σ H R := q
theorem w_iStr {R : It → Hp → Prop} (q : te σ H fun v H1 => ∃ x, v = .str x ∧ R (Its x) H1) : iStr te σ H R := q
/-- the end of iRng1's reading in a for -/
theorem w_rng {n : Int} (h1 : -(2 ^ 62) ≤ n) (h2 : n < 2 ^ 62) (Pv : Nat → L2.St → Hp → Prop) (p0 : Pv 0 σ H)
    (ps : ∀ (i : Nat) σ H, (i : Int) < n → Pv i σ H → g (.int (i : Int)) σ H fun σ2 H2 => tb { D with nx := Pv (i + 1), ct := Pv (i + 1), bk := D.nx } σ2 H2) (pd : ∀ σ H, Pv n.toNat σ H → D.nx σ H) :
    ∃ j : Int, [V.int n] = [.int j] ∧ -(2 ^ 62) ≤ j ∧ j < 2 ^ 62 ∧ ∃ W : Nat → Nat → L2.St → Hp → Prop, (∃ m, W 0 m σ H) ∧ ∀ i m σ H, W i m σ H →
  ((Itr 0 j.toNat).stop i H ∧ D.nx σ H) ∨ ((Itr 0 j.toNat).go i H ∧ ∃ N : L2.St → Hp → Prop, (∀ σ' H', N σ' H' → ∃ m', m' < m ∧ W (i + 1) m' σ' H') ∧ ∀ x H', (Itr 0 j.toNat).yld i H x H' → g x σ H' fun σ2 H2 => tb { D with nx := N, ct := N, bk := D.nx } σ2 H2) := by
  refine ⟨n, rfl, h1, h2, for_range (lo := 0) (n := n.toNat) Pv p0 (fun i σ' H' hi p => ?_) pd⟩
  have e0 : (0 : Int) + (i : Int) = (i : Int) := Int.zero_add _
  rw [e0]
  exact ps i σ' H' (by omega) p
/-- the end of iList's reading in a for -/
theorem w_lstF {a : Addr} {xs : List V} (hx : SqL K H a xs) (Pv : Nat → L2.St → Hp → Prop) (p0 : Pv 0 σ H) (hl : ∀ i σ H, i ≤ xs.length → Pv i σ H → SqL K H a xs)
    (ps : ∀ i x σ H, xs[i]? = some x → Pv i σ H → g x σ H fun σ2 H2 => tb { D with nx := Pv (i + 1), ct := Pv (i + 1), bk := D.nx } σ2 H2) (pd : ∀ σ H, Pv xs.length σ H → D.nx σ H) :
    ∃ b, V.ref a = .ref b ∧ (∃ xs, SqL K H b xs) ∧ ∃ W : Nat → Nat → L2.St → Hp → Prop, (∃ m, W 0 m σ H) ∧ ∀ i m σ H, W i m σ H →
  ((Itl K b).stop i H ∧ D.nx σ H) ∨ ((Itl K b).go i H ∧ ∃ N : L2.St → Hp → Prop, (∀ σ' H', N σ' H' → ∃ m', m' < m ∧ W (i + 1) m' σ' H') ∧ ∀ x H', (Itl K b).yld i H x H' → g x σ H' fun σ2 H2 => tb { D with nx := N, ct := N, bk := D.nx } σ2 H2) :=
  ⟨a, rfl, ⟨xs, hx⟩, for_list (xs := xs) Pv p0 hl ps pd⟩
end
/-! ### comprehensions whose element and test leave all that was tracked -/
section
variable {K : PySem.W.Frag} {σ : L2.St} {H : Hp} {Q : VK} {te : TE} {tt : TT} {vs : List Nat} {g : TG}
theorem lc_fm {Qd : Addr → Hp → Prop} {J : It} {its : List V} {G : Hp → Prop} {Y : Nat → Hp → V → Hp → Prop} (w : Walk J its.length G Y) (hy : ∀ i H x H', i < its.length → Y i H x H' → H' = H ∧ its[i]? = some x)
    (hG : ∀ H1, Same H H1 → G H1) (f : V → V) (k : V → Bool) (bind : V → L2.St)
    (hg : ∀ x H1 (R : L2.St → Hp → Prop), R (bind x) H1 → g x (wipe σ vs) H1 R) (hw : ∀ x, wipe (bind x) vs = wipe σ vs)
    (ht : ∀ x ∈ its, ∀ H1, Same H H1 → ∀ R : Bool → Hp → Prop, (∀ H2, Same H1 H2 → R (k x) H2) → tt (bind x) H1 R)
    (he : ∀ x ∈ its, k x = true → ∀ H1, Same H H1 → ∀ R : VK, (∀ H2, Same H1 H2 → R (f x) H2) → te (bind x) H1 R)
    (hlen : its.length < sizeLine) (q : ∀ D H1, H D = none → Same H H1 → H1 D = some (.lst ((its.filter k).map f)) → Qd D H1) :
    ∀ D, H D = none → ∃ W : Nat → Nat → Hp → Prop, (∃ m, W 0 m (upd H D (.lst []))) ∧ ∀ i m H, W i m H →
  (J.stop i H ∧ Qd D H) ∨ (J.go i H ∧ ∃ Nx : Hp → Prop, (∀ H', Nx H' → ∃ m', m' < m ∧ W (i + 1) m' H') ∧ ∀ x H', J.yld i H x H' → g x (wipe σ vs) H' fun σ2 H2 => wipe σ2 vs = wipe σ vs ∧ tt σ2 H2 fun b H3 =>
    if b = true then te σ2 H3 fun y H4 => ∃ acc, H4 D = some (.lst acc) ∧ acc.length < sizeLine ∧ Nx (upd H4 D (.lst (acc ++ [y]))) else Nx H3) := by
  intro D hD
  refine lc_it w (Pv := fun i H' => Same H H' ∧ H' D = some (.lst (((its.take i).filter k).map f))) ⟨Same.upd (Same.refl H) hD, upd_same⟩ (fun i H' _ p => hG H' p.1) (fun i x H' H'' hi p y => ?_) (fun H' p => ?_)
  · obtain ⟨e, hx⟩ := hy i H' x H'' hi y
    subst e
    obtain ⟨s, hD'⟩ := p
    have hm : x ∈ its := List.mem_of_getElem? hx
    have et : its.take (i + 1) = its.take i ++ [x] := by rw [List.take_add_one, hx]; rfl
    refine hg x H'' _ ⟨hw x, ht x hm H'' s _ fun H2 s2 => ?_⟩
    cases hk : k x with
    | true =>
      rw [if_pos rfl]
      refine he x hm hk H2 (s.trans s2) _ fun H3 s3 => ?_
      have hD3 : H3 D = some (.lst (((its.take i).filter k).map f)) := s3 _ _ (s2 _ _ hD')
      refine ⟨_, hD3, ?_, ?_, ?_⟩
      · rw [List.length_map]
        have h1 := List.length_filter_le k (its.take i)
        have h2 : (its.take i).length ≤ its.length := by rw [List.length_take]; omega
        omega
      · exact fun b o e => by
          rw [upd_ne (ne_of_none e hD)]
          exact s3 _ _ (s2 _ _ (s _ _ e))
      · rw [upd_same, et, List.filter_append, List.map_append, List.filter_cons_of_pos hk]
        rfl
    | false =>
      rw [if_neg (by decide)]
      refine ⟨s.trans s2, ?_⟩
      rw [et, List.filter_append, List.filter_cons_of_neg (by simp [hk]), List.filter_nil, List.append_nil]
      exact s2 _ _ hD'
  · obtain ⟨s, hD'⟩ := p
    rw [List.take_length] at hD'
    exact q D H' hD s hD'
/-- over a text, one name bound -/
def sgns (z : Str) : List V := z.cps.toList.map fun c => V.str ⟨#[c]⟩
theorem sgns_len {z : Str} : (sgns z).length = z.cps.size := by unfold sgns; simp
theorem w_lc {wi : TI} (q : wi σ H fun J H1 => ∀ D, H1 D = none → ∃ W : Nat → Nat → Hp → Prop, (∃ m, W 0 m (upd H1 D (.lst []))) ∧ ∀ i m H, W i m H →
  (J.stop i H ∧ Q (.ref D) H) ∨ (J.go i H ∧ ∃ Nx : Hp → Prop, (∀ H', Nx H' → ∃ m', m' < m ∧ W (i + 1) m' H') ∧ ∀ x H', J.yld i H x H' → g x (wipe σ vs) H' fun σ2 H2 => wipe σ2 vs = wipe σ vs ∧ tt σ2 H2 fun b H3 =>
    if b = true then te σ2 H3 fun y H4 => ∃ acc, H4 D = some (.lst acc) ∧ acc.length < sizeLine ∧ Nx (upd H4 D (.lst (acc ++ [y]))) else Nx H3)) : tLc wi g tt te vs σ H Q := q
theorem lcStr {Qd : Addr → Hp → Prop} {z : Str} {i : Nat} (hz : z.length ≤ 100000) (f : V → V) (k : V → Bool) (hw : ∀ x, wipe ((wipe σ vs).set i (some x)) vs = wipe σ vs)
    (ht : ∀ x ∈ sgns z, ∀ H1, Same H H1 → ∀ R : Bool → Hp → Prop, (∀ H2, Same H1 H2 → R (k x) H2) → tt ((wipe σ vs).set i (some x)) H1 R)
    (he : ∀ x ∈ sgns z, k x = true → ∀ H1, Same H H1 → ∀ R : VK, (∀ H2, Same H1 H2 → R (f x) H2) → te ((wipe σ vs).set i (some x)) H1 R)
    (q : ∀ D H1, H D = none → Same H H1 → H1 D = some (.lst (((sgns z).filter k).map f)) → Qd D H1) :
    ∀ D, H D = none → ∃ W : Nat → Nat → Hp → Prop, (∃ m, W 0 m (upd H D (.lst []))) ∧ ∀ j m H, W j m H →
  ((Its z).stop j H ∧ Qd D H) ∨ ((Its z).go j H ∧ ∃ Nx : Hp → Prop, (∀ H', Nx H' → ∃ m', m' < m ∧ W (j + 1) m' H') ∧ ∀ x H', (Its z).yld j H x H' → gName i x (wipe σ vs) H' fun σ2 H2 => wipe σ2 vs = wipe σ vs ∧ tt σ2 H2 fun b H3 =>
    if b = true then te σ2 H3 fun y H4 => ∃ acc, H4 D = some (.lst acc) ∧ acc.length < sizeLine ∧ Nx (upd H4 D (.lst (acc ++ [y]))) else Nx H3) := by
  have hl : (sgns z).length < sizeLine := by
    rw [sgns_len]
    exact Nat.lt_of_le_of_lt hz (by decide)
  refine lc_fm (its := sgns z) (by rw [sgns_len]; exact walk_str) (fun j H x H' hj y => ?_) (fun _ _ => trivial) f k (fun x => (wipe σ vs).set i (some x)) (fun x H1 R r => r) hw ht he hl q
  obtain ⟨e, c, hc, rfl⟩ := y
  refine ⟨e, ?_⟩
  unfold sgns
  rw [List.getElem?_map, Array.getElem?_toList, hc]
  rfl
theorem lcL {Qd : Addr → Hp → Prop} {a : Addr} {its : List V} {i : Nat} (hS : ∀ H1, Same H H1 → SqL K H1 a its) (hl : its.length < sizeLine) (f : V → V) (k : V → Bool) (hw : ∀ x, wipe ((wipe σ vs).set i (some x)) vs = wipe σ vs)
    (ht : ∀ x ∈ its, ∀ H1, Same H H1 → ∀ R : Bool → Hp → Prop, (∀ H2, Same H1 H2 → R (k x) H2) → tt ((wipe σ vs).set i (some x)) H1 R)
    (he : ∀ x ∈ its, k x = true → ∀ H1, Same H H1 → ∀ R : VK, (∀ H2, Same H1 H2 → R (f x) H2) → te ((wipe σ vs).set i (some x)) H1 R)
    (q : ∀ D H1, H D = none → Same H H1 → H1 D = some (.lst ((its.filter k).map f)) → Qd D H1) :
    ∃ b, V.ref a = .ref b ∧ (∃ xs, SqL K H b xs) ∧ ∀ D, H D = none → ∃ W : Nat → Nat → Hp → Prop, (∃ m, W 0 m (upd H D (.lst []))) ∧ ∀ j m H, W j m H →
  ((Itl K b).stop j H ∧ Qd D H) ∨ ((Itl K b).go j H ∧ ∃ Nx : Hp → Prop, (∀ H', Nx H' → ∃ m', m' < m ∧ W (j + 1) m' H') ∧ ∀ x H', (Itl K b).yld j H x H' → gName i x (wipe σ vs) H' fun σ2 H2 => wipe σ2 vs = wipe σ vs ∧ tt σ2 H2 fun b H3 =>
    if b = true then te σ2 H3 fun y H4 => ∃ acc, H4 D = some (.lst acc) ∧ acc.length < sizeLine ∧ Nx (upd H4 D (.lst (acc ++ [y]))) else Nx H3) :=
  ⟨a, rfl, ⟨its, hS H (Same.refl H)⟩, lc_fm (its := its) walk_list (fun j H x H' hj y => y) hS f k (fun x => (wipe σ vs).set i (some x)) (fun x H1 R r => r) hw ht he hl q⟩
theorem lcT {Qd : Addr → Hp → Prop} {a : Addr} {its : List V} {i : Nat} (hS : ∀ H1, Same H H1 → SqT K H1 a its) (hl : its.length < sizeLine) (f : V → V) (k : V → Bool) (hw : ∀ x, wipe ((wipe σ vs).set i (some x)) vs = wipe σ vs)
    (ht : ∀ x ∈ its, ∀ H1, Same H H1 → ∀ R : Bool → Hp → Prop, (∀ H2, Same H1 H2 → R (k x) H2) → tt ((wipe σ vs).set i (some x)) H1 R)
    (he : ∀ x ∈ its, k x = true → ∀ H1, Same H H1 → ∀ R : VK, (∀ H2, Same H1 H2 → R (f x) H2) → te ((wipe σ vs).set i (some x)) H1 R)
    (q : ∀ D H1, H D = none → Same H H1 → H1 D = some (.lst ((its.filter k).map f)) → Qd D H1) :
    ∃ b, V.ref a = .ref b ∧ (∃ xs, SqT K H b xs) ∧ ∀ D, H D = none → ∃ W : Nat → Nat → Hp → Prop, (∃ m, W 0 m (upd H D (.lst []))) ∧ ∀ j m H, W j m H →
  ((Itt K b).stop j H ∧ Qd D H) ∨ ((Itt K b).go j H ∧ ∃ Nx : Hp → Prop, (∀ H', Nx H' → ∃ m', m' < m ∧ W (j + 1) m' H') ∧ ∀ x H', (Itt K b).yld j H x H' → gName i x (wipe σ vs) H' fun σ2 H2 => wipe σ2 vs = wipe σ vs ∧ tt σ2 H2 fun b H3 =>
    if b = true then te σ2 H3 fun y H4 => ∃ acc, H4 D = some (.lst acc) ∧ acc.length < sizeLine ∧ Nx (upd H4 D (.lst (acc ++ [y]))) else Nx H3) :=
  ⟨a, rfl, ⟨its, hS H (Same.refl H)⟩, lc_fm (its := its) walk_tup (fun j H x H' hj y => y) hS f k (fun x => (wipe σ vs).set i (some x)) (fun x H1 R r => r) hw ht he hl q⟩
theorem w_exs {z : Str} {R : Str → Prop} (q : R z) : ∃ x, V.str z = .str x ∧ R x := ⟨z, rfl, q⟩
theorem w_lcStr {z : Str} {tz : TE} {i : Nat} (hz : z.length ≤ 100000) (f : V → V) (k : V → Bool)
    (hq : ∀ R : It → Hp → Prop, R (Its z) H → iStr tz σ H R) (hw : ∀ x, wipe ((wipe σ vs).set i (some x)) vs = wipe σ vs)
    (ht : ∀ x ∈ sgns z, ∀ H1, Same H H1 → ∀ R : Bool → Hp → Prop, (∀ H2, Same H1 H2 → R (k x) H2) → tt ((wipe σ vs).set i (some x)) H1 R)
    (he : ∀ x ∈ sgns z, k x = true → ∀ H1, Same H H1 → ∀ R : VK, (∀ H2, Same H1 H2 → R (f x) H2) → te ((wipe σ vs).set i (some x)) H1 R)
    (q : ∀ D H1, H D = none → Same H H1 → H1 D = some (.lst (((sgns z).filter k).map f)) → Q (.ref D) H1) :
    tLc (iStr tz) (gName i) tt te vs σ H Q := hq _ (lcStr hz f k hw ht he q)
theorem w_all {a : Addr} {bs : List Bool} (h : SqL K H a (bs.map V.bl)) (q : Q (.bl (bs.all id)) H) : rAll K [.ref a] H Q := ⟨a, bs, rfl, h, q⟩
end
end Wp

namespace Wp
open PySem PySem.Spec PyProof.Rows L2 TyNe

/-! ### what an expression yields, as data, while one stream at p is drawn from -/
def EvS (p : Addr) (te : TE) (σ : L2.St) (H : Hp) (P : PyData → Prop) : Prop := ∀ H1, Kp p H H1 → Stm H1 p → ∀ Q : VK, (∀ v d H2, Kp p H1 H2 → Stm H2 p → P d → Dn (Off p) H2 v d → Q v H2) → te σ H1 Q
def EvSs (p : Addr) (ta : TA) (σ : L2.St) (H : Hp) (P : List PyData → Prop) : Prop := ∀ H1, Kp p H H1 → Stm H1 p → ∀ Q : List V → Hp → Prop, (∀ vs ds H2, Kp p H1 H2 → Stm H2 p → P ds → DnAll (Off p) H2 vs ds → Q vs H2) → ta σ H1 Q
section
variable {p : Addr} {te : TE} {ta : TA} {σ : L2.St} {H : Hp} {P P' : PyData → Prop} {R : List PyData → Prop}
theorem EvS.weak (h : EvS p te σ H P) (k : ∀ d, P d → P' d) : EvS p te σ H P' := fun H1 a s Q q => h H1 a s Q fun v d H2 b s' x y => q v d H2 b s' (k d x) y
theorem EvSs.weak {R' : List PyData → Prop} (h : EvSs p ta σ H R) (k : ∀ d, R d → R' d) : EvSs p ta σ H R' := fun H1 a s Q q => h H1 a s Q fun v d H2 b s' x y => q v d H2 b s' (k d x) y
theorem evs_non (h : P .none) : EvS p (tC .non) σ H P := fun H1 _ s Q q => q _ _ H1 Kp.refl s h .non
theorem evs_bl {b : Bool} (h : P (.bool b)) : EvS p (tC (.bl b)) σ H P := fun H1 _ s Q q => q _ _ H1 Kp.refl s h (.bl b)
theorem evs_int {i : Int} (h : P (.int i)) : EvS p (tC (.int i)) σ H P := fun H1 _ s Q q => q _ _ H1 Kp.refl s h (.int i)
theorem evs_str {x : Str} (h : P (.str x)) : EvS p (tC (.str x)) σ H P := fun H1 _ s Q q => q _ _ H1 Kp.refl s h (.str x)
theorem evs_var {i : Nat} {v : V} {d : PyData} (e : σ[i]? = some (some v)) (hd : Dn (Off p) H v d) (h : P d) : EvS p (tVar i) σ H P := fun H1 k s Q q => ⟨v, e, q v d H1 Kp.refl s h (hd.kp k)⟩
theorem evss_nil (h : R []) : EvSs p tNil σ H R := fun H1 _ s Q q => q _ _ H1 Kp.refl s h .nil
theorem evss_cons {R' : List PyData → Prop} (h : EvS p te σ H P) (hs : EvSs p ta σ H R) (k : ∀ d r, P d → R r → R' (d :: r)) : EvSs p (tCons te ta) σ H R' := fun H1 a s Q q =>
  h H1 a s _ fun v d H2 b s2 x y => hs H2 (a.trans b) s2 _ fun vs ds H3 c s3 xs ys => q (v :: vs) (d :: ds) H3 (b.trans c) s3 (k d ds x xs) (.cons (y.kp c) ys)
theorem evs_tup (h : EvSs p ta σ H R) (k : ∀ ds, R ds → ds.length ≤ 100000 ∧ P (.tuple ds)) : EvS p (tTup ta) σ H P := fun H1 a s Q q =>
  h H1 a s _ fun vs ds H2 b s2 x y => ⟨sz (by rw [y.len]; exact (k ds x).1), fun t ht => by
    have hn : t ≠ p := (Stm.ne s2 ht)
    exact q (.ref t) (.tuple ds) _ (b.upd (b.free hn ht)) (s2.up ht) (k ds x).2 (.tup hn upd_same (y.step fun c o n e => by rw [upd_ne (ne_of_none e ht)]; exact e))⟩
theorem evs_lst (h : EvSs p ta σ H R) (k : ∀ ds, R ds → ds.length ≤ 100000 ∧ P (.list ds)) : EvS p (tLst ta) σ H P := fun H1 a s Q q =>
  h H1 a s _ fun vs ds H2 b s2 x y => ⟨sz (by rw [y.len]; exact (k ds x).1), fun t ht => by
    have hn : t ≠ p := (Stm.ne s2 ht)
    exact q (.ref t) (.list ds) _ (b.upd (b.free hn ht)) (s2.up ht) (k ds x).2 (.lst hn upd_same (y.step fun c o n e => by rw [upd_ne (ne_of_none e ht)]; exact e))⟩
theorem evs_dnew (h : P (.dict [])) : EvS p tDNewK σ H P := fun H1 a s Q q t ht =>
  have hn : t ≠ p := (Stm.ne s ht)
  q (.ref t) (.dict []) _ (Kp.refl.upd ht) (s.up ht) h (.dic hn upd_same)
theorem evs_disp1 {k : Str} {v : Int} (h : P (.dict [])) : EvS p (tDisp [(tC (.str k), tC (.int v))]) σ H P := fun H1 a s Q q t ht =>
  have hn : t ≠ p := (Stm.ne s ht)
  ⟨upd_same, [(Sum.inr k, .int v)], rfl, (show 1 ≤ 15 by decide), q (.ref t) (.dict []) _ ((Kp.refl.upd ht).upd ht) (by
    obtain ⟨x, y, e, r⟩ := s
    exact ⟨x, y, by rw [upd_ne (ne_of_none e ht), upd_ne (ne_of_none e ht)]; exact e, r⟩) h (.dic hn upd_same)⟩
theorem evs_call {sp : Sp} (h : ∀ vs ds H1, Kp p H H1 → Stm H1 p → R ds → DnAll (Off p) H1 vs ds → ∀ Q : VK, (∀ v d H2, Kp p H1 H2 → Stm H2 p → P d → Dn (Off p) H2 v d → Q v H2) → sp vs H1 Q C8.E0) (ha : EvSs p ta σ H R) : EvS p (tCall sp [] C8.E0 ta) σ H P := fun H1 a s Q q =>
  ha H1 a s _ fun vs ds H2 b s2 x y => by
    show sp (vs ++ []) H2 Q C8.E0
    rw [List.append_nil]
    exact h vs ds H2 (a.trans b) s2 x y Q fun v d H3 c s3 x3 y3 => q v d H3 (b.trans c) s3 x3 y3
/-- used in a reading -/
theorem EvS.use {Q : VK} (h : EvS p te σ H P) (s : Stm H p) (q : ∀ v d H2, Kp p H H2 → Stm H2 p → P d → Dn (Off p) H2 v d → Q v H2) : te σ H Q := h H Kp.refl s Q q
theorem EvSs.use {Q : List V → Hp → Prop} (h : EvSs p ta σ H R) (s : Stm H p) (q : ∀ vs ds H2, Kp p H H2 → Stm H2 p → R ds → DnAll (Off p) H2 vs ds → Q vs H2) : ta σ H Q := h H Kp.refl s Q q
end
end Wp

namespace Wp
open PySem PySem.Spec PyProof.Rows L2 TyNe

/-! ### text * int -/
abbrev qMulS : R2 := fun x y H Q => ∃ (z : Str) (n : Int), x = .str z ∧ y = .int n ∧ MulOk z n ∧ Q (.str (Txt.mul z n)) H
theorem op_mulS {X : Cx} : OpR X (binaryOp .Mult) qMulS := by
  intro pins s σ H x y v u Q I rx ry h
  obtain ⟨i, j, rfl, rfl, hz, q⟩ := h
  obtain ⟨t, rfl⟩ := rx
  obtain ⟨t', rfl⟩ := ry
  exact SB.mul hz fun t' k => ⟨.str (Txt.mul i j), H, I.tok _, ⟨_, rfl⟩, q⟩
theorem foldl_size : ∀ (l : List (Array Nat)) (a : Array Nat), (l.foldl (· ++ ·) a).size = a.size + (l.map Array.size).sum
  | [], a => by simp
  | x :: l, a => by
    rw [List.foldl_cons, foldl_size l, Array.size_append, List.map_cons, List.sum_cons]
    omega
theorem rep_sum (n k : Nat) : ((List.replicate n k) : List Nat).sum = n * k := by
  induction n with
  | zero => simp
  | succ n ih => rw [List.replicate_succ, List.sum_cons, ih, Nat.succ_mul, Nat.add_comm]
theorem mul_len (x : Str) {n : Int} (h : 0 ≤ n) : (Txt.mul x n).length ≤ x.length * n.toNat := by
  unfold Txt.mul
  by_cases h1 : n < 1
  · rw [if_pos h1]
    exact Nat.zero_le _
  · rw [if_neg h1]
    by_cases h2 : (n == 1 || x.length == 0) = true
    · rw [if_pos h2]
      have : 1 ≤ n.toNat := by omega
      exact Nat.le_mul_of_pos_right _ this
    · rw [if_neg h2]
      show ((List.replicate n.toNat x.cps).foldl (· ++ ·) (#[] : Array Nat)).size ≤ _
      rw [foldl_size, List.map_replicate, rep_sum]
      show 0 + n.toNat * x.cps.size ≤ x.cps.size * n.toNat
      rw [Nat.zero_add, Nat.mul_comm]
      exact Nat.le_refl _
theorem mulOk {x : Str} {n : Int} (h0 : 0 ≤ n) (h1 : n ≤ 1000) (hx : x.length ≤ 10000) : MulOk x n := by
  refine ⟨?_, fun a b => ?_, fun a b => ?_⟩
  · rw [decide_eq_false (by omega), decide_eq_false (by omega)]
    rfl
  · have e : (2 ^ 63 - 1 : Int) / n ≥ (2 ^ 63 - 1 : Int) / 1000 := by
      rw [ge_iff_le, Int.le_ediv_iff_mul_le (by omega)]
      have e2 : (2 ^ 63 - 1 : Int) / 1000 = 9223372036854775 := by decide
      rw [e2]
      have := Int.mul_le_mul_of_nonneg_left h1 (show (0 : Int) ≤ 9223372036854775 by decide)
      omega
    have e2 : (2 ^ 63 - 1 : Int) / 1000 = 9223372036854775 := by decide
    omega
  · unfold Builtin.Str.tooLong
    have h2 : n.toNat ≤ 1000 := by omega
    have h3 : x.length * n.toNat ≤ 10000 * 1000 := Nat.mul_le_mul hx h2
    exact decide_eq_false (by
      have : (10000 * 1000 : Nat) ≤ sizeLine := by decide
      omega)
section
variable {H : Hp} {Q : VK}
theorem w_mulS {z : Str} {n : Int} (h0 : 0 ≤ n) (h1 : n ≤ 1000) (hx : z.length ≤ 10000) (q : (Txt.mul z n).length ≤ z.length * n.toNat → Q (.str (Txt.mul z n)) H) : qMulS (.str z) (.int n) H Q := ⟨z, n, rfl, rfl, mulOk h0 h1 hx, q (mul_len z h0)⟩
end

/-! ### the place of a sign -/
abbrev q_rfind4 : V → List V → Hp → VK → Prop := fun x xs H Q => ∃ (a b : Str) (i j : Int), x = .str a ∧ xs = [.str b, .int i, .int j] ∧ Q (.int (Txt.rfindIn a b i j)) H
abbrev q_find3 : V → List V → Hp → VK → Prop := fun x xs H Q => ∃ (a b : Str) (i : Int), x = .str a ∧ xs = [.str b, .int i] ∧ Q (.int (Txt.find3 a b i)) H
open Builtin Builtin.Str StrLaws in
theorem at_one {x : Str} {c hi i : Nat} (h : hi ≤ x.length) : At x ⟨#[c]⟩ hi i ↔ i < hi ∧ x.cps.toList[i]? = some c := by
  have e : (⟨#[c]⟩ : Str).length = 1 := rfl
  constructor
  · rintro ⟨h1, h2⟩
    rw [e] at h1
    exact ⟨by omega, (subAt_one x c i).mp ⟨by rw [e]; omega, h2⟩⟩
  · rintro ⟨h1, h2⟩
    exact ⟨by rw [e]; omega, ((subAt_one x c i).mpr h2).2⟩
open Builtin Builtin.Str StrLaws in
/-- the last c in [lo, hi) -/
theorem last_one (x : Str) (c lo hi : Nat) (h : hi ≤ x.length) : (lastOccurrence x ⟨#[c]⟩ lo hi = none ∧ ∀ i, lo ≤ i → i < hi → x.cps.toList[i]? ≠ some c) ∨
    ∃ i, lastOccurrence x ⟨#[c]⟩ lo hi = some i ∧ lo ≤ i ∧ i < hi ∧ x.cps.toList[i]? = some c ∧ ∀ k, i < k → k < hi → x.cps.toList[k]? ≠ some c := by
  rw [last_eq]
  have key := last_run x ⟨#[c]⟩ hi (List.range' lo (hi + 1 - lo)) [] none (fun _ h => nomatch h) (fun _ h => nomatch h) (by simpa using List.pairwise_lt_range' (s := lo) (n := hi + 1 - lo))
  have mem : ∀ i, lo ≤ i → i < hi → i ∈ [] ++ List.range' lo (hi + 1 - lo) := fun i h1 h2 => by
    simp [List.mem_range']
    exact ⟨i - lo, by omega, by omega⟩
  cases hr : (forIn (List.range' lo (hi + 1 - lo)) none (lastBody x ⟨#[c]⟩ hi)).run with
  | none =>
    rw [hr] at key
    exact .inl ⟨rfl, fun i h1 h2 e => key i (mem i h1 h2) ((at_one h).mpr ⟨h2, e⟩)⟩
  | some a =>
    rw [hr] at key
    have ka := (at_one h).mp key.1
    refine .inr ⟨a, rfl, ?_, ka.1, ka.2, fun k h1 h2 e => ?_⟩
    · -- it was among the places looked at
      have hmem : ∀ (l : List Nat) (st : Option Nat) (r : Nat), (forIn l st (lastBody x ⟨#[c]⟩ hi)).run = some r → r ∈ l ∨ st = some r := by
        intro l
        induction l with
        | nil => intro st r e; exact .inr e
        | cons b l ih =>
          intro st r e
          rw [List.forIn_cons] at e
          unfold lastBody at e
          split at e
          · rcases ih _ _ e with hm | hm
            · exact .inl (List.mem_cons_of_mem _ hm)
            · exact .inl (by cases hm; exact List.mem_cons_self ..)
          · rcases ih _ _ e with hm | hm
            · exact .inl (List.mem_cons_of_mem _ hm)
            · exact .inr hm
      rcases hmem _ _ _ hr with hm | hm
      · simp [List.mem_range'] at hm
        omega
      · exact nomatch hm
    · by_cases hk : lo ≤ k
      · exact key.2 k (mem k hk h2) h1 ((at_one h).mpr ⟨h2, e⟩)
      · exact key.2 k (by
          have hk2 : k < lo := by omega
          have : lo ≤ a := by
            have hmem : ∀ (l : List Nat) (st : Option Nat) (r : Nat), (forIn l st (lastBody x ⟨#[c]⟩ hi)).run = some r → r ∈ l ∨ st = some r := by
              intro l
              induction l with
              | nil => intro st r e; exact .inr e
              | cons b l ih =>
                intro st r e
                rw [List.forIn_cons] at e
                unfold lastBody at e
                split at e
                · rcases ih _ _ e with hm | hm
                  · exact .inl (List.mem_cons_of_mem _ hm)
                  · exact .inl (by cases hm; exact List.mem_cons_self ..)
                · rcases ih _ _ e with hm | hm
                  · exact .inl (List.mem_cons_of_mem _ hm)
                  · exact .inr hm
            rcases hmem _ _ _ hr with hm | hm
            · simp [List.mem_range'] at hm
              omega
            · exact nomatch hm
          omega) h1 ((at_one h).mpr ⟨h2, e⟩)
open Builtin Builtin.Str StrLaws in
/-- the first c from lo on -/
theorem first_one (x : Str) (c lo : Nat) : (occurrences x ⟨#[c]⟩ lo x.length 1 = [] ∧ ∀ i, lo ≤ i → x.cps.toList[i]? ≠ some c) ∨
    ∃ i r, occurrences x ⟨#[c]⟩ lo x.length 1 = i :: r ∧ lo ≤ i ∧ x.cps.toList[i]? = some c ∧ ∀ k, lo ≤ k → k < i → x.cps.toList[k]? ≠ some c := by
  rw [occ_eq]
  have inr : ∀ i c, x.cps.toList[i]? = some c → i < x.length := fun i c e => by
    have h := (List.getElem?_eq_some_iff.mp e).1
    simpa [Str.length] using h
  rcases occ_first x ⟨#[c]⟩ x.length 1 (Nat.le_refl _) (List.range' lo (x.length + 1 - lo)) lo (fun i hi => by simp [List.mem_range'] at hi; omega) with ⟨h0, hn⟩ | ⟨pre, a, post, e, h0, ha, hn⟩
  · refine .inl ⟨by rw [h0], fun i h1 e => ?_⟩
    have := inr i c e
    exact hn i (by simp [List.mem_range']; exact ⟨i - lo, by omega, by omega⟩) ((at_one (Nat.le_refl _)).mpr ⟨this, e⟩)
  · have hm : a ∈ List.range' lo (x.length + 1 - lo) := by rw [e]; simp
    have hlo : lo ≤ a := by simp [List.mem_range'] at hm; omega
    have ka := (at_one (Nat.le_refl _)).mp ha
    generalize hl : (forIn (List.range' lo (x.length + 1 - lo)) ((#[] : Array Nat), lo) (occBody x ⟨#[c]⟩ x.length 1)).run.fst = arr at h0
    rw [← Array.getElem?_toList] at h0
    cases hal : arr.toList with
    | nil => rw [hal] at h0; exact nomatch h0
    | cons b r =>
      rw [hal] at h0
      have hb : b = a := Option.some.inj h0
      subst hb
      refine .inr ⟨b, r, rfl, hlo, ka.2, fun k h1 h2 ek => ?_⟩
      have hk := inr k c ek
      refine hn k ?_ ((at_one (Nat.le_refl _)).mpr ⟨hk, ek⟩)
      have hp : (List.range' lo (x.length + 1 - lo)).Pairwise (· < ·) := by simpa using List.pairwise_lt_range' (s := lo) (n := x.length + 1 - lo)
      rw [e] at hp
      have hmk : k ∈ pre ++ b :: post := by rw [← e]; simp [List.mem_range']; exact ⟨k - lo, by omega, by omega⟩
      rcases List.mem_append.mp hmk with g | g
      · exact g
      · rcases List.mem_cons.mp g with g | g
        · omega
        · have := (List.pairwise_cons.mp (List.pairwise_append.mp hp).2.1).1 k g
          omega
end Wp

namespace Wp
open PySem PySem.Spec PyProof.Rows L2 TyNe

/-! ### a property of an own class -/
structure Prp (P : Program) (w : World) (K : PySem.W.Frag) (mg : Str → Option Value) (base : Heap) (k : Nat) (C : Addr) (m : Str) (sp : Sp) : Prop where
  ex : ∃ (f p : Addr) (fd : FuncData) (ps : List Str), Cls K C ∧ PropOf K C m p f ∧ FnOk P w K mg base C8.CX0 k f fd ps sp ∧ Binds K fd ps []
theorem prp0 {P : Program} {w : World} {K : PySem.W.Frag} {mg : Str → Option Value} {base : Heap} {m x qual : Str} {C p : Addr} {st : Stmt} {f : Addr} {fd : FuncData} {N ps : List Str} {k : Nat} {sp : Sp} (c : Cls K C) (hp : PropOf K C m p f) (F : C8.Fun K x qual st f fd) (b : Binds K fd ps []) (S : FnScope N ps (C8.fnScope st)) (len : ∀ vs H Q E, sp vs H Q E → vs.length = ps.length)
    (hbody : ∀ (cdv : Value) (A : Around) (outer : List Env) (s : Shared) (H : Hp) (vs : List V) (Q : VK) (E : XK), Room k (A.deeper (envOfC qual (C8.fnScope st) s.heap.objs.size f cdv)) → sp vs H Q E →
      ∃ t, PSs (cxOf C8.CX0 P w K mg base N qual (C8.fnScope st) f cdv A outer s H E).nox (C8.fnBody st) t ∧ t { nx := fun _ H' => Q .non H', rt := Q } (start N vs) H) : Prp P w K mg base (k + 1) C m sp :=
  ⟨f, p, fd, ps, c, hp, C8.fn0 F S len hbody, b⟩
theorem pe_pp {X : Cx} {k j : Nat} {C : Addr} {m : Str} {sp : Sp} {e : Expr} {pos : Pos} {ta : TE} (c : Prp X.prog X.w X.K X.mg X.base k C m sp) (hr : Room j X.A) (hk : k + 1 ≤ j) (he : PE X e ta)
    (hab : attributeBase e m X.env (eval e X.env) = eval e X.env) : PE X (.Attribute e m pos) (tProp C sp [] C8.E0 ta) := by
  obtain ⟨f, p, fd, ps, hc, hp, F, b⟩ := c.ex
  exact pe_prop he hc hp F (hr.mono hk) b .nil C8.pass0 hab
theorem hu1 {j : Nat} {A : Around} (hr : Room j A) : A.units + 1 < cLine := by
  have := hr.units
  omega
abbrev qSortedD : List V → Hp → VK → Prop := fun xs H Q => ∃ (a : Addr) (kvs : List (Key × V)) (ks : List Str), xs = [.ref a] ∧ Rd H a (.dK kvs) ∧ kvs.map (·.1) = ks.map Sum.inr ∧ ks.length < 64 ∧
    ∀ ys p, ys.Perm ks → sortedS ys = true → H p = none → Q (.ref p) (upd H p (.lst (ys.map V.str)))

section
variable {K : PySem.W.Frag} {σ : L2.St} {H : Hp} {v : V} {Q : VK} {D : Ends} {te ta td ty tv tx : TE}
theorem w_yes {R : Bool → Hp → Prop} (q : R true H) : tYes σ H R := q
theorem iteT_ {A B : Prop} (q : A) : if (true : Bool) = true then A else B := q
theorem gc {t : TG} {u : TGs} {v : V} {r : List V} {Q : L2.St → Hp → Prop} (q : t v σ H fun σ' H' => u r σ' H' Q) : gCons t u (v :: r) σ H Q := ⟨v, r, rfl, q⟩
theorem gn {Q : L2.St → Hp → Prop} (q : Q σ H) : gNil [] σ H Q := ⟨rfl, q⟩
theorem w_fld {f : Str} (q : ta σ H fun x H1 => ∃ a C dx fs v, x = .ref a ∧ H1 a = some (.ins C dx fs) ∧ Cls K C ∧ NoAttr K C f ∧ fs.lookup f = some v ∧ Q v H1) : tFld K ta f σ H Q := q
theorem w_prop {C : Addr} {sp : Sp} {dvs : List V} {E : XK} (q : ta σ H fun x H1 => ∃ a dx fs, x = .ref a ∧ H1 a = some (.ins C dx fs) ∧ sp (.ref a :: dvs) H1 Q E) : tProp C sp dvs E ta σ H Q := q
theorem w_meth {C : Addr} {m : Str} {sp : Sp} {dvs : List V} {E : XK} {t : TA} (q : ta σ H fun x H1 => ∃ a dx fs, x = .ref a ∧ H1 a = some (.ins C dx fs) ∧ fs.lookup m = none ∧ t σ H1 fun vs H2 => sp (x :: (vs ++ dvs)) H2 Q E) : tMeth C m sp dvs E ta t σ H Q := q
theorem w_make {C : Addr} {sp : Sp} {dvs : List V} {E : XK} {t : TA} (q : t σ H fun vs H1 => ∀ x dx, H1 x = none → H1 dx = none → dx ≠ x → sp (.ref x :: (vs ++ dvs)) (upd (upd H1 dx (.own x)) x (.ins C dx [])) (fun v H2 => v = .non ∧ Q (.ref x) H2) E) : tMake C sp dvs E t σ H Q := q
theorem w_dget (q : td σ H fun x H1 => ty σ H1 fun y H2 => ∃ a v, x = .ref a ∧ DGet H2 a y (some v) ∧ Q v H2) : tDGet td ty σ H Q := q
theorem w_dget2 (q : td σ H fun x H1 => ∃ a, x = .ref a ∧ IsD H1 a ∧ ty σ H1 fun y H2 => tx σ H2 fun z H3 => ∃ o, DGet H3 a y o ∧ Q (o.getD z) H3) : tDGet2 td ty tx σ H Q := q
theorem w_dput (q : tv σ H fun v H1 => td σ H1 fun x H2 => ty σ H2 fun y H3 => ∃ a H4, x = .ref a ∧ DPut H3 a y v H4 ∧ D.nx σ H4) : sDPut td ty tv D σ H := q
theorem w_sfld {f : Str} (q : tv σ H fun y H1 => ta σ H1 fun x H2 => ∃ a C dx fs, x = .ref a ∧ H2 a = some (.ins C dx fs) ∧ Cls K C ∧ NoAttr K C f ∧ fs.length < 1000 ∧ D.nx σ (upd H2 a (.ins C dx (putF f y fs)))) : sFld K ta tv f D σ H := q
end
end Wp

namespace Wp
open PySem PySem.Spec PyProof.Rows L2 TyNe He

/-! ### a dict of the module with text keys, asked by get -/
structure MDict (K : PySem.W.Frag) (w : World) (d : Addr) (g : Str → Option V) : Prop where
  ex : ∃ es n, KDict K w d es n ∧ ∀ z, ∃ r, PySem.W.nsIn K d z = some r ∧ RelO (g z) r
/-- NAME.get(k, x) -/
def tKGet2 (g : Str → Option V) (ty tx : TE) : TE := fun σ H Q => ty σ H fun y H1 => tx σ H1 fun z H2 => ∃ w : Str, y = .str w ∧ Q ((g w).getD z) H2
theorem pe_kget2 {X : Cx} {d : Addr} {g : Str → Option V} {x : Str} {e f : Expr} {p apos cpos : Pos} {ty tx : TE} (M : MDict X.K X.w d g) (hg : Gl X x) (hm : X.mg x = some (.ref d)) (he : PE X e ty) (hf : PE X f tx)
    (m : M2 X (.Name x p) "get" apos e f cpos) (hd : (x == ("__debug__" : Str)) = false := by decide) : PE X (.Call (.Attribute (.Name x p) "get" apos) [e, f] [] cpos) (tKGet2 g ty tx) := by
  obtain ⟨es, n, D, hn⟩ := M.ex
  refine ⟨fun pins s σ H Q I h => ?_⟩
  refine wpAny_Call_method m.base m.few m.line PySem.F.plainAttrs_dict PySem.F.slot_dict_get PySem.F.type_dict_get (thn ((C8.pe_gc (pos := p) (v := .ref d) hg ⟨_, hm, rfl⟩ hd).run pins s σ H (fun v H1 => v = .ref d ∧ ty σ H1 fun y H1 => tx σ H1 fun z H2 => ∃ w : Str, y = .str w ∧ Q ((g w).getD z) H2) I ⟨rfl, h⟩) fun u s1 ⟨x, H1, I1, rx, ex, q1⟩ => ?_)
  subst ex
  obtain rfl : u = Value.ref d := rx
  have mo : ∀ {s' : Shared} {σ' : L2.St} {H' : Hp}, Inv X pins σ' H' s' → s'.heap.MapOf (strKind X.prog X.w) d (fun k => findBy Value.isStrOf es k) := fun I' => PySem.W.mapOf_K (prog := X.prog) I'.kIn D.at_ D.lit
  refine ⟨(mo I1).typeIs, (mo I1).noDict, ?_⟩
  rw [m.trees]
  refine Calls.callWith_builtin rfl (Calls.evalArgs_plain (Calls.spliced_cons (thn (he.run pins s1 σ H1 _ I1 q1) fun iv s2 ⟨y, H2, I2, ry, q2⟩ =>
    Calls.spliced_cons (thn (hf.run pins s2 σ H2 _ I2 q2) fun fv s3 ⟨z, H3, I3, rz, w, ey, q3⟩ => Calls.spliced_nil ?_))))
  subst ey
  obtain ⟨t, rfl⟩ := ry
  obtain ⟨r, hr, rel⟩ := hn w
  refine call_meetsIn PySem.F.slot_dict_get (mo I3).typeIs PySem.F.entry_dict_get (PySem.F.args_dict_get_3 _ _ _) (meets_dict_get_default (strKind X.prog X.w) d (PySem.strKind_is X.prog X.w w t) D.low fv) ⟨_, mo I3, ?_⟩
  rw [PySem.W.find_K D.at_ hr]
  exact ⟨_, H3, I3.tok _, rel.getD rz, q3⟩
/-- from the keys, and what stands at each -/
theorem mdict {K : PySem.W.Frag} {w : World} {d : Addr} {kvs : List (Str × V)} (hk : dicW K d = some (keysIn w.params (kvs.map (·.1)))) (hv : ∀ p ∈ kvs, ∃ u, PySem.W.nsIn K d p.1 = some (some u) ∧ RelV p.2 u) :
    MDict K w d (fun z => (kvs.find? fun p => decide (p.1 = z)).map (·.2)) := by
  obtain ⟨es, n, D⟩ := dicW_ok hk
  refine ⟨es, n, D, fun z => ?_⟩
  cases hf : kvs.find? fun p => decide (p.1 = z) with
  | some p =>
    have hp := List.mem_of_find?_eq_some hf
    have hz0 := List.find?_some hf
    have hz : p.1 = z := of_decide_eq_true hz0
    obtain ⟨u, h1, h2⟩ := hv p hp
    rw [hz] at h1
    exact ⟨some u, h1, h2⟩
  | none =>
    refine ⟨none, ?_, trivial⟩
    have he : es.toList.map He.keyOf = keysIn w.params (kvs.map (·.1)) := by
      unfold dicW at hk
      rw [D.at_] at hk
      have hl := D.low
      simp [hl] at hk
      exact hk
    have hkey : ∀ e ∈ es.toList, ∃ x t, e.key = .str x t ∧ x ≠ z := fun e hm => by
      have h1 : He.keyOf e ∈ keysIn w.params (kvs.map (·.1)) := by rw [← he]; exact List.mem_map.mpr ⟨e, hm, rfl⟩
      obtain ⟨k, hkm, h2⟩ := List.mem_map.mp h1
      obtain ⟨p, hpm, rfl⟩ := List.mem_map.mp hkm
      obtain ⟨x, t, e1, e2⟩ := D.lit.all e hm
      refine ⟨x, t, e1, fun ez => ?_⟩
      unfold He.keyOf at h2
      rw [e1] at h2
      have h3 := congrArg Prod.fst (Option.some.inj h2)
      exact (List.find?_eq_none.mp hf p hpm) (decide_eq_true (h3.trans ez))
    unfold PySem.W.nsIn
    rw [D.at_]
    dsimp only
    have f0 : es.toList.find? (·.key.isStr z) = none := List.find?_eq_none.mpr fun e hm h => by
      obtain ⟨x, t, e1, e2⟩ := hkey e hm
      rw [e1] at h
      exact e2 (beq_iff_eq.mp h)
    have a0 : es.toList.any (·.refKey) = false := List.any_eq_false.mpr fun e hm h => by
      obtain ⟨x, t, e1, e2⟩ := hkey e hm
      unfold DictEntry.refKey at h
      rw [e1] at h
      exact nomatch h
    rw [f0, a0]
    rfl
end Wp

/-! zip of a tuple and a list -/
namespace ZMix
open PySem PySem.Spec PyProof.Rows L2 RZ
section
variable {prog : Program} {w : World} {A : Around} {E : Value → Shared → Prop} {s : Shared}
/-- what a zip object looks like: the tuple's iterator first, then the list's -/
structure Zst (h : Heap) (z TI TO i j p l : Addr) (n : Nat) (f : Value) : Prop where
  Z : IsZip h z TI TO f
  I : IsPair h TI (.ref i) (.ref j)
  O : ∃ a b, IsPair h TO a b
  P : h.IsTupleIter i p n
  L : h.IsListIter j l n
theorem step {z TI TO i j p l : Addr} {n : Nat} {xs ys : Array Value} {x y : Value} {Q : Value → Shared → Prop} (D : ZipApart z TI TO i j p l) (S : Zst s.heap z TI TO i j p l n .none)
    (hp : s.heap.IsTuple p xs) (hl : s.heap.IsList l ys) (hx : xs[n]? = some x) (hy : ys[n]? = some y)
    (q : ∀ h', Zst h' z TI TO i j p l (n + 1) (rawInt s.heap.objs.size) → IsPair h' s.heap.objs.size x y → h'.objs.size = s.heap.objs.size + 1 →
      (∀ c o, c ≠ z ∧ c ≠ TO ∧ c ≠ i ∧ c ≠ j → s.heap.get? c = some o → h'.get? c = some o) → Q (.ref s.heap.objs.size) { s with heap := h' }) :
    wpAny (model prog w) A (Builtin.«zip.__next__» ⟨[.ref z], []⟩) (fun r s' => ∃ v, r = .done (.ret v) ∧ Q v s') E s := by
  obtain ⟨a, b, hO⟩ := S.O
  show wpAny _ _ (field (.ref z) 2 >>= _) _ _ _; refine wpAny_bind (wpAny_field S.Z rfl (x := .bool false) rfl ?_)
  show wpAny _ _ (field (.ref z) 3 >>= _) _ _ _; refine wpAny_bind (wpAny_field S.Z rfl (x := .ref TI) rfl (wpAny_bind (wpAny_seqItems S.I rfl ?_)))
  show wpAny _ _ (Builtin.SmallTypes.ownedTupleIsFree (.ref z) >>= _) _ _ _; refine wpAny_bind ?_; unfold Builtin.SmallTypes.ownedTupleIsFree
  refine wpAny_bind (wpAny_field S.Z rfl (x := .none) rfl (wpAny_pure ?_)); simp only [if_true]
  refine wpAny_bind (wpAny_rule (wpAny_bind (wpAny_field S.Z rfl (x := .ref TO) rfl (wpAny_bind (wpAny_setField_rec S.Z (by simp) fun k1 u1 e1 => wpAny_bind ?_)))))
  have Z1 : IsZip k1 z TI TO .ellipsis := u1
  simp only [List.zipIdx_cons, List.zipIdx_nil, List.forIn_cons, List.forIn_nil]; refine wpAny_bind (wpAny_bind (wpAny_onRaise ?_))
  show wpAny _ _ (Builtin.SmallTypes.nextOf (.ref i) >>= _) _ _ _; refine wpAny_bind (nextOf_tuple_item (S.P.extBut e1.extBut D.i1z) (hp.extBut e1.extBut D.l1z) hx fun k2 P2 e2 => wpAny_pure ?_)
  have O2 : IsPair k2 TO a b := e2.extBut _ _ D.TOi1 (e1.extBut _ _ D.TOz hO)
  refine wpAny_bind (wpAny_seqItems O2 rfl (wpAny_bind (wpAny_updateSeq_pair O2 fun k3 u3 e3 => wpAny_bind (wpAny_letGo (wpAny_pure (wpAny_bind (wpAny_bind (wpAny_onRaise ?_))))))))
  have O3 : IsPair k3 TO x b := u3
  have up13 : ∀ c o, c ≠ TO → c ≠ i → k1.get? c = some o → k3.get? c = some o := fun c o c1 c2 e => e3.extBut _ _ c1 (e2.extBut _ _ c2 e)
  have up3 : ∀ c o, c ≠ z → c ≠ TO → c ≠ i → s.heap.get? c = some o → k3.get? c = some o := fun c o c0 c1 c2 e => up13 c o c1 c2 (e1.extBut _ _ c0 e)
  show wpAny _ _ (Builtin.SmallTypes.nextOf (.ref j) >>= _) _ _ _
  refine wpAny_bind (wpAny_nextOf_list_item (S.L.at fun o e => up3 j o D.i2z D.TOi2.symm D.i12.symm e) (hl.at fun o e => up3 l o D.l2z D.l2TO D.l2i1 e) hy fun k4 L4 e4 => wpAny_pure ?_)
  have O4 : IsPair k4 TO x b := e4.extBut _ _ D.TOi2 O3
  refine wpAny_bind (wpAny_seqItems O4 rfl (wpAny_bind (wpAny_updateSeq_pair O4 fun k5 u5 e5 => wpAny_bind (wpAny_letGo (wpAny_pure (wpAny_pure ?_))))))
  have O5 : IsPair k5 TO x y := u5
  refine wpAny_bind (wpAny_seqItems O5 rfl (wpAny_bind (wpAny_newTuple ?_)))
  have sz : k5.objs.size = s.heap.objs.size := by rw [e5.1, e4.1, e3.1, e2.1, e1.1]
  have up5 : ∀ c o, c ≠ TO → c ≠ i → c ≠ j → k1.get? c = some o → k5.get? c = some o := fun c o c1 c2 c3 e => e5.extBut _ _ c1 (e4.extBut _ _ c3 (up13 c o c1 c2 e))
  have Z5 : IsZip k5 z TI TO .ellipsis := up5 _ _ D.TOz.symm D.i1z.symm D.i2z.symm Z1
  have P5 : k5.IsTupleIter i p (n + 1) := P2.at fun o e => e5.extBut _ _ D.TOi1.symm (e4.extBut _ _ D.i12 (e3.extBut _ _ D.TOi1.symm e))
  have L5 : k5.IsListIter j l (n + 1) := L4.extBut e5.extBut D.TOi2.symm
  have lz : z < k5.objs.size := Heap.lt_size Z5
  show wpAny _ _ (Builtin.SmallTypes.ownedTupleHandOut (.ref z) (.ref k5.objs.size) >>= _) _ _ _; refine wpAny_bind ?_; unfold Builtin.SmallTypes.ownedTupleHandOut
  have Z6 : IsZip (k5.push { cls := .type "tuple", data := .seq #[x, y] }) z TI TO .ellipsis := Heap.get?_push_of_some _ Z5
  refine wpAny_bind (wpAny_setField_rec Z6 (by simp) fun k7 u7 e7 => ?_)
  have Z7 : IsZip k7 z TI TO (rawInt k5.objs.size) := u7
  refine wpAny_setField_rec Z7 (by simp) fun k8 u8 e8 => ?_
  have Z8 : IsZip k8 z TI TO (rawInt k5.objs.size) := u8
  have up8 : ∀ c o, c ≠ z → k5.get? c = some o → k8.get? c = some o := fun c o c0 e => e8.extBut _ _ c0 (e7.extBut _ _ c0 (Heap.get?_push_of_some _ e))
  have T8 : IsPair k8 k5.objs.size x y := e8.extBut _ _ (Nat.ne_of_gt lz) (e7.extBut _ _ (Nat.ne_of_gt lz) (Heap.get?_push_size _ rfl))
  have s8 : k8.objs.size = k5.objs.size + 1 := by rw [e8.1, e7.1, Heap.size_push]
  rw [sz] at Z8 T8 s8
  have I8 : IsPair k8 TI (.ref i) (.ref j) := up8 _ _ D.TIz (up5 _ _ D.TITO D.TIi1 D.TIi2 (e1.extBut _ _ D.TIz S.I))
  refine wpAny_pure ⟨_, rfl, ?_⟩
  rw [show k5.objs.size = s.heap.objs.size from sz]
  exact q k8 ⟨Z8, I8, ⟨x, y, up8 _ _ D.TOz O5⟩, P5.at fun o e => up8 _ o D.i1z e, L5.at fun o e => up8 _ o D.i2z e⟩ T8 s8 fun c o c0 e => up8 c o c0.1 (up5 c o c0.2.1 c0.2.2.1 c0.2.2.2 (e1.extBut _ _ c0.1 e))
theorem stop {z TI TO i j p l : Addr} {n : Nat} {xs ys : Array Value} {Q : PySem.Fin → Shared → Prop} (hh : A.handled = none) (D : ZipApart z TI TO i j p l) (S : Zst s.heap z TI TO i j p l n .none)
    (hp : s.heap.IsTuple p xs) (hl : s.heap.IsList l ys) (he : xs[n]? = none ∨ ys[n]? = none)
    (q : ∀ h' e, (∀ c o, c ≠ z ∧ c ≠ TO ∧ c ≠ i ∧ c ≠ j → s.heap.get? c = some o → h'.get? c = some o) → (∃ o, h'.get? e = some o ∧ o.cls = .type "StopIteration") → E (.ref e) { s with heap := h' }) :
    wpAny (model prog w) A (Builtin.«zip.__next__» ⟨[.ref z], []⟩) Q E s := by
  obtain ⟨a, b, hO⟩ := S.O
  show wpAny _ _ (field (.ref z) 2 >>= _) _ _ _; refine wpAny_bind (wpAny_field S.Z rfl (x := .bool false) rfl ?_)
  show wpAny _ _ (field (.ref z) 3 >>= _) _ _ _; refine wpAny_bind (wpAny_field S.Z rfl (x := .ref TI) rfl (wpAny_bind (wpAny_seqItems S.I rfl ?_)))
  show wpAny _ _ (Builtin.SmallTypes.ownedTupleIsFree (.ref z) >>= _) _ _ _; refine wpAny_bind ?_; unfold Builtin.SmallTypes.ownedTupleIsFree
  refine wpAny_bind (wpAny_field S.Z rfl (x := .none) rfl (wpAny_pure ?_)); simp only [if_true]
  refine wpAny_bind (wpAny_rule (wpAny_bind (wpAny_field S.Z rfl (x := .ref TO) rfl (wpAny_bind (wpAny_setField_rec S.Z (by simp) fun k1 u1 e1 => wpAny_bind ?_)))))
  have Z1 : IsZip k1 z TI TO .ellipsis := u1
  simp only [List.zipIdx_cons, List.zipIdx_nil, List.forIn_cons, List.forIn_nil]; refine wpAny_bind (wpAny_bind (wpAny_onRaise ?_))
  show wpAny _ _ (Builtin.SmallTypes.nextOf (.ref i) >>= _) _ _ _
  have apart : ∀ {k : Heap} {e : Addr} {oe : Obj}, IsZip k z TI TO .ellipsis → k.get? e = some oe → oe.cls = .type "StopIteration" → e ≠ z := fun {k e oe} hz h1 h2 h3 => by
    rw [h3, show k.get? z = _ from hz] at h1
    cases h1
    exact absurd (show Value.type "zip" = .type "StopIteration" from h2) (by decide)
  cases hx : xs[n]? with
  | none =>
    refine wpAny_bind (nextOf_tuple_end hh (S.P.extBut e1.extBut D.i1z) (hp.extBut e1.extBut D.l1z) hx fun k2 e e2 ⟨oe, h1, h2⟩ => ?_)
    have Z2 : IsZip k2 z TI TO .ellipsis := e2 _ _ D.i1z.symm Z1
    exact wpAny_setField_rec Z2 (by simp) fun k3 _ e3 => q k3 e (fun c o c0 x => e3.extBut _ _ c0.1 (e2 _ _ c0.2.2.1 (e1.extBut _ _ c0.1 x))) ⟨oe, e3.extBut _ _ (apart Z2 h1 h2) h1, h2⟩
  | some x =>
    have hy : ys[n]? = none := he.resolve_left (by rw [hx]; exact nofun)
    refine wpAny_bind (nextOf_tuple_item (S.P.extBut e1.extBut D.i1z) (hp.extBut e1.extBut D.l1z) hx fun k2 P2 e2 => wpAny_pure ?_)
    have O2 : IsPair k2 TO a b := e2.extBut _ _ D.TOi1 (e1.extBut _ _ D.TOz hO)
    refine wpAny_bind (wpAny_seqItems O2 rfl (wpAny_bind (wpAny_updateSeq_pair O2 fun k3 u3 e3 => wpAny_bind (wpAny_letGo (wpAny_pure (wpAny_bind (wpAny_bind (wpAny_onRaise ?_))))))))
    have up3 : ∀ c o, c ≠ z → c ≠ TO → c ≠ i → s.heap.get? c = some o → k3.get? c = some o := fun c o c0 c1 c2 e => e3.extBut _ _ c1 (e2.extBut _ _ c2 (e1.extBut _ _ c0 e))
    show wpAny _ _ (Builtin.SmallTypes.nextOf (.ref j) >>= _) _ _ _
    refine wpAny_bind (wpAny_nextOf_list_end hh (S.L.at fun o e => up3 j o D.i2z D.TOi2.symm D.i12.symm e) (hl.at fun o e => up3 l o D.l2z D.l2TO D.l2i1 e) hy fun k4 e e4 ⟨oe, h1, h2⟩ => ?_)
    have Z4 : IsZip k4 z TI TO .ellipsis := e4 _ _ D.i2z.symm (e3.extBut _ _ D.TOz.symm (e2.extBut _ _ D.i1z.symm Z1))
    exact wpAny_setField_rec Z4 (by simp) fun k5 _ e5 => q k5 e (fun c o c0 x => e5.extBut _ _ c0.1 (e4 _ _ c0.2.2.2 (up3 c o c0.1 c0.2.1 c0.2.2.1 x))) ⟨oe, e5.extBut _ _ (apart Z4 h1 h2) h1, h2⟩
theorem nxt {z TI TO i j p l : Addr} {n : Nat} {xs ys : Array Value} {x y : Value} {Q : Option Value → Shared → Prop} (D : ZipApart z TI TO i j p l) (S : Zst s.heap z TI TO i j p l n .none)
    (hp : s.heap.IsTuple p xs) (hl : s.heap.IsList l ys) (hx : xs[n]? = some x) (hy : ys[n]? = some y)
    (q : ∀ h', Zst h' z TI TO i j p l (n + 1) (rawInt s.heap.objs.size) → IsPair h' s.heap.objs.size x y → h'.objs.size = s.heap.objs.size + 1 →
      (∀ c o, c ≠ z ∧ c ≠ TO ∧ c ≠ i ∧ c ≠ j → s.heap.get? c = some o → h'.get? c = some o) → Q (some (.ref s.heap.objs.size)) { s with heap := h' }) : wpAny (model prog w) A (pyNext (.ref z)) Q E s := by
  unfold pyNext
  refine wpAny_bind (wpAny_attempt (wpAny_callSpecial?_slot (name := Str.ofString "__next__") ⟨_, S.Z, rfl⟩ F.slot_zip_next (wpAny_call_entry F.slot_zip_next ⟨_, S.Z, rfl⟩ F.entry_zip_next ?_ (F.args_zip_next_1 _))))
  exact step D S hp hl hx hy fun h' a b c d => wpAny_pure (q h' a b c d)
theorem nxtE {z TI TO i j p l : Addr} {n : Nat} {xs ys : Array Value} {Q : Option Value → Shared → Prop} (hh : A.handled = none) (D : ZipApart z TI TO i j p l) (S : Zst s.heap z TI TO i j p l n .none)
    (hp : s.heap.IsTuple p xs) (hl : s.heap.IsList l ys) (he : xs[n]? = none ∨ ys[n]? = none)
    (q : ∀ h', (∀ c o, c ≠ z ∧ c ≠ TO ∧ c ≠ i ∧ c ≠ j → s.heap.get? c = some o → h'.get? c = some o) → Q none { s with heap := h' }) : wpAny (model prog w) A (pyNext (.ref z)) Q E s := by
  unfold pyNext
  refine wpAny_bind (wpAny_attempt (wpAny_callSpecial?_slot (name := Str.ofString "__next__") ⟨_, S.Z, rfl⟩ F.slot_zip_next (wpAny_call_entry F.slot_zip_next ⟨_, S.Z, rfl⟩ F.entry_zip_next ?_ (F.args_zip_next_1 _))))
  exact stop hh D S hp hl he fun h' e k ⟨o, h1, h2⟩ => wpAny_bind (wpAny_isInstance (T := "StopIteration") (b := true) ⟨o, h1, h2⟩ isSubtype_stop (wpAny_pure (q _ k)))
end
/-- the heap with the five new objects -/
def mk1 (h : Heap) (p : Addr) : Heap := h.push { cls := .type "tuple_iterator", data := .fields #[.ref p, .int 0 0] }
def mk2 (h : Heap) (p l : Addr) : Heap := (mk1 h p).push { cls := .type "list_iterator", data := .fields #[.ref l, .int 0 0] }
def mk3 (h : Heap) (p l : Addr) : Heap := (mk2 h p l).push { cls := .type "tuple", data := .seq #[.ref h.objs.size, .ref (mk1 h p).objs.size] }
def mk4 (h : Heap) (p l : Addr) : Heap := (mk3 h p l).push { cls := .type "tuple", data := .seq #[.none, .none] }
def mk5 (h : Heap) (p l : Addr) : Heap := (mk4 h p l).push { cls := .type "zip", data := .fields #[.none, .bool false, .bool false, .ref (mk2 h p l).objs.size, .ref (mk3 h p l).objs.size] }
theorem made (p l : Addr) (xs ys : Array Value) : Meets (Builtin.«zip.__new__» ⟨[.type "zip", .ref p, .ref l], []⟩) (fun _ R s => s.heap.IsTuple p xs ∧ s.heap.IsList l ys ∧ R (.ok (.ret (.ref (mk4 s.heap p l).objs.size))) { s with heap := mk5 s.heap p l }) :=
  .of_wp fun prog w A R s hyp => by
    obtain ⟨hp, g, d, tk, os⟩ := s
    obtain ⟨a1, a2, a3⟩ := hyp
    have hsub := sub_zip
    have b1 : Heap.IsTuple (Shared.heap ⟨hp, g, d, tk, os⟩) p xs := a1
    have b2 : Heap.IsList (Shared.heap ⟨hp.push { cls := .type "tuple_iterator", data := .fields #[.ref p, .int 0 0] }, g, d, tk, os⟩) l ys := Heap.IsList.push a2 _
    wp_walk using wpAny_pyIter_tuple b1, wpAny_pyIter_list b2
    exact ⟨_, rfl, a3⟩
theorem mk_all (h : Heap) (p l : Addr) : Zst (mk5 h p l) (h.objs.size + 4) (h.objs.size + 2) (h.objs.size + 3) h.objs.size (h.objs.size + 1) p l 0 .none ∧ (mk4 h p l).objs.size = h.objs.size + 4 ∧ ∀ c o, h.get? c = some o → (mk5 h p l).get? c = some o := by
  have s1 : (mk1 h p).objs.size = h.objs.size + 1 := Heap.size_push ..
  have s2 : (mk2 h p l).objs.size = h.objs.size + 2 := by unfold mk2; rw [Heap.size_push, s1]
  have s3 : (mk3 h p l).objs.size = h.objs.size + 3 := by unfold mk3; rw [Heap.size_push, s2]
  have s4 : (mk4 h p l).objs.size = h.objs.size + 4 := by unfold mk4; rw [Heap.size_push, s3]
  have u45 : ∀ c o, (mk4 h p l).get? c = some o → (mk5 h p l).get? c = some o := fun c o e => Heap.get?_push_of_some _ e
  have u35 : ∀ c o, (mk3 h p l).get? c = some o → (mk5 h p l).get? c = some o := fun c o e => u45 c o (Heap.get?_push_of_some _ e)
  have u25 : ∀ c o, (mk2 h p l).get? c = some o → (mk5 h p l).get? c = some o := fun c o e => u35 c o (Heap.get?_push_of_some _ e)
  have u15 : ∀ c o, (mk1 h p).get? c = some o → (mk5 h p l).get? c = some o := fun c o e => u25 c o (Heap.get?_push_of_some _ e)
  refine ⟨⟨?_, ?_, ⟨Value.none, Value.none, ?_⟩, ?_, ?_⟩, s4, fun c o e => u15 c o (Heap.get?_push_of_some _ e)⟩
  · show (mk5 h p l).get? (h.objs.size + 4) = _
    rw [← s4, ← s2, ← s3]
    exact Heap.get?_push_size _ rfl
  · show (mk5 h p l).get? (h.objs.size + 2) = _
    rw [← s2, ← s1]
    exact u35 _ _ (Heap.get?_push_size _ rfl)
  · show (mk5 h p l).get? (h.objs.size + 3) = _
    rw [← s3]
    exact u45 _ _ (Heap.get?_push_size _ rfl)
  · exact ⟨_, u15 _ _ (Heap.get?_push_size _ rfl), rfl, rfl⟩
  · exact ⟨_, by rw [← s1]; exact u25 _ _ (Heap.get?_push_size _ rfl), rfl, rfl⟩
section
variable {prog : Program} {w : World} {A : Around} {E : Value → Shared → Prop} {s : Shared}
theorem calls {p l : Addr} {xs ys : Array Value} {Q : Value → Shared → Prop} (hp : s.heap.IsTuple p xs) (hl : s.heap.IsList l ys) (q : Q (.ref (s.heap.objs.size + 4)) { s with heap := mk5 s.heap p l }) :
    wpAny (model prog w) A (call (.type "zip") [.ref p, .ref l]) Q E s := by
  refine callType_new F.called_zip (by decide) (F.typeCall_zip_2 _ _) (F.newCall_zip_2 _ _) (fun obj => F.args_object_init_3 obj _ _) F.entry_zip_new (made p l xs ys) ⟨hp, hl, ?_⟩
  have hk := mk_all s.heap p l
  show _ ∧ _
  rw [hk.2.1]
  exact ⟨⟨_, hk.1.Z, rfl⟩, q⟩
end
/-- the tuple at a and the list at b, the items in new pairs -/
def ItM (K : PySem.W.Frag) (a b : Addr) : It :=
  ⟨fun i H => ∃ (xs ys : List V) (x y : V), SqT K H a xs ∧ SqL K H b ys ∧ xs[i]? = some x ∧ ys[i]? = some y,
    fun i H v H' => ∃ T x y, v = .ref T ∧ H T = none ∧ H' = upd H T (.tup [x, y]) ∧ (∀ xs, SqT K H a xs → xs[i]? = some x) ∧ ∀ ys, SqL K H b ys → ys[i]? = some y,
    fun i H => ∃ xs ys : List V, SqT K H a xs ∧ SqL K H b ys ∧ (xs.length ≤ i ∨ ys.length ≤ i)⟩
theorem turnM {P : Program} {w : World} {K : PySem.W.Frag} {elts : List Expr} {kk : Nat} {tpos : Pos} {a b z TI TO i1 i2 : Addr} (D : ZipApart z TI TO i1 i2 a b) :
    Turn P w K (.Tuple elts kk tpos) (ItM K a b) [z, TI, TO, i1, i2] z (fun i h => Zst h z TI TO i1 i2 a b i .none) where
  mem := List.mem_cons_self ..
  obj := fun i h S c hc => by
    obtain ⟨x, y, hO⟩ := S.O
    obtain ⟨o1, e1, _, d1⟩ := S.P
    obtain ⟨o2, e2, _, d2⟩ := S.L
    simp only [List.mem_cons, List.not_mem_nil, or_false] at hc
    rcases hc with rfl | rfl | rfl | rfl | rfl
    · exact ⟨_, S.Z, fun v q => nomatch q⟩
    · exact ⟨_, S.I, fun v q => nomatch q⟩
    · exact ⟨_, hO, fun v q => nomatch q⟩
    · exact ⟨o1, e1, fun v q => by rw [d1] at q; cases q⟩
    · exact ⟨o2, e2, fun v q => by rw [d2] at q; cases q⟩
  keep := fun i h h' S k => by
    obtain ⟨x, y, hO⟩ := S.O
    exact ⟨k z (by simp) _ S.Z, k TI (by simp) _ S.I, ⟨x, y, k TO (by simp) _ hO⟩, S.P.at fun o q => k i1 (by simp) o q, S.L.at fun o q => k i2 (by simp) o q⟩
  item := by
    intro X e1 e2 e3 hc i pins s σ H E I hf S hg
    subst e1 e2 e3
    obtain ⟨xs, ys, x, y, hqx, hqy, hx, hy⟩ := hg
    obtain ⟨its, rv, p, _⟩ := I.tuple hqx
    obtain ⟨its2, rv2, p2, _⟩ := I.list hqy
    obtain ⟨u, hu, ru⟩ := rv.get hx
    obtain ⟨u2, hu2, ru2⟩ := rv2.get hy
    have lz : z < s.heap.objs.size := Heap.lt_size S.Z
    have lt : ∀ c, c ∈ [z, TI, TO, i1, i2] → c < s.heap.objs.size := fun c hc => by
      obtain ⟨x, y, hO⟩ := S.O
      simp only [List.mem_cons, List.not_mem_nil, or_false] at hc
      rcases hc with rfl | rfl | rfl | rfl | rfl
      · exact lz
      · exact Heap.lt_size S.I
      · exact Heap.lt_size hO
      · obtain ⟨_, e, _⟩ := S.P; exact Heap.lt_size e
      · obtain ⟨_, e, _⟩ := S.L; exact Heap.lt_size e
    refine nxt D S p p2.isList (x := u) (y := u2) (by simpa using hu) (by simpa using hu2) fun h1 S1 hT _ hk => ⟨_, rfl, wpAny_letOwnedTupleGo_zip (s := { s with heap := h1 }) S1.Z fun h2 Z2 sb => ?_⟩
    have T2 : h2.get? s.heap.objs.size = some { cls := .type "tuple", data := .seq #[u, u2] } := (sb.2 _ (Nat.ne_of_gt lz)).trans hT
    have ok : ObjOk X.prog X.w (upd H s.heap.objs.size (.tup [x, y])) h2 s.heap.objs.size (.tup [x, y]) := ⟨(show 2 ≤ sizeLine by decide), [u, u2], .cons ru (.cons ru2 .nil), ⟨_, T2, rfl, _, rfl⟩⟩
    have I1 : Inv X pins σ (upd H s.heap.objs.size (.tup [x, y])) { s with heap := h2 } := I.turnedNew (t' := s.toks) (ch := [z, TI, TO, i1, i2]) (fun c o hb q => (sb.2 c (fun e => hb (by simp [e]))).trans (hk c o ⟨fun e => hb (by simp [e]), fun e => hb (by simp [e]), fun e => hb (by simp [e]), fun e => hb (by simp [e])⟩ q)) hf (Nat.le_refl _) ok
    obtain ⟨a0, b0, O1⟩ := S1.O
    refine ⟨.ref s.heap.objs.size, _, I1, rfl, ⟨_, x, y, rfl, I.hok.fresh (Nat.le_refl _), rfl, fun l hl => by rw [I.tuple_inj hl hqx]; exact hx, fun l hl => by rw [I.list_inj hl hqy]; exact hy⟩, ⟨Z2, (sb.2 _ D.TIz).trans S1.I, ⟨a0, b0, (sb.2 _ D.TOz).trans O1⟩, S1.P.at fun o q => (sb.2 _ D.i1z).trans q, S1.L.at fun o q => (sb.2 _ D.i2z).trans q⟩, fun c hc => ?_⟩
    rw [upd_ne (Nat.ne_of_lt (lt c hc))]
    exact (hf c hc).1
  done := by
    intro X e1 e2 e3 hc i pins s σ H E I hf S hg
    subst e1 e2 e3
    obtain ⟨xs, ys, hqx, hqy, hend⟩ := hg
    obtain ⟨its, rv, p, _⟩ := I.tuple hqx
    obtain ⟨its2, rv2, p2, _⟩ := I.list hqy
    have l1 := rv.length
    have l2 := rv2.length
    have he : its.toArray[i]? = none ∨ its2.toArray[i]? = none := hend.elim (fun q => .inl (by simp; omega)) (fun q => .inr (by simp; omega))
    exact nxtE (I.ok.hd hc) D S p p2.isList he fun h' hk => ⟨rfl, I.turnedL (t' := s.toks) (ch := [z, TI, TO, i1, i2]) (fun c o hb q => hk c o ⟨fun e => hb (by simp [e]), fun e => hb (by simp [e]), fun e => hb (by simp [e]), fun e => hb (by simp [e])⟩ q) hf⟩
  self := fun A i s Q E S h => wpAny_pyIter_zip S.Z h
def iZipM (K : PySem.W.Frag) (ta : TA) : TI := fun σ H R => ta σ H fun vs H1 => ∃ a b xs ys, vs = [.ref a, .ref b] ∧ SqT K H1 a xs ∧ SqL K H1 b ys ∧ R (ItM K a b) H1
theorem pi_zipM {X : Cx} {e e2 : Expr} {ta : TA} {p pos tpos : Pos} {elts : List Expr} {kk : Nat} (hg : Gl X "zip") (hm : X.mg "zip" = none) (ha : PA X [e, e2] ta)
    (hs : starEach [e, e2] X.env = (false, eval e X.env) :: starEach [e2] X.env := by rfl) (hpl : (backTo pos (starEach [e2] X.env)).any (·.1) = false := by rfl) :
    PI X (.Tuple elts kk tpos) (.Call (.Name "zip" p) [e, e2] [] pos) (iZipM X.K ta) := by
  refine ⟨fun pins s σ H R I h => Call_ (ld_blt I hg hm PyProof.Rows.boot_zip (PyProof.Rows.callWith_type1 (thn (ha.run pos pins s σ H _ I h) fun us s1 ⟨vs, H1, I1, r1, a, b, xs, ys, ex, hqx, hqy, q⟩ => ?_) hs hpl))⟩
  subst ex
  obtain ⟨ua, ub, rfl, ra, rb⟩ : ∃ ua ub, us = [ua, ub] ∧ RelV (.ref a) ua ∧ RelV (.ref b) ub := by
    cases r1 with
    | cons r rr =>
      cases rr with
      | cons r' rr => cases rr; exact ⟨_, _, rfl, r, r'⟩
  obtain rfl : ua = .ref a := ra
  obtain rfl : ub = .ref b := rb
  obtain ⟨its, rv, p1, _⟩ := I1.tuple hqx
  obtain ⟨its2, rv2, p2, _⟩ := I1.list hqy
  obtain ⟨S, _, hk⟩ := mk_all s1.heap a b
  refine calls p1 p2.isList (wpAny_pyIter_zip S.Z ?_)
  have I2 : Inv X pins σ H1 { s1 with heap := mk5 s1.heap a b } := I1.kept (t' := s1.toks) hk
  obtain ⟨o1, ho1, _⟩ := id p1
  refine ⟨s1.heap.objs.size + 4, [s1.heap.objs.size + 4, s1.heap.objs.size + 2, s1.heap.objs.size + 3, s1.heap.objs.size, s1.heap.objs.size + 1], _, _, H1, rfl, I2, turnM (PySem.W.ktu_apart s1.heap.objs.size a b (Heap.lt_size ho1) p2.lt), S, fun c hc => ?_, q⟩
  have hle : s1.heap.objs.size ≤ c := by
    simp only [List.mem_cons, List.not_mem_nil, or_false] at hc
    rcases hc with e | e | e | e | e <;> rw [e] <;> first | exact Nat.le_add_right _ _ | exact Nat.le_refl _
  exact I1.fpOk hle (I1.hok.fresh hle)
theorem walkM {K : PySem.W.Frag} {a b : Addr} {xs ys : List V} {n : Nat} (hn : n = min xs.length ys.length) : Walk (ItM K a b) n (fun H => SqT K H a xs ∧ SqL K H b ys) (YPair (fun i => xs[i]?) (fun i => ys[i]?)) := by
  subst hn
  refine ⟨fun i _ hi q => ?_, fun _ q => ⟨xs, ys, q.1, q.2, by omega⟩, fun i H v H' _ q ⟨T, x, z, h1, h2, h3, h4, h5⟩ => ⟨T, x, z, h1, h2, h3, h4 xs q.1, h5 ys q.2⟩⟩
  exact ⟨xs, ys, xs[i]'(by omega), ys[i]'(by omega), q.1, q.2, List.getElem?_eq_getElem _, List.getElem?_eq_getElem _⟩
end ZMix

namespace Wp
open PySem PySem.Spec PyProof.Rows L2 TyNe He

/-! ### tuples and tables of the module -/
/-- a tuple of the module -/
structure TupK (K : PySem.W.Frag) (a : Addr) (xs : List V) : Prop where
  ex : ∃ (o : Obj) (its : Array Value) (n : Nat), K.lookup a = some o ∧ o.cls = .type "tuple" ∧ o.data = .seq its n ∧ its.size ≤ sizeLine ∧ Vals xs its.toList
theorem TupK.sq {K : PySem.W.Frag} {a : Addr} {xs : List V} {H : Hp} (h : TupK K a xs) : SqT K H a xs := .inr h.ex
theorem TupK.mk' {K : PySem.W.Frag} {a : Addr} {xs : List V} {od : Option Addr} {its : Array Value} {n : Nat} {sl : Array (Option Value)} (h : K.lookup a = some ⟨.type "tuple", od, .seq its n, sl⟩) (hz : its.size ≤ 1000) (hv : Vals xs its.toList) : TupK K a xs :=
  ⟨_, its, n, h, rfl, rfl, Nat.le_trans hz (by decide), hv⟩
def tabG (kv : List (Str × V)) : Str → Option V := fun z => (kv.find? fun p => decide (p.1 = z)).map (·.2)
def rTab (A : Addr) (g : Str → Option V) : R2 := fun x y H Q => ∃ z v, x = .ref A ∧ y = .str z ∧ g z = some v ∧ Q v H
theorem ix_tab {X : Cx} {A : Addr} {g : Str → Option V} (M : MDict X.K X.w A g) : IxR X (rTab A g) := by
  intro e1 e2 pins s σ H x y v u Q I rx ry ⟨z, r, ex, ey, hg, q⟩ hs
  obtain ⟨es, n, D, hn⟩ := M.ex
  obtain ⟨t, h1, h2⟩ := hn z
  rw [hg] at h2
  cases t with
  | none => exact h2.elim
  | some t => exact ix_kdict e1 e2 pins s σ H x y v u Q I rx ry ⟨A, z, r, ex, ey, ⟨es, n, t, D.at_, D.lit, h1, h2⟩, q⟩ hs
/-- the entries of a table -/
def EntLit (P : Params) : List DictEntry → List (Str × V) → Prop
  | [], [] => True
  | e :: r, p :: s => (∃ t, e.key = .str p.1 t ∧ e.hash = PyData.keyHash P p.1 ∧ RelV p.2 e.val) ∧ EntLit P r s
  | _, _ => False
theorem EntLit.keys {P : Params} : ∀ {l : List DictEntry} {kv : List (Str × V)}, EntLit P l kv → PySem.W.KeysLit P l
  | [], [], _ => trivial
  | e :: r, p :: s, h => ⟨by obtain ⟨⟨t, h1, h2, _⟩, _⟩ := h; exact ⟨_, t, h1, h2⟩, EntLit.keys h.2⟩
  | [], _ :: _, h => h.elim
  | _ :: _, [], h => h.elim
theorem EntLit.find {P : Params} (z : Str) : ∀ {l : List DictEntry} {kv : List (Str × V)}, EntLit P l kv → RelO ((kv.find? fun p => decide (p.1 = z)).map (·.2)) ((l.find? (·.key.isStr z)).map (·.val)) ∧ l.any (·.refKey) = false
  | [], [], _ => ⟨trivial, rfl⟩
  | e :: r, p :: s, h => by
    obtain ⟨⟨t, h1, h2, h3⟩, h4⟩ := h
    obtain ⟨i1, i2⟩ := EntLit.find z h4
    have hr : e.refKey = false := by unfold DictEntry.refKey; rw [h1]
    refine ⟨?_, by rw [List.any_cons, hr, i2]; rfl⟩
    rw [List.find?_cons, List.find?_cons]
    have hs : e.key.isStr z = decide (p.1 = z) := by
      rw [h1]
      show (p.1 == z) = _
      by_cases q : p.1 = z
      · rw [q, decide_eq_true rfl]; exact beq_self_eq_true z
      · rw [decide_eq_false q]; exact beq_eq_false_iff_ne.mpr q
    rw [hs]
    cases decide (p.1 = z)
    · exact i1
    · exact h3
  | [], _ :: _, h => h.elim
  | _ :: _, [], h => h.elim
theorem mdictL {K : PySem.W.Frag} {w : World} {d : Addr} {es : Array DictEntry} {n : Nat} {kv : List (Str × V)} (hl : K.lookup d = some ⟨.type "dict", none, .dict es n, #[]⟩) (he : EntLit w.params es.toList kv) (low : (d == sysModules) = false) : MDict K w d (tabG kv) := by
  refine ⟨es, n, ⟨hl, he.keys, low⟩, fun z => ?_⟩
  obtain ⟨h1, h2⟩ := he.find z
  refine ⟨_, ?_, h1⟩
  unfold PySem.W.nsIn
  rw [hl]
  dsimp only
  cases es.toList.find? (·.key.isStr z) with
  | some e => rfl
  | none => rw [h2]; rfl
/-! ### texts -/
abbrev tJS (ts : List TE) : TE := fun σ H Q => tJs ts Str.empty σ H fun out H1 => Q (.str out) H1
abbrev qJoin (K : PySem.W.Frag) : V → List V → Hp → VK → Prop := fun x xs H Q => ∃ a p, ∃ ys : List Str, x = .str a ∧ xs = [.ref p] ∧ (SqL K H p (ys.map V.str) ∨ SqT K H p (ys.map V.str)) ∧ (ys.map (·.length)).sum + ys.length * a.length ≤ 16777216 ∧ Q (.str (Txt.join a ys)) H
abbrev qCount : V → List V → Hp → VK → Prop := fun x xs H Q => ∃ a b, x = .str a ∧ xs = [.str b] ∧ Q (.int (Txt.count a b)) H
abbrev qSplit : V → List V → Hp → VK → Prop := fun x xs H Q => ∃ a b, x = .str a ∧ xs = [.str b] ∧ (b.length == 0) = false ∧ a.length + 2 ≤ sizeLine ∧ rNewStrs (Txt.split a b) H Q
abbrev qStarts : V → List V → Hp → VK → Prop := fun x xs H Q => ∃ a b, x = .str a ∧ xs = [.str b] ∧ Q (.bl (Txt.startswith a b)) H
section
variable {K : PySem.W.Frag} {σ : L2.St} {H : Hp} {Q : VK} {te : TE} {ts : List TE}
theorem w_js (q : tJs ts Str.empty σ H fun out H1 => Q (.str out) H1) : tJS ts σ H Q := q
theorem w_jcons {acc : Str} {R : Str → Hp → Prop} (q : te σ H fun x H1 => ∃ y : Str, x = .str y ∧ (acc ++ y).length ≤ sizeLine ∧ tJs ts (acc ++ y) σ H1 R) : tJs (te :: ts) acc σ H R := q
theorem w_jnil {acc : Str} {R : Str → Hp → Prop} (q : R acc H) : tJs [] acc σ H R := q
theorem w_jy {acc y : Str} {R : Str → Hp → Prop} (h : (acc ++ y).length ≤ 100000) (q : tJs ts (acc ++ y) σ H R) : ∃ z : Str, V.str y = .str z ∧ (acc ++ z).length ≤ sizeLine ∧ tJs ts (acc ++ z) σ H R := ⟨y, rfl, sz h, q⟩
theorem w_fmt (q : te σ H fun x H1 => (∃ y : Str, x = .str y ∧ y.length ≤ sizeLine ∧ Q (.str y) H1) ∨ ∃ i : Int, x = .int i ∧ i.natAbs.log2 < 1920 ∧ Q (.str (toString i)) H1) : tFmt te σ H Q := q
theorem w_fmtS {y : Str} {A : Prop} {R : Str → Prop} (h : y.length ≤ 100000) (q : R y) : (∃ z : Str, V.str y = .str z ∧ z.length ≤ sizeLine ∧ R z) ∨ A := .inl ⟨y, rfl, sz h, q⟩
theorem log_small {i : Int} (h0 : 0 ≤ i) (h1 : i ≤ 100000000000000000000) : i.natAbs.log2 < 1920 := by
  have h2 : i.natAbs ≤ 100000000000000000000 := by omega
  have h3 : i.natAbs.log2 < 67 := by
    by_cases h : i.natAbs = 0
    · rw [h]; decide
    · exact (Nat.log2_lt h).mpr (Nat.lt_of_le_of_lt h2 (by decide))
  omega
theorem w_fmtI {i : Int} {A : Prop} {R : Int → Prop} (h0 : 0 ≤ i) (h1 : i ≤ 100000000000000000000) (q : R i) : A ∨ ∃ j : Int, V.int i = .int j ∧ j.natAbs.log2 < 1920 ∧ R j := .inr ⟨i, rfl, log_small h0 h1, q⟩
theorem int_len {i : Int} (h0 : 0 ≤ i) (h1 : i ≤ 100000000000000000000) : (Str.ofString (toString i)).length ≤ 70 := by
  have h2 : i.natAbs.log2 < 67 := by
    by_cases h : i.natAbs = 0
    · rw [h]; decide
    · exact (Nat.log2_lt h).mpr (Nat.lt_of_le_of_lt (show i.natAbs ≤ 100000000000000000000 by omega) (by decide))
  have e := int_text_length_le (k := 67) (by decide) h2
  rw [PySem.ofString_length]
  omega
theorem w_joinL {a : Str} {p : Addr} {ys : List Str} (h : SqL K H p (ys.map V.str)) (z : (ys.map (·.length)).sum + ys.length * a.length ≤ 100000) (q : Q (.str (Txt.join a ys)) H) : qJoin K (.str a) [.ref p] H Q := ⟨a, p, ys, rfl, rfl, .inl h, Nat.le_trans z (by decide), q⟩
theorem w_joinT {a : Str} {p : Addr} {ys : List Str} (h : SqT K H p (ys.map V.str)) (z : (ys.map (·.length)).sum + ys.length * a.length ≤ 100000) (q : Q (.str (Txt.join a ys)) H) : qJoin K (.str a) [.ref p] H Q := ⟨a, p, ys, rfl, rfl, .inr h, Nat.le_trans z (by decide), q⟩
theorem w_count {a b : Str} (q : Q (.int (Txt.count a b)) H) : qCount (.str a) [.str b] H Q := ⟨a, b, rfl, rfl, q⟩
theorem strKind_pos (a : Str) : 1 ≤ Builtin.Str.strKind a := by
  unfold Builtin.Str.strKind
  split
  · exact Nat.le_refl _
  · split <;> decide
theorem w_split {a b : Str} (h : (b.length == 0) = false) (z : a.length ≤ 100000) (q : ∀ p, H p = none → Q (.ref p) (upd H p (.lst ((Txt.split a b).map V.str)))) : qSplit (.str a) [.str b] H Q :=
  ⟨a, b, rfl, rfl, h, Nat.le_trans (Nat.add_le_add_right z 2) (by decide), q⟩
theorem w_tab {A : Addr} {g : Str → Option V} {z : Str} {v : V} (h : g z = some v) (q : Q v H) : rTab A g (.ref A) (.str z) H Q := ⟨z, v, rfl, rfl, h, q⟩
theorem w_catA {a b : Addr} {xs ys : List V} (h : SqT K H a xs) (h' : SqT K H b ys) (z : xs.length + ys.length ≤ 1000) (q : ∀ p H', Same H H' → SqT K H' p (xs ++ ys) → Q (.ref p) H') : rCatA K (.ref a) (.ref b) H Q := by
  refine ⟨a, b, xs, ys, rfl, rfl, h, h', Nat.le_trans z (by decide), fun e => ?_, fun _ e => ?_, fun _ _ p hp => ?_⟩
  · subst e
    exact q b H (Same.refl H) h'
  · subst e
    rw [List.append_nil] at q
    exact q a H (Same.refl H) h
  · exact q p _ (Same.upd (Same.refl H) hp) (SqT.of upd_same)
end
/-! ### new objects as heaps of their own; tests that are known -/
theorem Same.get {H H' : Hp} {a : Addr} {o : HO} (h : Same H H') (e : H a = some o) : H' a = some o := h _ _ e
section
variable {K : PySem.W.Frag} {σ : L2.St} {H : Hp} {Q : VK} {v : V} {tr : TA}
/-- a new object -/
def New (H : Hp) (o : HO) (R : Addr → Hp → Prop) : Prop := ∀ p, H p = none → R p (upd H p o)
theorem w_new {o : HO} {R : Addr → Hp → Prop} (q : ∀ p H2, H p = none → Same H H2 → H2 p = some o → R p H2) : New H o R := fun p hp => q p _ hp (Same.upd (Same.refl H) hp) upd_same
theorem newT {t : Addr} {o : HO} (ht : H t = none) : ∃ G, G = upd H t o ∧ Same H G ∧ G t = some o := ⟨_, rfl, Same.upd (Same.refl H) ht, upd_same⟩
theorem Same.sqT {H H' : Hp} {a : Addr} {xs : List V} (e : Same H H') (h : SqT K H a xs) : SqT K H' a xs := h.elim (fun r => .inl (r.elim (fun r => .inl (e _ _ r)) fun ⟨o, r⟩ => .inr ⟨o, e _ _ r⟩)) .inr
theorem w_zipM {ta : TA} {R : It → Hp → Prop} (q : ta σ H fun vs H1 => ∃ a b xs ys, vs = [.ref a, .ref b] ∧ SqT K H1 a xs ∧ SqL K H1 b ys ∧ R (ZMix.ItM K a b) H1) : ZMix.iZipM K ta σ H R := q
theorem w_tupV (q : tr σ H fun xs H1 => xs.length ≤ sizeLine ∧ New H1 (.tup xs) fun p H2 => Q (.ref p) H2) : tTup tr σ H Q := q
theorem w_lstV (q : tr σ H fun xs H1 => xs.length ≤ sizeLine ∧ New H1 (.lst xs) fun p H2 => Q (.ref p) H2) : tLst tr σ H Q := q
theorem w_appV {p : Addr} {xs : List V} (h : H p = some (.lst xs)) (z : xs.length ≤ 100000) (q : ∀ H2, Kp p H H2 → H2 p = some (.lst (xs ++ [v])) → Q .non H2) : rAppend (.ref p) [v] H Q :=
  ⟨p, xs, v, rfl, rfl, h, Nat.lt_of_le_of_lt z (by decide), q _ Kp.refl.updp upd_same⟩
theorem w_catV {l b : Addr} {xs zs : List V} (h : H l = some (.lst xs)) (h' : H b = some (.lst zs)) (z : xs.length + zs.length ≤ 1000000) (q : ∀ p H2, H p = none → Same H H2 → H2 p = some (.lst (xs ++ zs)) → Q (.ref p) H2) : rCat (.ref l) (.ref b) H Q :=
  ⟨l, b, xs, zs, rfl, rfl, h, h', Nat.le_trans z (by decide), fun p hp => q p _ hp (Same.upd (Same.refl H) hp) upd_same⟩
theorem w_listOfV {p : Addr} {ys : List V} (h : SqL K H p ys ∨ SqT K H p ys) (q : ∀ l H2, H l = none → Same H H2 → H2 l = some (.lst ys) → Q (.ref l) H2) : qListOf K [.ref p] H Q :=
  ⟨p, ys, rfl, h, fun l hl => q l _ hl (Same.upd (Same.refl H) hl) upd_same⟩
theorem w_slTV {a : Addr} {xs : List V} {lo hi : Option Int} (h : SqT K H a xs) (n : ¬ (HT.sIx xs.length 0 lo = 0 ∧ HT.sIx xs.length xs.length hi = xs.length)) (q : ∀ p H2, H p = none → Same H H2 → H2 p = some (.tup (cutV xs lo hi)) → Q (.ref p) H2) : rSlT K (.ref a) lo hi H Q :=
  ⟨a, xs, rfl, h, n, fun p hp => q p _ hp (Same.upd (Same.refl H) hp) upd_same⟩
theorem w_slLV {a : Addr} {xs : List V} {lo hi : Option Int} (h : SqL K H a xs) (q : ∀ p H2, H p = none → Same H H2 → H2 p = some (.lst (cutV xs lo hi)) → Q (.ref p) H2) : rSlL K (.ref a) lo hi H Q :=
  ⟨a, xs, rfl, h, fun p hp => q p _ hp (Same.upd (Same.refl H) hp) upd_same⟩
theorem w_splitV {a b : Str} (h : (b.length == 0) = false) (z : a.length ≤ 100000) (q : ∀ p H2, H p = none → Same H H2 → H2 p = some (.lst ((Txt.split a b).map V.str)) → Q (.ref p) H2) : qSplit (.str a) [.str b] H Q :=
  ⟨a, b, rfl, rfl, h, Nat.le_trans (Nat.add_le_add_right z 2) (by decide), fun p hp => q p _ hp (Same.upd (Same.refl H) hp) upd_same⟩
theorem w_inTb {p : Addr} {xs : List V} {b : Bool} (h : SqT K H p xs) (f : flatV v = true) (fs : xs.all flatV = true) (e : inV v xs = b) (q : Q (.bl b) H) : rIn K false v (.ref p) H Q := w_inT h f fs (by rw [e]; exact q)
theorem w_inLb {p : Addr} {xs : List V} {b : Bool} (h : SqL K H p xs) (f : flatV v = true) (fs : xs.all flatV = true) (e : inV v xs = b) (q : Q (.bl b) H) : rIn K false v (.ref p) H Q := w_inL h f fs (by rw [e]; exact q)
theorem w_dec1 {c A B : Prop} [Decidable c] (h : c) (q : A) : if decide c = true then A else B := by rw [if_pos (decide_eq_true h)]; exact q
theorem w_dec0 {c A B : Prop} [Decidable c] (h : ¬ c) (q : B) : if decide c = true then A else B := by rw [if_neg (by rw [decide_eq_true_iff]; exact h)]; exact q
end
/-! ### join -/
theorem join_nil (a : Str) : Txt.join a [] = Str.empty := by rfl
theorem join_eq (a : Str) (ys : List Str) : Txt.join a ys = Str.join a ys := StrLaws.glued_eq_join a ys
theorem join_len (a : Str) (ys : List Str) : (Txt.join a ys).length ≤ (ys.map (·.length)).sum + ys.length * a.length := by
  rw [join_eq]
  exact StrLaws.join_length_le a ys
theorem sum_le {α : Type} (f : α → Nat) (m : Nat) : ∀ {l : List α}, (∀ x ∈ l, f x ≤ m) → (l.map f).sum ≤ l.length * m
  | [], _ => Nat.zero_le _
  | x :: l, h => by
    rw [List.map_cons, List.sum_cons, List.length_cons, Nat.succ_mul]
    have := sum_le f m (l := l) fun y hy => h y (List.mem_cons_of_mem _ hy)
    have := h x (List.mem_cons_self ..)
    omega
/-! ### lines of a text -/
theorem split_len {a b : Str} (hb : b.length = 1) (hk : ¬ (Builtin.Str.strKind a < Builtin.Str.strKind b)) : ((Txt.split a b).length : Int) = Txt.count a b + 1 := by
  unfold Txt.split Txt.count
  by_cases h : a.length < b.length
  · have h0 : a.length = 0 := by omega
    rw [if_pos (by rw [decide_eq_true h]; rfl)]
    have e : a = ⟨#[]⟩ := by
      obtain ⟨c⟩ := a
      have : c.size = 0 := h0
      rw [Array.size_eq_zero_iff] at this
      rw [this]
    subst e
    have : Builtin.Str.occurrences ⟨#[]⟩ b 0 (⟨#[]⟩ : Str).length ((⟨#[]⟩ : Str).length + 1) = [] := by
      unfold Builtin.Str.occurrences
      show (Id.run do _) = _
      simp [Str.length, hb]
      have h1 : b.cps.size = 1 := hb
      have h2 : b.cps ≠ #[] := fun e => by rw [e] at h1; exact nomatch h1
      simp [h2]
    rw [this]
    rfl
  · rw [if_neg (by rw [decide_eq_false h, decide_eq_false hk]; decide)]
    by_cases h2 : (Builtin.Str.occurrences a b 0 a.length (a.length + 1)).isEmpty = true
    · rw [if_pos h2, List.isEmpty_iff.mp h2]
      rfl
    · rw [if_neg h2]
      unfold Builtin.Str.partsBetween
      simp only [List.length_map, List.length_zip, List.length_cons, List.length_append, List.length_map, List.length_nil]
      omega
theorem split_lines (a : Str) : ((Txt.split a (Str.ofString "\n")).length : Int) = Txt.count a (Str.ofString "\n") + 1 := split_len rfl fun h => by
  have h1 := strKind_pos a
  have h2 : Builtin.Str.strKind (Str.ofString "\n") = 1 := by decide +kernel
  omega
theorem count_le (a : Str) : 0 ≤ Txt.count a (Str.ofString "\n") ∧ Txt.count a (Str.ofString "\n") ≤ a.length + 1 := by
  have h1 := split_lines a
  have h2 := PyProof.Rows.split_le a (Str.ofString "\n")
  refine ⟨by unfold Txt.count; exact Int.natCast_nonneg _, by omega⟩
end Wp

namespace Wp
open PySem PySem.Spec PyProof.Rows L2 TyNe

/-! ### defs that may raise -/
section
variable {P : Program} {w : World} {K : PySem.W.Frag} {mg : Str → Option Value} {base : Heap}
theorem fnX {x qual : Str} {st : Stmt} {f : Addr} {fd : FuncData} {N ps : List Str} {k : Nat} {sp : Sp} (F : C8.Fun K x qual st f fd) (S : FnScope N ps (C8.fnScope st)) (len : ∀ vs H Q E, sp vs H Q E → vs.length = ps.length)
    (hbody : ∀ (cdv : Value) (A : Around) (outer : List Env) (s : Shared) (H : Hp) (vs : List V) (Q : VK) (E : XK), Room k (A.deeper (envOfC qual (C8.fnScope st) s.heap.objs.size f cdv)) → sp vs H Q E →
      ∃ t, PSs (cxOf (L2.CX P w) P w K mg base N qual (C8.fnScope st) f cdv A outer s H E) (C8.fnBody st) t ∧ t { nx := fun _ H' => Q .non H', rt := Q } (start N vs) H) : FnOk P w K mg base (L2.CX P w) (k + 1) f fd ps sp := by
  obtain ⟨oc, od, dV, kV, doc, pm, an, cdv, ct, osl, rfl, lk, hcd⟩ := F.ex
  refine fn_of lk hcd S len fun A outer s H vs Q E hr hsp => ?_
  obtain ⟨t, h, q⟩ := hbody cdv A outer s H vs Q E hr hsp
  exact ⟨t, h, q⟩
/-- a def that may raise, under its name -/
structure XCal (P : Program) (w : World) (K : PySem.W.Frag) (mg : Str → Option Value) (base : Heap) (k : Nat) (x : Str) (sp : Sp) : Prop where
  ex : ∃ (f : Addr) (fd : FuncData) (ps : List Str), FnOk P w K mg base (L2.CX P w) k f fd ps sp ∧ mg x = some (.ref f) ∧ PySem.W.keepIn K (.ref f) = true ∧ Binds K fd ps []
theorem calX {x : Str} {st : Stmt} {f : Addr} {fd : FuncData} {N ps : List Str} {k : Nat} {sp : Sp} (F : C8.Def K mg x st f fd) (b : Binds K fd ps []) (S : FnScope N ps (C8.fnScope st)) (len : ∀ vs H Q E, sp vs H Q E → vs.length = ps.length)
    (hbody : ∀ (cdv : Value) (A : Around) (outer : List Env) (s : Shared) (H : Hp) (vs : List V) (Q : VK) (E : XK), Room k (A.deeper (envOfC x (C8.fnScope st) s.heap.objs.size f cdv)) → sp vs H Q E →
      ∃ t, PSs (cxOf (L2.CX P w) P w K mg base N x (C8.fnScope st) f cdv A outer s H E) (C8.fnBody st) t ∧ t { nx := fun _ H' => Q .non H', rt := Q } (start N vs) H) : XCal P w K mg base (k + 1) x sp :=
  ⟨f, fd, ps, fnX F.fn S len hbody, F.mgf, F.kp, b⟩
end
section
variable {X : Cx} {k j : Nat} {x : Str} {sp : Sp} {p pos : Pos} {e : Expr} {es : List Expr} {t : TA}
theorem passX0 : Passes (L2.CX X.prog X.w) X C8.E0 := fun _ _ _ _ _ _ _ ⟨_, _, _, _, _, _, _, _, _, _, _, _, h⟩ => h.elim
/-- called where it does not raise -/
theorem pe_cx (c : XCal X.prog X.w X.K X.mg X.base k x sp) (hr : Room j X.A) (hk : k ≤ j) (hg : Gl X x) (ha : PA X (e :: es) t)
    (hdb : (x == ("__debug__" : Str)) = false := by decide) (he : starEach (e :: es) X.env = (false, eval e X.env) :: starEach es X.env := by rfl) (hpl : (backTo pos (starEach es X.env)).any (·.1) = false := by rfl) :
    PE X (.Call (.Name x p) (e :: es) [] pos) (tCall sp [] C8.E0 t) := by
  obtain ⟨f, fd, ps, F, hm, kp, b⟩ := c.ex
  exact pe_call F (hr.mono hk) hg hm kp b .nil passX0 ha hdb he hpl
/-- called where it may raise -/
theorem pe_cs {W : WX} (c : XCal X.prog X.w X.K X.mg X.base k x sp) (hr : Room j X.A) (hk : k ≤ j) (hg : Gl X x) (tk : Takes X W) (ha : PA X (e :: es) t)
    (hdb : (x == ("__debug__" : Str)) = false := by decide) (he : starEach (e :: es) X.env = (false, eval e X.env) :: starEach es X.env := by rfl) (hpl : (backTo pos (starEach es X.env)).any (·.1) = false := by rfl) :
    PE X (.Call (.Name x p) (e :: es) [] pos) (tCallS sp (WE W) t) := by
  obtain ⟨f, fd, ps, F, hm, kp, b⟩ := c.ex
  exact pe_callS F (hr.mono hk) hg hm kp b (fun σ => passAt tk σ) ha hdb he hpl
theorem takes0 : Takes X (fun _ _ _ _ => False) := fun _ _ ⟨_, _, _, _, _, _, _, _, _, _, _, _, _, _, _, _, w⟩ => w.elim
/-- what is known only where the reading says so -/
theorem pss_given {A : Prop} {st : List Stmt} {t : TS} (h : A → PSs X st t) : PSs X st (fun D σ H => A ∧ t D σ H) := ⟨fun pins s σ H D I q => (h q.1).run pins s σ H D I q.2⟩
end
/-- if xs: -/
abbrev tTru (K : PySem.W.Frag) (ta : TE) : TT := fun σ H Q => ta σ H fun x H' => ∃ k, TruV K x H' k ∧ Q k H'
/-- raise C('..') -/
def tRaise (C : Addr) (E : XK) : TS := fun _ _ H => E (.ref C) none H
/-- an own exception class without __init__, as the module has it -/
structure ExB (K : PySem.W.Frag) (C : Addr) : Prop where
  ex : PySem.W.excIn K C [.type "ValueError", .type "Exception", .type "BaseException", .type "object"] "ValueError.__new__" = true
  kp : PySem.W.keepIn K (.ref C) = true
  sb : PySem.W.subIn K (.ref C) (.type "BaseException") = some true
  ty : PySem.W.typeIn K (.ref C) = some (.type "type")
theorem ps_rz {X : Cx} {C : Addr} {W : WX} {x m : Str} {jj : Nat} {p p2 pos pos2 : Pos} (hc : X.calm = true) (B : ExB X.K C) (gC : X.mg x = some (.ref C)) (tk : Takes X W) (hg : Gl X x) (hdb : (x == ("__debug__" : Str)) = false := by decide) :
    PS X (.Raise (some (.Call (.Name x p) [.Constant (.str m) jj p2] [] pos)) none pos2) (fun _ σ H => W (.ref C) none σ H) := ps_raise hc tk (pmk_own PySem.F.excBase_ValueError B.ex gC B.kp (raises_own B.sb B.ty) hg hdb)
/-- try: .. except C as n: .. -/
def tTryAs (K : PySem.W.Frag) (C : Addr) (i : Nat) (ts : Addr → Value → Option Addr → TS) (tb : WX → TS) : TS := fun D σ H => tb (wAs K (.ref C) i ts (fun _ _ _ _ => False) D) D σ H
end Wp

namespace T
open PySem PySem.Spec PyProof.Rows L2 TyNe Wp
local macro_rules | `(tactic| walk_at "ne") => `(tactic| first
  | assumption
  | (refine Ne.symm ?_; assumption)
  | exact ne_of_none (by assumption) (by assumption)
  | exact (ne_of_none (by assumption) (by assumption)).symm
  | exact Stm.ne (by assumption) (by assumption)
  | exact (Stm.ne (by assumption) (by assumption)).symm)
local macro_rules | `(tactic| walk_at "hp") => `(tactic| first
  | assumption
  | exact upd_same
  | (rw [upd_ne (by walk_at "ne")]; walk_at "hp")
  | (refine Same.get (by assumption) ?_; walk_at "hp")
  | (refine Kp.get (by assumption) ?_ ?_ <;> first | (walk_at "hp"; done) | (walk_at "ne"; done)))
local macro_rules | `(tactic| walk_at "sq") => `(tactic| first
  | assumption
  | exact TupK.sq (by assumption)
  | exact SqL.of (by walk_at "hp")
  | exact SqT.of (by walk_at "hp"))
local macro_rules | `(tactic| walk_at "ar") => `(tactic| first
  | assumption | rfl | omega | decide)
/-- one step of a reading -/
local macro_rules | `(tactic| walk_at "w1") => `(tactic| first
  | with_reducible refine w_seq ?_
  | with_reducible refine w_asg ?_
  | ((with_reducible show tVar _ _ _ _); refine w_var rfl ?_)
  | with_reducible refine w_c ?_
  | with_reducible refine w_name ?_
  | with_reducible refine w_op ?_
  | with_reducible refine w_un ?_
  | with_reducible refine w_cons ?_
  | with_reducible refine w_nil ?_
  | with_reducible refine w_call ?_
  | with_reducible refine w_cb ?_
  | with_reducible refine w_ret ?_
  | with_reducible refine w_retN ?_
  | with_reducible refine w_ifS ?_
  | with_reducible refine w_test ?_
  | with_reducible refine w_B ?_
  | with_reducible refine w_exb ?_
  | with_reducible refine w_exi ?_
  | with_reducible refine w_next ?_
  | with_reducible refine w_drop ?_
  | with_reducible refine w_and ?_
  | with_reducible refine w_or ?_
  | with_reducible refine w_not ?_
  | with_reducible refine w_andV ?_
  | with_reducible refine w_orV ?_
  | with_reducible refine w_notV ?_
  | with_reducible refine w_if ?_
  | with_reducible refine w_chain ?_
  | with_reducible refine w_sub ?_
  | with_reducible refine w_tup ?_
  | with_reducible refine w_lst ?_
  | with_reducible refine w_sl ?_
  | with_reducible refine w_noPart ?_
  | with_reducible refine w_part ?_
  | with_reducible refine w_I0 ?_
  | ((with_reducible refine w_I ?c ?_); (case c => first | exact .inr (by decide) | exact .inl (by decide) | exact (show (0 : Int) < _ by omega) | exact cmul_l (by omega) (by omega) | exact cmul_r (by omega) (by omega) | exact And.intro (by omega) (by omega) | exact And.intro (by decide) (And.intro (by decide) (by decide))))
  | with_reducible refine w_U ?_
  | with_reducible refine w_eqI ?_
  | with_reducible refine w_neI ?_
  | with_reducible refine w_eqS ?_
  | with_reducible refine w_neS ?_
  | with_reducible refine w_eqB ?_
  | with_reducible refine w_inSign ?_
  | with_reducible refine w_ninSign ?_
  | with_reducible refine w_isBl ?_
  | with_reducible refine w_int1 ?_
  | with_reducible refine w_int1b ?_
  | with_reducible refine w_max2 ?_
  | with_reducible refine w_bm ?_
  | with_reducible refine w_lc ?_
  | with_reducible refine w_iList ?_
  | with_reducible refine w_iTup ?_
  | with_reducible refine w_iStr ?_
  | with_reducible refine w_exs ?_
  | with_reducible refine w_isN ?_
  | with_reducible refine w_notN ?_
  | ((with_reducible show tyV _ "str" (.str _) _ ∧ _); refine And.intro rfl ?_)
  | ((with_reducible show tyV _ "list" (.ref _) _ ∧ _); refine w_tyL (by walk_at "hp") ?_)
  | with_reducible refine w_min2 ?_
  | ((with_reducible show rIxL _ (.ref _) (.int _) _ _); refine w_ixL (by walk_at "sq") (by first | exact rfl | exact atI_nat (j := 0) rfl | exact atI_nat (j := 1) rfl | exact atI_nat (j := 2) rfl) ?_)
  | ((with_reducible show rIxT _ (.ref _) (.int _) _ _); refine w_ixT (by walk_at "sq") (by first | exact rfl | exact atI_nat (j := 0) rfl | exact atI_nat (j := 1) rfl | exact atI_nat (j := 2) rfl) ?_)
  | ((with_reducible show rSetL (.ref _) (.int _) _ _ _); refine w_setL (by walk_at "hp") (by exact rfl) ?_)
  | ((with_reducible show qLenSeq _ [.ref _] _ _); first | refine w_lenL (by walk_at "sq") ?_ | refine w_lenT (by walk_at "sq") ?_)
  | with_reducible refine w_nf ?_
  | with_reducible refine w_nt ?_
  | with_reducible refine iteT ?_
  | with_reducible refine iteF ?_
  | ((with_reducible refine w_len0 ?h ?_); (case h => exact sz (by simp))))
local macro_rules | `(tactic| walk_at "w") => `(tactic| repeat (walk_at "w1"))
local macro_rules | `(tactic| walk_at "if") => `(tactic| first
  | (with_reducible refine w_ite ?_ ?_) | (with_reducible refine w_iteN ?_ ?_) | (with_reducible refine w_iteb ?_ ?_))
/-- the same, new objects as heaps of their own -/
local macro_rules | `(tactic| walk_at "v1") => `(tactic| first
  | with_reducible refine w_tupV ?_
  | with_reducible refine w_lstV ?_
  | with_reducible refine w_jcons ?_
  | with_reducible refine w_jnil ?_
  | with_reducible refine w_fmt ?_
  | with_reducible refine w_js ?_
  | with_reducible refine w_zipM ?_
  | ((with_reducible refine w_dec1 (by decide) ?_))
  | ((with_reducible refine w_dec0 (by decide) ?_))
  | ((with_reducible show qJoin _ (.str _) [.ref _] _ _); first | refine w_joinL (by walk_at "sq") ?_ ?_ | refine w_joinT (by walk_at "sq") ?_ ?_)
  | with_reducible refine w_count ?_
  | ((with_reducible show rIn _ _ (.str _) (.ref _) _ _); first | refine w_inTb (b := true) (by walk_at "sq") rfl rfl (by decide +kernel) ?_ | refine w_inTb (b := false) (by walk_at "sq") rfl rfl (by decide +kernel) ?_ | refine w_inLb (b := true) (by walk_at "sq") rfl rfl (by decide +kernel) ?_ | refine w_inLb (b := false) (by walk_at "sq") rfl rfl (by decide +kernel) ?_)
  | walk_at "w1")
local macro_rules | `(tactic| walk_at "v") => `(tactic| repeat (walk_at "v1"))
local macro_rules | `(tactic| walk_at "dn") => `(tactic| first
  | assumption
  | (refine Dn.same ?_ (by assumption); walk_at "dn")
  | (refine Dn.kp ?_ (by assumption); walk_at "dn")
  | (refine Dn.any ?_; walk_at "dn"))
local macro_rules | `(tactic| walk_at "ln") => `(tactic| first
  | decide
  | omega
  | (simp only [List.length_append, List.length_map, List.length_cons, List.length_nil]; omega))
/-- the same, new objects without names, sums of texts, numbers as texts, append -/
local macro_rules | `(tactic| walk_at "z1") => `(tactic| first
  | ((with_reducible refine w_new ?_); intro _ _ _ _ _)
  | ((with_reducible show rAppend (.ref _) [_] _ _); refine w_appV (by walk_at "hp") (by walk_at "ln") ?_; intro _ _ _)
  | ((with_reducible show qAddS (.str _) (.str _) _ _); refine w_addS (sz (by simp only [Str.length_append]; omega)) ?_)
  | ((with_reducible show qStrInt [.int _] _ _); refine w_strInt (by omega) (by omega) ?_)
  | walk_at "v1")
local macro_rules | `(tactic| walk_at "z") => `(tactic| repeat (walk_at "z1"))
/-- statements alone, up to the first expression -/
local macro_rules | `(tactic| walk_at "s") => `(tactic| repeat (first
  | with_reducible refine w_seq ?_
  | with_reducible refine w_asg ?_
  | with_reducible refine w_name ?_
  | with_reducible refine w_next ?_
  | with_reducible refine w_c ?_
  | with_reducible refine w_ret ?_
  | with_reducible refine w_drop ?_
  | with_reducible refine w_ifS ?_
  | with_reducible refine w_test ?_))
/-- the same, and not into a test -/
local macro_rules | `(tactic| walk_at "b") => `(tactic| repeat (first
  | with_reducible refine w_seq ?_
  | with_reducible refine w_asg ?_
  | with_reducible refine w_name ?_
  | with_reducible refine w_next ?_
  | with_reducible refine w_c ?_
  | with_reducible refine w_ret ?_
  | with_reducible refine w_drop ?_))

/-! ### the defs of the stream of draws -/
def spCell (K : PySem.W.Frag) : Sp := fun vs H Q _ => ∃ (a : Addr) (ns : List Int) (k : Int), vs = [.ref a, .int k] ∧ SqL K H a (ns.map V.int) ∧ 0 ≤ k ∧ ∀ z, Q (.int z) H
def spStream (K : PySem.W.Frag) : Sp := fun vs H Q _ => ∃ (c k : Int), vs = [.int c, .int k] ∧ ∀ p H', H p = none → Same H H' → Stm H' p → Q (.ref p) H'
def spNext (K : PySem.W.Frag) : Sp := fun vs H Q _ => ∃ (p : Addr) (n : Int), vs = [.ref p, .int n] ∧ Stm H p ∧ 0 < n ∧ n < 1073741824 ∧ ∀ v H', Kp p H H' → Stm H' p → 0 ≤ v → v < n → Q (.int v) H'
def spFlag (K : PySem.W.Frag) : Sp := fun vs H Q _ => ∃ (a b : Bool), vs = [.bl a, .bl b] ∧ Q (.bl (decide (a = b))) H
section
variable {K : PySem.W.Frag} {vs : List V} {H : Hp} {Q : VK} {E : XK}
/-- _law_cell: slots 0:script 1:k -/
def t__law_cell (K : PySem.W.Frag) : TS := (tSeq (tIfS (tTest (tOp qLt (tVar 1) (tCB (qLenSeq K) (tCons (tVar 0) tNil)))) (tRet (tOp (rIxL K) (tVar 0) (tVar 1))) tNext)
  (tRet (tC (.int 0))))
theorem l__law_cell (h : spCell K vs H Q E) : vs.length = 2 := by obtain ⟨a, ns, k, rfl, _⟩ := h; rfl
theorem r__law_cell (h : spCell K vs H Q E) : t__law_cell K { nx := fun _ H' => Q .non H', rt := Q } (start ["script", "k"] vs) H := by
  obtain ⟨a, ns, k, rfl, hS, h0, q⟩ := h
  unfold t__law_cell
  walk_at "w"
  refine w_ite (fun hc => ?_) (fun hc => ?_)
  · walk_at "w"
    rw [List.length_map] at hc
    have hk : k.toNat < ns.length := by omega
    refine w_ixL hS (atI_of (v := .int ns[k.toNat]) h0 ?_) (q _)
    rw [List.getElem?_map, List.getElem?_eq_getElem hk]
    rfl
  · walk_at "w"
    exact q _
/-- _law_stream: slots 0:cell 1:k 2:digits -/
def t__law_stream (K : PySem.W.Frag) : TS := (tSeq (tAsg (tC (.int 0)) (gName 2))
  (tSeq (tIfS (tTest (tOp qGe (tVar 0) (tOp qPow (tC (.int 10)) (tC (.int 18))))) (tAsg (tVar 0) (gName 2)) tNext)
  (tRet (tLst (tCons (tVar 2) (tCons (tOp qMod (tCB qInt1 (tCons (tOp qAdd (tOp qAdd (tOp qMul (tVar 0) (tC (.int 48271))) (tOp qMul (tVar 1) (tC (.int 69621)))) (tC (.int 77))) tNil)) (tC (.int 2147483647))) tNil))))))
theorem l__law_stream (h : spStream K vs H Q E) : vs.length = 2 := by obtain ⟨c, k, rfl, _⟩ := h; rfl
theorem r__law_stream (h : spStream K vs H Q E) : t__law_stream K { nx := fun _ H' => Q .non H', rt := Q } (start ["cell", "k", "digits"] vs) H := by
  obtain ⟨c, k, rfl, q⟩ := h
  unfold t__law_stream
  walk_at "w"
  refine w_ite (fun hc => ?_) (fun hc => ?_)
  · walk_at "w"
    intro p hp
    refine q p _ hp (Same.upd (Same.refl H) hp) ⟨_, _, upd_same, ?_, Int.emod_nonneg _ (by decide)⟩
    have e : (10 : Int) ^ (18 : Int).toNat = 1000000000000000000 := by decide
    omega
  · walk_at "w"
    intro p hp
    exact q p _ hp (Same.upd (Same.refl H) hp) ⟨_, _, upd_same, by decide, Int.emod_nonneg _ (by decide)⟩
/-- _law_next: slots 0:stream 1:size 2:drawn -/
def t__law_next (K : PySem.W.Frag) : TS := (tSeq (tIfS (tTest (tOp qGt (tOp (rIxL K) (tVar 0) (tC (.int 0))) (tC (.int 0)))) (tSeq (tAsg (tOp qMod (tCB qInt1 (tCons (tOp (rIxL K) (tVar 0) (tC (.int 0))) tNil)) (tVar 1)) (gName 2))
  (tSeq (tAsg (tOp qFdiv (tOp (rIxL K) (tVar 0) (tC (.int 0))) (tVar 1)) (gSub (tVar 0) (tC (.int 0)) rSetL))
  (tRet (tVar 2)))) tNext)
  (tSeq (tAsg (tOp qMod (tCB qInt1 (tCons (tOp qAdd (tOp qMul (tOp (rIxL K) (tVar 0) (tC (.int 1))) (tC (.int 48271))) (tC (.int 12820163))) tNil)) (tC (.int 2147483647))) (gSub (tVar 0) (tC (.int 1)) rSetL))
  (tRet (tOp qMod (tCB qInt1 (tCons (tOp qFdiv (tOp qMod (tCB qInt1 (tCons (tOp qAdd (tOp qMul (tOp (rIxL K) (tVar 0) (tC (.int 1))) (tC (.int 16807))) (tC (.int 5))) tNil)) (tC (.int 2147483399))) (tC (.int 3))) tNil)) (tVar 1)))))
theorem l__law_next (h : spNext K vs H Q E) : vs.length = 2 := by obtain ⟨c, k, rfl, _⟩ := h; rfl
theorem r__law_next (h : spNext K vs H Q E) : t__law_next K { nx := fun _ H' => Q .non H', rt := Q } (start ["stream", "size", "drawn"] vs) H := by
  obtain ⟨p, n, rfl, ⟨a, b, hp, h0, h1⟩, hn, hm, q⟩ := h
  unfold t__law_next
  walk_at "w"
  refine w_ite (fun hc => ?_) (fun hc => ?_)
  · walk_at "w"
    exact q _ _ (Kp.updp Kp.refl) ⟨_, _, upd_same, Int.ediv_nonneg h0 (by omega), h1⟩ (Int.emod_nonneg _ (Int.ne_of_gt hn)) (Int.emod_lt_of_pos _ hn)
  · walk_at "w"
    exact q _ _ (Kp.updp Kp.refl) ⟨_, _, upd_same, h0, Int.emod_nonneg _ (by decide)⟩ (Int.emod_nonneg _ (Int.ne_of_gt hn)) (Int.emod_lt_of_pos _ hn)
end

/-! ### draws inside expressions -/
section
variable {K : PySem.W.Frag} {σ : L2.St} {H : Hp} {p : Addr} {P : PyData → Prop} {R : List PyData → Prop} {ta : TA}
theorem evs_next {i : Nat} {n : Int} (hi : σ[i]? = some (some (.ref p))) (h0 : 0 < n) (h1 : n < 1073741824) : EvS p (tCall (spNext K) [] C8.E0 (tCons (tVar i) (tCons (tC (.int n)) tNil))) σ H (fun d => ∃ v : Int, d = .int v ∧ 0 ≤ v ∧ v < n) := fun H1 k s Q q =>
  ⟨.ref p, hi, p, n, rfl, s, h0, h1, fun v H2 k2 s2 a b => q (.int v) (.int v) H2 k2 s2 ⟨v, rfl, a, b⟩ (.int v)⟩
/-- (a, b, ..)[draw] -/
theorem evs_pickT {i : Nat} {n : Int} (ha : EvSs p ta σ H R) (hi : σ[i]? = some (some (.ref p))) (h0 : 0 < n) (h1 : n ≤ 1000) (hR : ∀ ds, R ds → (ds.length : Int) = n ∧ ∀ d ∈ ds, P d) :
    EvS p (tOp (rIxT K) (tTup ta) (tCall (spNext K) [] C8.E0 (tCons (tVar i) (tCons (tC (.int n)) tNil)))) σ H P := fun H1 k s Q q =>
  evs_tup (P := fun d => ∃ ds, d = .tuple ds ∧ R ds) ha (fun ds r => ⟨by have := (hR ds r).1; omega, ds, rfl, r⟩) H1 k s _ fun v d H2 k2 s2 hd dn => by
    obtain ⟨ds, rfl, r⟩ := hd
    cases dn with
    | @tup a xs _ hap h hs =>
      refine evs_next hi h0 (by omega) H2 (k.trans k2) s2 _ fun v d H3 k3 s3 hv dv => ?_
      obtain ⟨j, rfl, j0, j1⟩ := hv
      cases dv
      have hl := hs.len
      have hn := (hR ds r).1
      have hj : j.toNat < xs.length := by omega
      obtain ⟨d, hd, dn⟩ := hs.get (List.getElem?_eq_getElem hj)
      refine w_ixT (SqT.of (k3 _ _ hap h)) (atI_of j0 (List.getElem?_eq_getElem hj)) (q _ d H3 (k2.trans k3) s3 ((hR ds r).2 d (List.mem_of_getElem? hd)) (dn.kp k3))
/-- [a, b, ..][draw] -/
theorem evs_pickL {i : Nat} {n : Int} (ha : EvSs p ta σ H R) (hi : σ[i]? = some (some (.ref p))) (h0 : 0 < n) (h1 : n ≤ 1000) (hR : ∀ ds, R ds → (ds.length : Int) = n ∧ ∀ d ∈ ds, P d) :
    EvS p (tOp (rIxL K) (tLst ta) (tCall (spNext K) [] C8.E0 (tCons (tVar i) (tCons (tC (.int n)) tNil)))) σ H P := fun H1 k s Q q =>
  evs_lst (P := fun d => ∃ ds, d = .list ds ∧ R ds) ha (fun ds r => ⟨by have := (hR ds r).1; omega, ds, rfl, r⟩) H1 k s _ fun v d H2 k2 s2 hd dn => by
    obtain ⟨ds, rfl, r⟩ := hd
    cases dn with
    | @lst a xs _ hap h hs =>
      refine evs_next hi h0 (by omega) H2 (k.trans k2) s2 _ fun v d H3 k3 s3 hv dv => ?_
      obtain ⟨j, rfl, j0, j1⟩ := hv
      cases dv
      have hl := hs.len
      have hn := (hR ds r).1
      have hj : j.toNat < xs.length := by omega
      obtain ⟨d, hd, dn⟩ := hs.get (List.getElem?_eq_getElem hj)
      refine w_ixL (SqL.of (k3 _ _ hap h)) (atI_of j0 (List.getElem?_eq_getElem hj)) (q _ d H3 (k2.trans k3) s3 ((hR ds r).2 d (List.mem_of_getElem? hd)) (dn.kp k3))
/-- all of the parts, and how many -/
def Are (P : PyData → Prop) (n : Nat) (ds : List PyData) : Prop := ds.length = n ∧ ∀ d ∈ ds, P d
theorem are_nil : EvSs p tNil σ H (Are P 0) := evss_nil ⟨rfl, fun _ h => nomatch h⟩
theorem are_cons {te : TE} {n : Nat} (h : EvS p te σ H P) (hs : EvSs p ta σ H (Are P n)) : EvSs p (tCons te ta) σ H (Are P (n + 1)) :=
  evss_cons h hs fun d r hd hr => ⟨congrArg (· + 1) hr.1, fun x hx => (List.mem_cons.mp hx).elim (fun e => e ▸ hd) (hr.2 x)⟩
theorem are_pick {n : Nat} {m : Int} (e : (n : Int) = m) : ∀ ds, Are P n ds → (ds.length : Int) = m ∧ ∀ d ∈ ds, P d := fun ds h => ⟨by rw [h.1]; exact e, h.2⟩
/-- a number drawn -/
abbrev isInt (lo hi : Int) : PyData → Prop := fun d => ∃ v : Int, d = .int v ∧ lo ≤ v ∧ v ≤ hi
theorem evs_intIn {i lo hi : Int} (h1 : lo ≤ i) (h2 : i ≤ hi) : EvS p (tC (.int i)) σ H (isInt lo hi) := evs_int ⟨i, rfl, h1, h2⟩
theorem evs_nextIn {i : Nat} {n lo hi : Int} (hi' : σ[i]? = some (some (.ref p))) (h0 : 0 < n) (h1 : n < 1073741824) (hl : lo ≤ 0) (hh : n - 1 ≤ hi) : EvS p (tCall (spNext K) [] C8.E0 (tCons (tVar i) (tCons (tC (.int n)) tNil))) σ H (isInt lo hi) :=
  (evs_next hi' h0 h1).weak fun d ⟨v, e, a, b⟩ => ⟨v, e, by omega, by omega⟩
/-- 'abc'[draw] -/
theorem w_pickS {i : Nat} {n : Int} {z : Str} {Q : VK} (hs : Stm H p) (hi : σ[i]? = some (some (.ref p))) (h0 : 0 < n) (hz : (z.length : Int) = n) (h1 : n ≤ 1000) (q : ∀ c H2, c ∈ z.cps.toList → Kp p H H2 → Stm H2 p → Q (.str ⟨#[c]⟩) H2) :
    (tOp rIxS (tC (.str z)) (tCall (spNext K) [] C8.E0 (tCons (tVar i) (tCons (tC (.int n)) tNil)))) σ H Q := by
  refine (evs_next (K := K) (H := H) hi h0 (by omega)).use hs fun v d H2 k2 s2 hv dv => ?_
  obtain ⟨j, rfl, j0, j1⟩ := hv
  cases dv
  have hl : z.length = z.cps.toList.length := by simp [Str.length]
  have hj : j.toNat < z.cps.toList.length := by omega
  exact w_ixS (Nat.le_trans (show z.length ≤ 1000 by omega) (by decide)) (atI_of j0 (List.getElem?_eq_getElem hj)) (q _ H2 (List.getElem_mem hj) k2 s2)
theorem evss_eq {te : TE} {d : PyData} {r : List PyData} (h : EvS p te σ H (· = d)) (hs : EvSs p ta σ H (· = r)) : EvSs p (tCons te ta) σ H (· = d :: r) := evss_cons h hs fun _ _ a b => by rw [a, b]
theorem evss_eq0 : EvSs p tNil σ H (· = []) := evss_nil rfl
theorem evs_tupE {ds : List PyData} (h : EvSs p ta σ H (· = ds)) (hp : P (.tuple ds)) (hl : ds.length ≤ 100000 := by simp) : EvS p (tTup ta) σ H P := evs_tup h fun _ e => e ▸ ⟨hl, hp⟩
theorem evs_lstE {ds : List PyData} (h : EvSs p ta σ H (· = ds)) (hp : P (.list ds)) (hl : ds.length ≤ 100000 := by simp) : EvS p (tLst ta) σ H P := evs_lst h fun _ e => e ▸ ⟨hl, hp⟩
end

/-! ### names and things -/
def LOW : Str := "abcdefghijklmnopqrstuvwxyz"
def DIG : Str := "0123456789"
/-- a name's sgns -/
def nameS (z : Str) : Bool := decide (1 ≤ z.length ∧ z.length ≤ 12) && (match z.cps.toList with | [] => false | c :: _ => decide (c ∈ LOW.cps.toList)) && z.cps.toList.all fun c => decide (c ∈ LOW.cps.toList) || decide (c ∈ DIG.cps.toList)
def isNameD : PyData → Bool
  | .str z => nameS z
  | _ => false
def isPairD : PyData → Bool
  | .tuple ds => decide (ds.length = 2)
  | _ => false
def isRoomD : PyData → Bool
  | .tuple [a, b] => isNameD a && isNameD b
  | _ => false
/-- a text on the way is no longer than this -/
def smallB : PyData → Bool
  | .str z => decide (z.length ≤ 1000)
  | .list ds => decide (ds.length ≤ 1000)
  | .tuple ds => decide (ds.length ≤ 1000)
  | _ => true
abbrev small (d : PyData) : Prop := smallB d = true
theorem small.str {z : Str} (h : small (.str z)) : z.length ≤ 1000 := of_decide_eq_true h
def spName (K : PySem.W.Frag) : Sp := fun vs H Q _ => ∃ v d, vs = [v] ∧ Dn Any H v d ∧ small d ∧ ∀ H', Same H H' → Q (.bl (isNameD d)) H'
def spLawName (K : PySem.W.Frag) : Sp := fun vs H Q _ => ∃ v d, vs = [v] ∧ Dn Any H v d ∧ small d ∧ Q (.bl (isNameD d)) H
def spPair (K : PySem.W.Frag) : Sp := fun vs H Q _ => ∃ v d, vs = [v] ∧ Dn Any H v d ∧ Q (.bl (isPairD d)) H
def allSmallB : PyData → Bool
  | .tuple ds => ds.all smallB
  | _ => true
abbrev allSmall (d : PyData) : Prop := allSmallB d = true
def spRoom (K : PySem.W.Frag) : Sp := fun vs H Q _ => ∃ v d, vs = [v] ∧ Dn Any H v d ∧ allSmall d ∧ ∀ H', Same H H' → Q (.bl (isRoomD d)) H'
section
variable {K : PySem.W.Frag} {vs : List V} {H : Hp} {Q : VK} {E : XK}
theorem str_len (z : Str) : z.length = z.cps.toList.length := by simp [Str.length]
theorem atI_zero {z : Str} {c : Nat} {r : List Nat} (e : z.cps.toList = c :: r) : atI z.cps.toList 0 = some c := atI_of (by decide) (by rw [e]; rfl)
theorem nameS_iff {z : Str} (h : 1 ≤ z.length ∧ z.length ≤ 12) : nameS z = true ↔ ∀ (k c : Nat), z.cps.toList[k]? = some c → c ∈ LOW.cps.toList ∨ (k ≠ 0 ∧ c ∈ DIG.cps.toList) := by
  unfold nameS
  rw [decide_eq_true h, Bool.true_and]
  have hl : 1 ≤ z.cps.toList.length := by
    rw [← str_len]
    exact h.1
  generalize z.cps.toList = l at *
  cases l with
  | nil => exact absurd hl (by decide)
  | cons c r =>
    rw [Bool.and_eq_true, decide_eq_true_eq, List.all_eq_true]
    refine ⟨fun ⟨h1, h2⟩ k d e => ?_, fun g => ⟨?_, fun d hd => ?_⟩⟩
    · have hm := h2 d (List.mem_of_getElem? e)
      rw [Bool.or_eq_true, decide_eq_true_eq, decide_eq_true_eq] at hm
      cases k with
      | zero =>
        have e' := Option.some.inj e
        rw [← e']
        exact .inl h1
      | succ k =>
        rcases hm with hm | hm
        · exact .inl hm
        · exact .inr ⟨Nat.succ_ne_zero k, hm⟩
    · rcases g 0 c rfl with g | g
      · exact g
      · exact (g.1 rfl).elim
    · obtain ⟨k, e⟩ := List.getElem?_of_mem hd
      rw [Bool.or_eq_true, decide_eq_true_eq, decide_eq_true_eq]
      rcases g k d e with g | g
      · exact .inl g
      · exact .inr g.2
end

/-! ### numbers, titles, texts, refs -/
def isNumD : PyData → Bool
  | .int i => decide (1 ≤ i ∧ i ≤ 1000000000000000000)
  | _ => false
/-- from the space to ~ -/
def prB (c : Nat) : Bool := decide (32 ≤ c) && decide (c ≤ 126)
def titleS (z : Str) : Bool := decide (z.length ≤ 60) && z.cps.toList.all prB
def textS (z : Str) : Bool := decide (1 ≤ z.length ∧ z.length ≤ 400) && z.cps.toList.all fun c => decide (c = 10) || prB c
def isTitleD : PyData → Bool
  | .str z => titleS z
  | _ => false
def isTextD : PyData → Bool
  | .str z => textS z
  | _ => false
def isRefD : PyData → Bool
  | .tuple [a, b] => isNameD a && isNumD b
  | _ => false
/-- asked of any thing: yes or no, nothing changed -/
def spAsk0 (f : PyData → Bool) : Sp := fun vs H Q _ => ∃ v d, vs = [v] ∧ Dn Any H v d ∧ small d ∧ Q (.bl (f d)) H
/-- .. with new objects on the way -/
def spAsk (f : PyData → Bool) : Sp := fun vs H Q _ => ∃ v d, vs = [v] ∧ Dn Any H v d ∧ small d ∧ allSmall d ∧ ∀ H', Same H H' → Q (.bl (f d)) H'
def spNumber (K : PySem.W.Frag) : Sp := spAsk0 isNumD
def spLawNumber (K : PySem.W.Frag) : Sp := spAsk0 isNumD
def spTitle (K : PySem.W.Frag) : Sp := spAsk isTitleD
def spText (K : PySem.W.Frag) : Sp := spAsk isTextD
def spRef (K : PySem.W.Frag) : Sp := spAsk isRefD
def spLawLine (K : PySem.W.Frag) : Sp := spAsk isTitleD
def spLawText (K : PySem.W.Frag) : Sp := spAsk isTextD
def spLawRef (K : PySem.W.Frag) : Sp := spAsk isRefD
def spPrinted (K : PySem.W.Frag) : Sp := fun vs H Q _ => ∃ c : Nat, vs = [.str ⟨#[c]⟩] ∧ Q (.bl (prB c)) H
section
variable {K : PySem.W.Frag} {vs : List V} {H : Hp} {Q : VK} {E : XK}
theorem ask0_len {f : PyData → Bool} (h : spAsk0 f vs H Q E) : vs.length = 1 := by obtain ⟨v, d, rfl, _⟩ := h; rfl
theorem ask_len {f : PyData → Bool} (h : spAsk f vs H Q E) : vs.length = 1 := by obtain ⟨v, d, rfl, _⟩ := h; rfl
theorem lt1 (c d : Nat) : decide ([c] < [d]) = decide (c < d) := by
  rw [decide_eq_decide, List.cons_lt_cons_iff]
  exact ⟨fun h => h.elim id fun h => absurd h.2 (List.not_lt_nil _), .inl⟩
theorem code_space : (Str.ofString " ").cps.toList = [32] := by decide
theorem code_tilde : (Str.ofString "~").cps.toList = [126] := by decide
theorem code_one (c : Nat) : (⟨#[c]⟩ : Str).cps.toList = [c] := rfl
theorem not_lt1 (c d : Nat) : (!decide ([c] < [d])) = decide (d ≤ c) := by
  rw [lt1]
  by_cases h : c < d
  · rw [decide_eq_true h, decide_eq_false (by omega)]; rfl
  · rw [decide_eq_false h, decide_eq_true (by omega)]; rfl
theorem w_leS {i j : Str} (q : Q (.bl (!decide (j.cps.toList < i.cps.toList))) H) : qLeS (.str i) (.str j) H Q := ⟨i, j, rfl, rfl, q⟩
theorem w_ltS {i j : Str} (q : Q (.bl (decide (i.cps.toList < j.cps.toList))) H) : qLtS (.str i) (.str j) H Q := ⟨i, j, rfl, rfl, q⟩
theorem w_gtS {i j : Str} (q : Q (.bl (decide (j.cps.toList < i.cps.toList))) H) : qGtS (.str i) (.str j) H Q := ⟨i, j, rfl, rfl, q⟩
/-- a data's text, number .. by its type -/
theorem of_str {d : PyData} (h : tyN d = "str") : ∃ z, d = .str z := by
  cases d <;> first | exact ⟨_, rfl⟩ | (simp only [tyN] at h; exact absurd h (by decide))
theorem of_int {d : PyData} (h : tyN d = "int") : ∃ z, d = .int z := by
  cases d <;> first | exact ⟨_, rfl⟩ | (simp only [tyN] at h; exact absurd h (by decide))
theorem of_bool {d : PyData} (h : tyN d = "bool") : ∃ z, d = .bool z := by
  cases d <;> first | exact ⟨_, rfl⟩ | (simp only [tyN] at h; exact absurd h (by decide))
theorem of_tup {d : PyData} (h : tyN d = "tuple") : ∃ z, d = .tuple z := by
  cases d <;> first | exact ⟨_, rfl⟩ | (simp only [tyN] at h; exact absurd h (by decide))
theorem no_str {d : PyData} (f : PyData → Bool) (hf : ∀ d, (∀ z, d ≠ .str z) → f d = false) (h : ¬ tyN d = "str") : f d = false := hf d fun z e => h (by rw [e]; rfl)
theorem title_no : ∀ d, (∀ z, d ≠ .str z) → isTitleD d = false := fun d h => by
  cases d <;> first | rfl | exact (h _ rfl).elim
theorem text_no : ∀ d, (∀ z, d ≠ .str z) → isTextD d = false := fun d h => by
  cases d <;> first | rfl | exact (h _ rfl).elim
theorem w_lenF {a : Addr} {xs : List V} (h : H a = some (.lst xs)) (q : Q (.int xs.length) H) : qLenSeq K [.ref a] H Q := w_lenL (SqL.of h) q
theorem filt_len (l : List Nat) (p : Nat → Bool) : (((l.map fun c => V.str ⟨#[c]⟩).filter fun x => match x with | .str y => p (y.cps.getD 0 0) | _ => false).length = 0) ↔ ∀ c ∈ l, p c = false := by
  rw [List.filter_map, List.length_map]
  rw [List.length_eq_zero_iff, List.filter_eq_nil_iff]
  exact ⟨fun h c hc => by
    have := h c hc
    simpa using this, fun h c hc => by
    have := h c hc
    simpa using this⟩
end

/-- things that the laws draw: short, no rooms, their parts short -/
def goodT (d : PyData) : Prop := small d ∧ allSmall d ∧ isRoomD d = false
instance (d : PyData) : Decidable (goodT d) := by unfold goodT; infer_instance
def spOdd (K : PySem.W.Frag) : Sp := fun vs H Q _ => ∃ p, vs = [.ref p] ∧ Stm H p ∧ ∀ v d H', Kp p H H' → Stm H' p → goodT d → Dn (Off p) H' v d → Q v H'
def spThing (K : PySem.W.Frag) : Sp := spOdd K
def spWord (K : PySem.W.Frag) : Sp := fun vs H Q _ => ∃ p, vs = [.ref p] ∧ Stm H p ∧ ∀ z H', Kp p H H' → Stm H' p → z.length ≤ 100 → Q (.str z) H'
section
variable {K : PySem.W.Frag} {vs : List V} {H : Hp} {Q : VK} {E : XK}
theorem cutS_length (z : Str) (lo hi : Option Int) : (cutS z lo hi).length ≤ z.length := by
  have h : (cutS z lo hi).cps.toList = ((z.cps.toList.drop (HT.sIx z.length 0 lo)).take (HT.sIx z.length z.length hi - HT.sIx z.length 0 lo)) := rfl
  rw [str_len, str_len, h, List.length_take, List.length_drop]
  omega
theorem cutS_to {z : Str} {i : Int} (h : 0 ≤ i) : (cutS z none (some i)).cps.toList = z.cps.toList.take i.toNat := by
  obtain ⟨j, rfl⟩ := Int.eq_ofNat_of_zero_le h
  show (z.cps.toList.drop (HT.sIx z.length 0 none)).take (HT.sIx z.length z.length (some (j : Int)) - HT.sIx z.length 0 none) = _
  rw [HT.sIx_none, HT.sIx_nat, Nat.sub_zero, List.drop_zero, Int.toNat_natCast, str_len]
  by_cases hj : j ≤ z.cps.toList.length
  · rw [Nat.min_eq_left hj]
  · rw [Nat.min_eq_right (by omega), List.take_of_length_le (Nat.le_refl _), List.take_of_length_le (by omega)]
theorem cutS_from {z : Str} {i : Int} (h : 0 ≤ i) : (cutS z (some i) none).cps.toList = z.cps.toList.drop i.toNat := by
  obtain ⟨j, rfl⟩ := Int.eq_ofNat_of_zero_le h
  show (z.cps.toList.drop (HT.sIx z.length 0 (some (j : Int)))).take (HT.sIx z.length z.length none - HT.sIx z.length 0 (some (j : Int))) = _
  rw [HT.sIx_none, HT.sIx_nat, Int.toNat_natCast, str_len]
  by_cases hj : j ≤ z.cps.toList.length
  · rw [Nat.min_eq_left hj]
    exact List.take_of_length_le (by rw [List.length_drop]; omega)
  · rw [Nat.min_eq_right (by omega), List.drop_of_length_le (Nat.le_refl _), List.drop_of_length_le (by omega), List.take_nil]
theorem cutS_to_len {z : Str} {i : Int} (h : 0 ≤ i) : ((cutS z none (some i)).length : Int) ≤ i := by
  rw [str_len, cutS_to h, List.length_take]
  omega
theorem cutS_from_len {z : Str} {i : Int} (h : 0 ≤ i) : (cutS z (some i) none).length = z.length - i.toNat := by
  rw [str_len, cutS_from h, List.length_drop, str_len]
end

/-! ### numbers and lines that are drawn -/
def spDrawNumber (K : PySem.W.Frag) : Sp := fun vs H Q _ => ∃ p, vs = [.ref p] ∧ Stm H p ∧ ∀ n H', Kp p H H' → Stm H' p → 1 ≤ n → n ≤ 1000000000000000000 → Q (.int n) H'
/-- printed, and no percent sign -/
def lineC (c : Nat) : Bool := prB c && !decide (c = 37)
def spDrawLine (K : PySem.W.Frag) : Sp := fun vs H Q _ => ∃ (p : Addr) (n : Int), vs = [.ref p, .int n] ∧ Stm H p ∧ 0 ≤ n ∧ n ≤ 1000 ∧ ∀ z H', Kp p H H' → Stm H' p → (z.length : Int) = n → z.cps.toList.all lineC = true → Q (.str z) H'
section
variable {K : PySem.W.Frag} {vs : List V} {H : Hp} {Q : VK} {E : XK}
theorem e18 : (10 : Int) ^ (18 : Int).toNat = 1000000000000000000 := by decide
theorem e9 : (10 : Int) ^ (9 : Int).toNat = 1000000000 := by decide
theorem tl_append (a b : Str) : (a ++ b).cps.toList = a.cps.toList ++ b.cps.toList := TL.tl_append a b
end

/-! ### names, titles, texts that are drawn -/
def spDrawName (K : PySem.W.Frag) : Sp := fun vs H Q _ => ∃ p, vs = [.ref p] ∧ Stm H p ∧ ∀ z H', Kp p H H' → Stm H' p → nameS z = true → Q (.str z) H'
/-- by ascending signs, none twice -/
def Asc (ys : List Str) : Prop := ys.Pairwise fun a b => a.cps.toList < b.cps.toList
def spDrawNames (K : PySem.W.Frag) : Sp := fun vs H Q _ => ∃ (p : Addr) (n : Int), vs = [.ref p, .int n] ∧ Stm H p ∧ 0 ≤ n ∧ n ≤ 15 ∧ ∀ a ys H', H a = none → Kp p H H' → Stm H' p → H' a = some (.lst (ys.map V.str)) → (ys.length : Int) ≤ n → (∀ y ∈ ys, nameS y = true) → Asc ys → Q (.ref a) H'
def spDrawTitle (K : PySem.W.Frag) : Sp := fun vs H Q _ => ∃ p, vs = [.ref p] ∧ Stm H p ∧ ∀ z H', Kp p H H' → Stm H' p → z.length ≤ 60 → z.cps.toList.all lineC = true → Q (.str z) H'
def spDrawText (K : PySem.W.Frag) : Sp := fun vs H Q _ => ∃ p, vs = [.ref p] ∧ Stm H p ∧ ∀ z H', Kp p H H' → Stm H' p → 1 ≤ z.length → z.length ≤ 400 → (z.cps.toList.all fun c => decide (c = 10) || lineC c) = true → Q (.str z) H'
section
variable {K : PySem.W.Frag} {vs : List V} {H : Hp} {Q : VK} {E : XK}
abbrev isNm : PyData → Prop := fun d => ∃ z, d = .str z ∧ nameS z = true
theorem lt_tri : ∀ a b : List Nat, a < b ∨ a = b ∨ b < a
  | [], [] => .inr (.inl rfl)
  | [], _ :: _ => .inl (List.nil_lt_cons _ _)
  | _ :: _, [] => .inr (.inr (List.nil_lt_cons _ _))
  | x :: a, y :: b => by
    rw [List.cons_lt_cons_iff, List.cons_lt_cons_iff]
    rcases Nat.lt_trichotomy x y with h | h | h
    · exact .inl (.inl h)
    · subst h
      rcases lt_tri a b with h | h | h
      · exact .inl (.inr ⟨rfl, h⟩)
      · exact .inr (.inl (by rw [h]))
      · exact .inr (.inr (.inr ⟨rfl, h⟩))
    · exact .inr (.inr (.inl h))
theorem lt_ltCps : ∀ a b : List Nat, Spec.ltCps a b = decide (a < b)
  | [], [] => rfl
  | [], _ :: _ => rfl
  | _ :: _, [] => rfl
  | x :: a, y :: b => by
    show (decide (x < y) || ((x == y) && Spec.ltCps a b)) = _
    rw [lt_ltCps a b, Bool.eq_iff_iff]
    simp only [Bool.or_eq_true, decide_eq_true_eq, Bool.and_eq_true, beq_iff_eq, List.cons_lt_cons_iff]
theorem asc_of_rising : ∀ (ys : List Str) (x : Str), risingS x ys = true → (x :: ys).Nodup → Asc (x :: ys)
  | [], x, _, _ => List.pairwise_singleton _ _
  | y :: r, x, h, nd => by
    have h' : (!Spec.ltCps y.cps.toList x.cps.toList && risingS y r) = true := h
    rw [Bool.and_eq_true, Bool.not_eq_true', lt_ltCps, decide_eq_false_iff_not] at h'
    have nd' := List.nodup_cons.mp nd
    have ih := asc_of_rising r y h'.2 nd'.2
    have xy : x.cps.toList < y.cps.toList := by
      rcases lt_tri x.cps.toList y.cps.toList with g | g | g
      · exact g
      · exact (nd'.1 (by
          have e : x = y := TL.ext_tl g
          rw [e]
          exact List.mem_cons_self ..)).elim
      · exact (h'.1 g).elim
    refine List.pairwise_cons.mpr ⟨fun z hz => ?_, ih⟩
    rcases List.mem_cons.mp hz with rfl | hz
    · exact xy
    · exact List.lt_trans xy ((List.pairwise_cons.mp ih).1 z hz)
theorem asc_of_sorted {ys : List Str} (h : sortedS ys = true) (nd : ys.Nodup) : Asc ys := by
  cases ys with
  | nil => exact List.Pairwise.nil
  | cons x r => exact asc_of_rising r x h nd
theorem nameS_of {z : Str} {c : Nat} {r : List Nat} (e : z.cps.toList = c :: r) (hl : z.length ≤ 12) (h1 : c ∈ LOW.cps.toList) (h2 : (z.cps.toList.all fun c => decide (c ∈ LOW.cps.toList) || decide (c ∈ DIG.cps.toList)) = true) : nameS z = true := by
  have hp : 1 ≤ z.length := by rw [str_len, e]; exact Nat.succ_le_succ (Nat.zero_le _)
  unfold nameS
  rw [decide_eq_true (show 1 ≤ z.length ∧ z.length ≤ 12 from ⟨hp, hl⟩), h2, e, Bool.true_and, Bool.and_true]
  exact decide_eq_true h1
end

/-! ### bodies -/
inductive Bd where
  | found (t : Str) (ms : List Str) | say (t : Str) | reply (a : Str) (n : Int) (t : Str) | edit (a : Str) (n : Int) (t : Str) | recall (a : Str) (n : Int) | mark (a : Str) (n : Int) (w : Str)
  | title (t : Str) | add (w : Str) | cut (w : Str) | hand (w : Str) | seen
def refD (a : Str) (n : Int) : PyData := .tuple [.str a, .int n]
def Bd.toD : Bd → PyData
  | .found t ms => .tuple [.str "found", .str t, .tuple (ms.map .str)]
  | .say t => .tuple [.str "say", .str t]
  | .reply a n t => .tuple [.str "reply", refD a n, .str t]
  | .edit a n t => .tuple [.str "edit", refD a n, .str t]
  | .recall a n => .tuple [.str "recall", refD a n]
  | .mark a n w => .tuple [.str "mark", refD a n, .str w]
  | .title t => .tuple [.str "title", .str t]
  | .add w => .tuple [.str "add", .str w]
  | .cut w => .tuple [.str "cut", .str w]
  | .hand w => .tuple [.str "hand", .str w]
  | .seen => .tuple [.str "seen"]
def Tx (t : Str) : Prop := 1 ≤ t.length ∧ t.length ≤ 400 ∧ (t.cps.toList.all fun c => decide (c = 10) || lineC c) = true
def Ti (t : Str) : Prop := t.length ≤ 60 ∧ t.cps.toList.all lineC = true
def Nm (w : Str) : Prop := nameS w = true
def Nu (n : Int) : Prop := 1 ≤ n ∧ n ≤ 1000000000000000000
def Bd.good (author : Str) : Bd → Prop
  | .found t ms => Ti t ∧ ms.length ≤ 15 ∧ (∀ m ∈ ms, Nm m) ∧ Asc ms ∧ author ∉ ms
  | .say t => Tx t
  | .reply a n t => Nm a ∧ Nu n ∧ Tx t
  | .edit a n t => Nm a ∧ Nu n ∧ Tx t
  | .recall a n => Nm a ∧ Nu n
  | .mark a n w => Nm a ∧ Nu n ∧ Nm w
  | .title t => Ti t
  | .add w => Nm w
  | .cut w => Nm w
  | .hand w => Nm w
  | .seen => True
def spDrawBody (K : PySem.W.Frag) : Sp := fun vs H Q _ => ∃ (p : Addr) (author : Str), vs = [.ref p, .str author] ∧ Stm H p ∧ ∀ v b H', Kp p H H' → Stm H' p → Bd.good author b → Dn (Off p) H' v b.toD → Q v H'
section
variable {K : PySem.W.Frag} {vs : List V} {H : Hp} {Q : VK} {E : XK} {σ : L2.St} {p : Addr}
theorem evss1 {te : TE} {A : PyData → Prop} {R : List PyData → Prop} (h : EvS p te σ H A) (k : ∀ a, A a → R [a]) : EvSs p (tCons te tNil) σ H R := evss_cons h (R := (· = [])) (evss_nil rfl) fun a r ha hr => hr ▸ k a ha
theorem evss2 {te te2 : TE} {A B : PyData → Prop} {R : List PyData → Prop} (h : EvS p te σ H A) (h2 : EvS p te2 σ H B) (k : ∀ a b, A a → B b → R [a, b]) : EvSs p (tCons te (tCons te2 tNil)) σ H R :=
  evss_cons h (R := fun r => ∃ b, r = [b] ∧ B b) (evss1 h2 fun b hb => ⟨b, rfl, hb⟩) fun a r ha ⟨b, e, hb⟩ => e ▸ k a b ha hb
theorem evss3 {te te2 te3 : TE} {A B C : PyData → Prop} {R : List PyData → Prop} (h : EvS p te σ H A) (h2 : EvS p te2 σ H B) (h3 : EvS p te3 σ H C) (k : ∀ a b c, A a → B b → C c → R [a, b, c]) : EvSs p (tCons te (tCons te2 (tCons te3 tNil))) σ H R :=
  evss_cons h (R := fun r => ∃ b c, r = [b, c] ∧ B b ∧ C c) (evss2 h2 h3 fun b c hb hc => ⟨b, c, rfl, hb, hc⟩) fun a r ha ⟨b, c, e, hb, hc⟩ => e ▸ k a b c ha hb hc
abbrev isTx : PyData → Prop := fun d => ∃ t, d = .str t ∧ Tx t
abbrev isTi : PyData → Prop := fun d => ∃ t, d = .str t ∧ Ti t
abbrev isNu : PyData → Prop := fun d => ∃ n, d = .int n ∧ Nu n
theorem evs_drawText {i : Nat} (hi : σ[i]? = some (some (.ref p))) : EvS p (tCall (spDrawText K) [] C8.E0 (tCons (tVar i) tNil)) σ H isTx := fun H1 k s Q q => ⟨.ref p, hi, p, rfl, s, fun z H2 k2 s2 a b c => q _ _ H2 k2 s2 ⟨z, rfl, a, b, c⟩ (.str z)⟩
theorem evs_drawTitle {i : Nat} (hi : σ[i]? = some (some (.ref p))) : EvS p (tCall (spDrawTitle K) [] C8.E0 (tCons (tVar i) tNil)) σ H isTi := fun H1 k s Q q => ⟨.ref p, hi, p, rfl, s, fun z H2 k2 s2 a b => q _ _ H2 k2 s2 ⟨z, rfl, a, b⟩ (.str z)⟩
theorem evs_drawName {i : Nat} (hi : σ[i]? = some (some (.ref p))) : EvS p (tCall (spDrawName K) [] C8.E0 (tCons (tVar i) tNil)) σ H isNm := fun H1 k s Q q => ⟨.ref p, hi, p, rfl, s, fun z H2 k2 s2 a => q _ _ H2 k2 s2 ⟨z, rfl, a⟩ (.str z)⟩
theorem evs_drawNumber {i : Nat} (hi : σ[i]? = some (some (.ref p))) : EvS p (tCall (spDrawNumber K) [] C8.E0 (tCons (tVar i) tNil)) σ H isNu := fun H1 k s Q q => ⟨.ref p, hi, p, rfl, s, fun z H2 k2 s2 a b => q _ _ H2 k2 s2 ⟨z, rfl, a, b⟩ (.int z)⟩
/-- (a, b, ..)[i], i a number that is reckoned -/
theorem evs_ixT {ta : TA} {ti : TE} {j : Int} {P : PyData → Prop} {R : List PyData → Prop} (ha : EvSs p ta σ H R) (hi : ∀ H1 (Q : VK), Q (.int j) H1 → ti σ H1 Q) (j0 : 0 ≤ j) (hl : ∀ ds, R ds → ds.length ≤ 1000) (hR : ∀ ds, R ds → ∃ d, ds[j.toNat]? = some d ∧ P d) :
    EvS p (tOp (rIxT K) (tTup ta) ti) σ H P := fun H1 k s Q q =>
  evs_tup (P := fun d => ∃ ds, d = .tuple ds ∧ R ds) ha (fun ds r => ⟨by have := hl ds r; omega, ds, rfl, r⟩) H1 k s _ fun v d H2 k2 s2 hd dn => by
    obtain ⟨ds, rfl, r⟩ := hd
    cases dn with
    | @tup a xs _ hap h hs =>
      refine hi H2 _ ?_
      obtain ⟨d, hd, hP⟩ := hR ds r
      have hlen := hs.len
      have hj : j.toNat < xs.length := by
        have := (List.getElem?_eq_some_iff.mp hd).1
        omega
      obtain ⟨d', hd', dn⟩ := hs.get (List.getElem?_eq_getElem hj)
      rw [hd] at hd'
      cases hd'
      exact w_ixT (SqT.of h) (atI_of j0 (List.getElem?_eq_getElem hj)) (q _ d H2 k2 s2 hP dn)
end

/-! ### == of data -/
mutual
def noDict : PyData → Bool
  | .dict _ => false
  | .list ds => noDicts ds
  | .tuple ds => noDicts ds
  | _ => true
def noDicts : List PyData → Bool
  | [] => true
  | d :: ds => noDict d && noDicts ds
end
section
variable {K : PySem.W.Frag} {ok : Addr → Prop} {H : Hp} {Q : VK}
mutual
theorem dn_dp {v : V} {d : PyData} (n : noDict d = true) : Dn ok H v d → Dp K H v d
  | .non => .non
  | .bl b => .bl b
  | .int i => .int i
  | .str x => .str x
  | .lst _ h hs => .lst (SqL.of h) (dnall_dp n hs)
  | .tup _ h hs => .tup (SqT.of h) (dnall_dp n hs)
  | .dic _ h => absurd n (by simp [noDict])
theorem dnall_dp {vs : List V} {ds : List PyData} (n : noDicts ds = true) : DnAll ok H vs ds → DpAll K H vs ds
  | .nil => .nil
  | .cons h hs => .cons (dn_dp (Bool.and_eq_true_iff.mp n).1 h) (dnall_dp (Bool.and_eq_true_iff.mp n).2 hs)
end
mutual
theorem noDict_of_lay : ∀ {d : PyData}, d.canLay0 = true → noDict d = true
  | .none, _ => rfl
  | .bool _, _ => rfl
  | .int _, _ => rfl
  | .str _, _ => rfl
  | .list ds, h => noDicts_of_lay (ds := ds) (by rw [PyData.canLay0] at h; exact h)
  | .tuple ds, h => noDicts_of_lay (ds := ds) (by rw [PyData.canLay0] at h; exact h)
  | .dict _, h => by rw [PyData.canLay0] at h; exact nomatch h
theorem noDicts_of_lay : ∀ {ds : List PyData}, PyData.canLayAll0 ds = true → noDicts ds = true
  | [], _ => rfl
  | d :: ds, h => by
    rw [PyData.canLayAll0, Bool.and_eq_true] at h
    show (noDict d && noDicts ds) = true
    rw [noDict_of_lay h.1, noDicts_of_lay h.2]
    rfl
end
theorem w_eqD {x y : V} {d e : PyData} {ok2 : Addr → Prop} (h : Dn ok H x d) (h2 : Dn ok2 H y e) (s : SeqAt.shaped d = true) (s2 : SeqAt.shaped e = true) (q : Q (.bl (PyData.eqv d e)) H) : rEqD K x y H Q :=
  ⟨d, e, dn_dp (noDict_of_lay (SeqAt.canLay_of_shaped s)) h, dn_dp (noDict_of_lay (SeqAt.canLay_of_shaped s2)) h2, s, s2, q⟩
theorem w_neD {x y : V} {d e : PyData} {ok2 : Addr → Prop} (h : Dn ok H x d) (h2 : Dn ok2 H y e) (s : SeqAt.shaped d = true) (s2 : SeqAt.shaped e = true) (q : Q (.bl (!PyData.eqv d e)) H) : rNeD K x y H Q :=
  ⟨d, e, dn_dp (noDict_of_lay (SeqAt.canLay_of_shaped s)) h, dn_dp (noDict_of_lay (SeqAt.canLay_of_shaped s2)) h2, s, s2, q⟩
theorem w_eqDs {x y : V} {d : PyData} {ok2 : Addr → Prop} (h : Dn ok H x d) (h2 : Dn ok2 H y d) (s : SeqAt.shaped d = true) (q : Q (.bl true) H) : rEqD K x y H Q :=
  w_eqD h h2 s s (by rw [SeqAt.eqv_refl d (SeqAt.canLay_of_shaped s)]; exact q)
theorem w_neDs {x y : V} {d : PyData} {ok2 : Addr → Prop} (h : Dn ok H x d) (h2 : Dn ok2 H y d) (s : SeqAt.shaped d = true) (q : Q (.bl false) H) : rNeD K x y H Q :=
  w_neD h h2 s s (by rw [SeqAt.eqv_refl d (SeqAt.canLay_of_shaped s)]; exact q)
/-- signs that are ASCII -/
def ascii (z : Str) : Bool := z.cps.toList.all fun c => decide (c < 1114112)
theorem strOk_of {z : Str} (h : ascii z = true) : PyData.strOk z = true := by
  unfold PyData.strOk
  rw [← Array.all_toList]
  exact h
theorem shaped_str {z : Str} (h : ascii z = true) : SeqAt.shaped (.str z) = true := by
  unfold SeqAt.shaped
  rw [PyData.canLay0, strOk_of h]
  rfl
theorem lineC_ascii {z : Str} (h : z.cps.toList.all lineC = true) : ascii z = true := by
  unfold ascii
  rw [List.all_eq_true] at h ⊢
  intro c hc
  have := h c hc
  unfold lineC prB at this
  simp only [Bool.and_eq_true, decide_eq_true_eq] at this
  exact decide_eq_true (by omega)
theorem text_ascii {z : Str} (h : (z.cps.toList.all fun c => decide (c = 10) || lineC c) = true) : ascii z = true := by
  unfold ascii
  rw [List.all_eq_true] at h ⊢
  intro c hc
  have := h c hc
  unfold lineC prB at this
  simp only [Bool.and_eq_true, decide_eq_true_eq, Bool.or_eq_true] at this
  exact decide_eq_true (by omega)
theorem name_ascii {z : Str} (h : nameS z = true) : ascii z = true := by
  unfold ascii
  unfold nameS at h
  rw [Bool.and_eq_true] at h
  rw [List.all_eq_true] at h ⊢
  intro c hc
  have := h.2 c hc
  rw [Bool.or_eq_true, decide_eq_true_eq, decide_eq_true_eq] at this
  have l1 : ∀ c ∈ LOW.cps.toList, c < 1114112 := by decide
  have l2 : ∀ c ∈ DIG.cps.toList, c < 1114112 := by decide
  exact decide_eq_true (this.elim (l1 c) (l2 c))
theorem shaped_ref {a : Str} {n : Int} (h : nameS a = true) : SeqAt.shaped (refD a n) = true := by
  unfold SeqAt.shaped refD
  rw [PyData.canLay0, PyData.canLayAll0, PyData.canLayAll0, PyData.canLayAll0, PyData.canLay0, PyData.canLay0, strOk_of (name_ascii h)]
  rfl
end

/-! ### folding -/
def CutIs (L : List Nat) (s w : Nat) (c : Int) : Prop :=
  (∃ j : Nat, c = (j : Int) ∧ s < j ∧ L[j]? = some 32 ∧ (j ≤ s + w → ∀ i, j < i → i ≤ s + w → L[i]? ≠ some 32) ∧ (s + w < j → ∀ i, s < i → i < j → L[i]? ≠ some 32)) ∨ (c = -1 ∧ ∀ i, s < i → L[i]? ≠ some 32)
def spCut (K : PySem.W.Frag) : Sp := fun vs H Q _ => ∃ (z : Str) (s w : Nat), vs = [.str z, .int s, .int w] ∧ z.length ≤ 100000 ∧ ∀ c, CutIs z.cps.toList s w c → Q (.int c) H
def Folded : List Str → List Nat → Nat → Prop
  | [], _, _ => False
  | [p], rest, w => p.cps.toList = rest ∧ (rest.length ≤ w ∨ ∀ i, 1 ≤ i → rest[i]? ≠ some 32)
  | p :: q :: ps, rest, w => ∃ n, p.cps.toList = rest.take n ∧ 0 < n ∧ n < rest.length ∧ w < rest.length ∧ rest[n]? = some 32 ∧ (n ≤ w → ∀ i, n < i → i ≤ w → rest[i]? ≠ some 32) ∧ (w < n → ∀ i, 1 ≤ i → i < n → rest[i]? ≠ some 32) ∧ Folded (q :: ps) (rest.drop n) w
def spFold (K : PySem.W.Frag) : Sp := fun vs H Q _ => ∃ (z : Str) (w : Nat), vs = [.str z, .int w] ∧ 1 ≤ w ∧ z.length ≤ 100000 ∧ ∀ a ps H', H a = none → Same H H' → H' a = some (.lst (ps.map V.str)) → ps.length ≤ z.length + 1 → Folded ps z.cps.toList w → Q (.ref a) H'
section
variable {K : PySem.W.Frag} {vs : List V} {H : Hp} {Q : VK} {E : XK}
theorem space_eq : Str.ofString " " = ⟨#[32]⟩ := by decide
/-- _cut_of: slots 0:line 1:start 2:width 3:behind 4:cut -/
def t__cut_of (K : PySem.W.Frag) : TS := (tSeq (tAsg (tOp qAdd (tOp qAdd (tVar 1) (tVar 2)) (tC (.int 1))) (gName 3))
  (tSeq (tAsg (tBM K "str" q_rfind4 (tVar 0) (tCons (tC (.str " ")) (tCons (tOp qAdd (tVar 1) (tC (.int 1))) (tCons (tVar 3) tNil)))) (gName 4))
  (tSeq (tIfS (tTest (tOp qLt (tVar 4) (tC (.int 0)))) (tAsg (tBM K "str" q_find3 (tVar 0) (tCons (tC (.str " ")) (tCons (tVar 3) tNil))) (gName 4)) tNext)
  (tRet (tVar 4)))))
theorem l__cut_of (h : spCut K vs H Q E) : vs.length = 3 := by obtain ⟨z, s, w, rfl, _⟩ := h; rfl
theorem r__cut_of (h : spCut K vs H Q E) : t__cut_of K { nx := fun _ H' => Q .non H', rt := Q } (start ["line", "start", "width", "behind", "cut"] vs) H := by
  obtain ⟨z, s, w, rfl, hz, q⟩ := h
  unfold t__cut_of
  walk_at "w"
  refine ⟨z, _, _, _, rfl, rfl, ?_⟩
  have e1 : PySem.fromIndex z.length ((s : Int) + 1) = s + 1 := by
    unfold PySem.fromIndex
    rw [if_neg (by omega)]
    omega
  have e2 : PySem.toIndexW z.length ((s : Int) + (w : Int) + 1) = min (s + w + 1) z.length := by
    unfold PySem.toIndexW
    rw [if_neg (by omega)]
    omega
  have er : Txt.rfindIn z (Str.ofString " ") ((s : Int) + 1) ((s : Int) + (w : Int) + 1) = match PySem.Builtin.Str.lastOccurrence z ⟨#[32]⟩ (s + 1) (min (s + w + 1) z.length) with | some k => (k : Int) | none => -1 := by
    unfold Txt.rfindIn
    rw [e1, e2, space_eq]
    all_goals rfl
  rw [er]
  have hlen : z.length = z.cps.toList.length := str_len z
  rcases last_one z 32 (s + 1) (min (s + w + 1) z.length) (Nat.min_le_right _ _) with ⟨h0, hn⟩ | ⟨j, h0, j1, j2, j3, j4⟩
  · rw [h0]
    have e3 : PySem.fromIndex z.length ((s : Int) + (w : Int) + 1) = s + w + 1 := by
      unfold PySem.fromIndex
      rw [if_neg (by omega)]
      omega
    have ef : Txt.find3 z (Str.ofString " ") ((s : Int) + (w : Int) + 1) = match PySem.Builtin.Str.occurrences z ⟨#[32]⟩ (s + w + 1) z.length 1 with | k :: _ => (k : Int) | [] => -1 := by
      unfold Txt.find3
      rw [e3, space_eq]
      all_goals rfl
    walk_at "w"
    walk_at "if" <;> intro hc
    · walk_at "w"
      refine ⟨z, _, _, rfl, rfl, ?_⟩
      rw [ef]
      have none1 : ∀ i, s < i → i ≤ s + w → z.cps.toList[i]? ≠ some 32 := fun i i1 i2 e => by
        have := (List.getElem?_eq_some_iff.mp e).1
        exact hn i i1 (by omega) e
      rcases first_one z 32 (s + w + 1) with ⟨g0, gn⟩ | ⟨j, r, g0, j1, j3, j4⟩
      · rw [g0]
        walk_at "w"
        refine q _ (.inr ⟨rfl, fun i i1 e => ?_⟩)
        by_cases hi : i ≤ s + w
        · exact none1 i i1 hi e
        · exact gn i (by omega) e
      · rw [g0]
        walk_at "w"
        refine q _ (.inl ⟨j, rfl, by omega, j3, fun h => by omega, fun _ i i1 i2 e => ?_⟩)
        by_cases hi : i ≤ s + w
        · exact none1 i i1 hi e
        · exact j4 i (by omega) i2 e
    · exact absurd (by decide) hc
  · rw [h0]
    walk_at "w"
    walk_at "if" <;> intro hc
    · have hc : (j : Int) < 0 := hc
      omega
    · walk_at "w"
      refine q _ (.inl ⟨j, rfl, by omega, j3, fun _ i i1 i2 e => ?_, fun h => by omega⟩)
      have := (List.getElem?_eq_some_iff.mp e).1
      exact j4 i i1 (by omega) e
/-- fold: slots 0:line 1:width 2:lines 3:start 4:cut -/
def t_fold (K : PySem.W.Frag) : TS := (tSeq (tAsg (tLst tNil) (gName 2))
  (tSeq (tAsg (tC (.int 0)) (gName 3))
  (tSeq (tWhile (tTest (tOp qGt (tOp qSub (tCB qLenStr (tCons (tVar 0) tNil)) (tVar 3)) (tVar 1))) (tSeq (tAsg (tCall (spCut K) [] C8.E0 (tCons (tVar 0) (tCons (tVar 3) (tCons (tVar 1) tNil)))) (gName 4))
  (tSeq (tIfS (tTest (tOp qLt (tVar 4) (tC (.int 0)))) tBreak tNext)
  (tSeq (tDrop (tBM K "list" rAppend (tVar 2) (tCons (tSl rSlS (tVar 0) (tPart (tVar 3)) (tPart (tVar 4))) tNil)))
  (tAsg (tVar 4) (gName 3))))))
  (tSeq (tDrop (tBM K "list" rAppend (tVar 2) (tCons (tSl rSlS (tVar 0) (tPart (tVar 3)) tNoPart) tNil)))
  (tRet (tVar 2))))))
theorem l_fold (h : spFold K vs H Q E) : vs.length = 2 := by obtain ⟨z, w, rfl, _⟩ := h; rfl
theorem r_fold (h : spFold K vs H Q E) : t_fold K { nx := fun _ H' => Q .non H', rt := Q } (start ["line", "width", "lines", "start", "cut"] vs) H := by
  obtain ⟨z, w, rfl, hw, hz, q⟩ := h
  have hlen : z.length = z.cps.toList.length := str_len z
  have hz' : z.length ≤ sizeLine := Nat.le_trans hz (by decide)
  unfold t_fold
  walk_at "w"
  intro l hl
  walk_at "b"
  -- the state between two turns
  have fin : ∀ (ps : List Str) (s : Nat) y H1, Same H H1 → H1 l = some (.lst (ps.map V.str)) → s ≤ z.length → ps.length ≤ s → (∀ qs, Folded qs (z.cps.toList.drop s) w → Folded (ps ++ qs) z.cps.toList w) → ((z.cps.toList.drop s).length ≤ w ∨ ∀ i, s < i → z.cps.toList[i]? ≠ some 32) →
      (tSeq (tDrop (tBM K "list" rAppend (tVar 2) (tCons (tSl rSlS (tVar 0) (tPart (tVar 3)) tNoPart) tNil))) (tRet (tVar 2))) { nx := fun _ H' => Q .non H', rt := Q } [some (.str z), some (.int w), some (.ref l), some (.int s), y] H1 := fun ps s y H1 s1 hL hs hp hf hend => by
    walk_at "w"
    refine w_slS hz' ?_
    walk_at "w"
    refine w_app hL (by rw [List.length_map]; exact Nat.lt_of_le_of_lt (show ps.length ≤ 100000 by omega) (by decide)) ?_
    walk_at "w"
    refine q l (ps ++ [cutS z (some (s : Int)) none]) _ hl (fun b o e => by
      rw [upd_ne (ne_of_none e hl)]
      exact s1 b o e) (by rw [upd_same, List.map_append]; rfl) (by rw [List.length_append]; exact Nat.succ_le_succ (Nat.le_trans hp hs)) ?_
    refine hf _ ⟨by rw [cutS_from (by omega)]; rfl, ?_⟩
    rcases hend with h | h
    · exact .inl h
    · refine .inr fun i i1 e => ?_
      rw [List.getElem?_drop] at e
      exact h (s + i) (by omega) e
  refine ⟨fun m σ H1 => ∃ (ps : List Str) (s : Nat) (y : Option V), σ = [some (.str z), some (.int w), some (.ref l), some (.int s), y] ∧ m = z.length - s ∧ Same H H1 ∧ H1 l = some (.lst (ps.map V.str)) ∧ s ≤ z.length ∧ ps.length ≤ s ∧ ∀ qs, Folded qs (z.cps.toList.drop s) w → Folded (ps ++ qs) z.cps.toList w,
    ⟨z.length, [], 0, none, rfl, rfl, Same.upd (Same.refl H) hl, upd_same, Nat.zero_le _, Nat.le_refl _, fun qs h => h⟩, fun m σ H1 hW => ?_⟩
  obtain ⟨ps, s, y, rfl, rfl, s1, hL, hs, hp, hf⟩ := hW
  walk_at "w"
  refine w_lenStr hz' ?_
  walk_at "w"
  walk_at "if" <;> intro hc
  · refine ⟨fun σ' H' => ∃ (ps' : List Str) (s' : Nat) (y : Option V), s < s' ∧ σ' = [some (.str z), some (.int w), some (.ref l), some (.int s'), y] ∧ Same H H' ∧ H' l = some (.lst (ps'.map V.str)) ∧ s' ≤ z.length ∧ ps'.length ≤ s' ∧ ∀ qs, Folded qs (z.cps.toList.drop s') w → Folded (ps' ++ qs) z.cps.toList w, fun σ' H' hN => ?_, ?_⟩
    · obtain ⟨ps', s', y', hlt, e, r1, r2, r3, r4, r5⟩ := hN
      exact ⟨z.length - s', by omega, ps', s', y', e, rfl, r1, r2, r3, r4, r5⟩
    · walk_at "w"
      refine ⟨z, s, w, rfl, hz, fun c hcut => ?_⟩
      walk_at "w"
      walk_at "if" <;> intro h0
      · refine fin ps s _ H1 s1 hL hs hp hf (.inr ?_)
        rcases hcut with ⟨j, rfl, _⟩ | ⟨_, hn⟩
        · omega
        · exact hn
      · rcases hcut with ⟨j, rfl, j1, j3, ja, jb⟩ | ⟨rfl, _⟩
        · have jl := (List.getElem?_eq_some_iff.mp j3).1
          walk_at "w"
          refine w_slS hz' ?_
          walk_at "w"
          refine w_app hL (by rw [List.length_map]; exact Nat.lt_of_le_of_lt (show ps.length ≤ 100000 by omega) (by decide)) ?_
          walk_at "w"
          have hcutS : (cutS z (some (s : Int)) (some (j : Int))).cps.toList = (z.cps.toList.drop s).take (j - s) := by
            show (z.cps.toList.drop (HT.sIx z.length 0 (some (s : Int)))).take (HT.sIx z.length z.length (some (j : Int)) - HT.sIx z.length 0 (some (s : Int))) = _
            rw [HT.sIx_nat, HT.sIx_nat, Nat.min_eq_left hs, Nat.min_eq_left (by omega)]
          refine ⟨ps ++ [cutS z (some (s : Int)) (some (j : Int))], j, _, j1, rfl, ?_, ?_, by omega, ?_, fun qs hq => ?_⟩
          · exact fun b o e => by
              rw [upd_ne (ne_of_none e hl)]
              exact s1 b o e
          · rw [upd_same, List.map_append]
            rfl
          · rw [List.length_append]
            show ps.length + 1 ≤ j
            omega
          · rw [List.append_assoc]
            refine hf _ ?_
            cases qs with
            | nil => exact hq.elim
            | cons q1 qs =>
              have hdl : (z.cps.toList.drop s).length = z.length - s := by rw [List.length_drop, hlen]
              refine ⟨j - s, hcutS, by omega, by omega, by omega, ?_, fun h i i1 i2 e => ?_, fun h i i1 i2 e => ?_, ?_⟩
              · rw [List.getElem?_drop, show s + (j - s) = j by omega]
                exact j3
              · rw [List.getElem?_drop] at e
                exact ja (by omega) (s + i) (by omega) (by omega) e
              · rw [List.getElem?_drop] at e
                exact jb (by omega) (s + i) (by omega) (by omega) e
              · rw [List.drop_drop, show s + (j - s) = j by omega]
                exact hq
        · exact absurd (by decide) h0
  · refine fin ps s _ H1 s1 hL hs hp hf (.inl ?_)
    rw [List.length_drop]
    omega
end

/-! ### further steps -/
local macro_rules | `(tactic| walk_at "case") => `(tactic| dsimp only [Bd.kind, Bd.text, Bd.rest, Bd.toD])
local macro_rules | `(tactic| walk_at "z1") => `(tactic| ((with_reducible show qAddS (.str _) (.str _) _ _); refine w_addS (sz (by first | omega | (simp only [Str.length_append]; omega))) ?_))
local macro_rules | `(tactic| walk_at "z1") => `(tactic| ((with_reducible show qJoin _ (.str _) [.ref _] _ _); first | refine w_joinT (by walk_at "sq") (by assumption) ?_ | refine w_joinL (by walk_at "sq") (by assumption) ?_))
/-- what stands off an address still stands -/
local macro_rules | `(tactic| walk_at "kp") => `(tactic| first
  | assumption
  | exact Kp.refl
  | (refine Kp.trans ?_ (by assumption); walk_at "kp")
  | (refine Kp.trans ?_ (Same.kp (by assumption)); walk_at "kp"))
local macro_rules | `(tactic| walk_at "fin") => `(tactic| first
  | (walk_at "hp"; done)
  | (refine Eq.trans (by walk_at "hp") ?_; first | rfl | (simp only [List.map_cons, List.map_nil, List.append_nil, List.append_assoc, List.cons_append, List.nil_append]; rfl)))
local macro_rules | `(tactic| walk_at "ln") => `(tactic| exact Nat.le_of_ble_eq_true rfl)

/-! ### unfolding -/
structure ExFacts (K : PySem.W.Frag) (C_RoomError C_BadLetter C_BadMail : Addr) : Prop where
  b_BadMail : Wp.ExB K C_BadMail
  ec : ExcC K C_BadMail
  up : PySem.W.exmOne K (.ref C_BadMail) (.ref C_RoomError) = some true
  no : PySem.W.kitOne K (.ref C_BadMail) (.ref C_BadLetter) = some false
  val : PySem.W.kitOne K (.ref C_BadMail) (.type "ValueError") = some true
theorem kit_cls2 {K : PySem.W.Frag} {t : Value} {C : Addr} {b : Option Bool} (h1 : PySem.W.subIn K t (.ref C) = b) (h2 : PySem.W.isClsIn K C = true) (h3 : PySem.W.typeIn K (.ref C) = some (.type "type")) : PySem.W.kitCls K t (.ref C) = b := by
  have h2' : (PySem.W.clsIn K C).isSome = true := h2
  unfold PySem.W.kitCls
  dsimp only
  rw [h2', h3]
  exact h1
theorem exm_two {K : PySem.W.Frag} {C D : Addr} {b : Bool} (h1 : PySem.W.subIn K (.ref C) (.ref D) = some b) (h2 : PySem.W.isClsIn K D = true) (h3 : PySem.W.typeIn K (.ref D) = some (.type "type")) (h4 : PySem.W.subIn K (.ref D) (.type "BaseException") = some true) : PySem.W.exmOne K (.ref C) (.ref D) = some b := by
  unfold PySem.W.exmOne
  rw [h4]
  exact kit_cls2 h1 h2 h3
theorem kit_two {K : PySem.W.Frag} {C D : Addr} (h1 : PySem.W.subIn K (.ref C) (.ref D) = some false) (h2 : PySem.W.isClsIn K D = true) (h3 : PySem.W.typeIn K (.ref D) = some (.type "type")) (h4 : PySem.W.subIn K (.ref D) (.ref D) = some true) : PySem.W.kitOne K (.ref C) (.ref D) = some false := by
  unfold PySem.W.kitOne
  by_cases e : ((Value.ref C == Value.ref D) = true)
  · have e2 : Value.ref C = Value.ref D := eq_of_beq e
    cases e2
    rw [h4] at h1
    cases h1
  · rw [if_neg e]
    exact kit_cls2 h1 h2 h3
theorem kit_val {K : PySem.W.Frag} {C : Addr} (h1 : PySem.W.subIn K (.ref C) (.type "ValueError") = some true) : PySem.W.kitOne K (.ref C) (.type "ValueError") = some true := by
  unfold PySem.W.kitOne PySem.W.kitCls
  rw [if_neg (by exact Bool.false_ne_true)]
  dsimp only
  rw [if_pos (by decide +kernel)]
  exact h1
/-- does a line begin with a space -/
def spc (z : Str) : Bool := z.cps.toList.head? == some 32
theorem starts_spc (z : Str) : Txt.startswith z (Str.ofString " ") = spc z := by
  obtain ⟨⟨l⟩⟩ := z
  have e : Str.ofString " " = ⟨#[32]⟩ := by decide
  rw [e]
  unfold Txt.startswith spc Builtin.Str.subAt Str.length
  cases l with
  | nil => rfl
  | cons c r =>
    simp
    try (rw [Bool.eq_iff_iff]; simp [Array.ext_iff])
theorem cut_spc (z : Str) : decide (cutS z none (some 1) = Str.ofString " ") = spc z := by
  have e : (cutS z none (some 1)).cps.toList = z.cps.toList.take 1 := cutS_to (i := 1) (by decide)
  have e2 : (Str.ofString " ").cps.toList = [32] := by decide
  rw [Bool.eq_iff_iff, decide_eq_true_iff]
  unfold spc
  constructor
  · intro q
    rw [q, e2] at e
    cases h : z.cps.toList with
    | nil => rw [h] at e; cases e
    | cons c r =>
      rw [h] at e
      injection e with e3
      rw [← e3]
      rfl
  · intro q
    cases h : z.cps.toList with
    | nil => rw [h] at q; cases q
    | cons c r =>
      rw [h] at q e
      have hc : c = 32 := by simpa using q
      subst hc
      have e3 : (cutS z none (some 1)).cps.toList = (Str.ofString " ").cps.toList := by rw [e, e2]; rfl
      exact congrArg Str.mk (Array.toList_inj.mp e3)
def addL (acc : List Str) (z : Str) : List Str := if spc z = true then acc.dropLast ++ [acc.getLast?.getD Str.empty ++ z] else acc ++ [z]
def unfS (ls : List Str) : List Str := ls.foldl addL []
theorem unfS_snoc {ls : List Str} {i : Nat} {z : Str} (h : ls[i]? = some z) : unfS (ls.take (i + 1)) = addL (unfS (ls.take i)) z := by
  unfold unfS
  rw [List.take_add_one, h, List.foldl_append]
  rfl
def cat : List Str → Str
  | [] => Str.empty
  | x :: r => x ++ cat r
theorem join_cat (ys : List Str) : Txt.join (Str.ofString "") ys = cat ys := by
  rw [join_eq]
  have e0 : Str.ofString "" = Str.empty := by decide
  rw [e0]
  induction ys with
  | nil => rfl
  | cons y ys ih =>
    cases ys with
    | nil =>
      show y = y ++ Str.empty
      rw [Str.append_empty]
    | cons z ys =>
      show y ++ Str.empty ++ Str.join Str.empty (z :: ys) = y ++ cat (z :: ys)
      rw [Str.append_empty, ih]
theorem cat_snoc (xs : List Str) (z : Str) : cat (xs ++ [z]) = cat xs ++ z := by
  induction xs with
  | nil =>
    show z ++ Str.empty = Str.empty ++ z
    rw [Str.append_empty, Str.empty_append]
  | cons x xs ih =>
    show x ++ cat (xs ++ [z]) = x ++ cat xs ++ z
    rw [ih, Str.append_assoc]
def sumL (ls : List Str) : Nat := (ls.map (·.length)).sum
theorem sumL_snoc (ls : List Str) (z : Str) : sumL (ls ++ [z]) = sumL ls + z.length := by
  unfold sumL
  rw [List.map_append, List.sum_append]
  simp
def spUnfold (K : PySem.W.Frag) (C : Addr) : Sp := fun vs H Q E => ∃ (a : Addr) (ls : List Str), vs = [.ref a] ∧ H a = some (.lst (ls.map V.str)) ∧ ls.length ≤ 50000 ∧ sumL ls ≤ 50000 ∧
  (ls.head?.map spc = some true → ∀ H', Same H H' → E (.ref C) none H') ∧ (ls.head?.map spc ≠ some true → ∀ l H', H l = none → Same H H' → H' l = some (.lst ((unfS ls).map V.str)) → (unfS ls).length ≤ ls.length → Q (.ref l) H')
/-- the groups as they are so far -/
def GrpAt (H0 : Hp) (g : Addr) (H' : Hp) (ls : List Str) : Prop := ∃ (as : List Addr) (G : List (List Str)), as.length = G.length ∧ as.Nodup ∧ g ∉ as ∧ (∀ b ∈ as, H0 b = none) ∧ H' g = some (.lst (as.map V.ref)) ∧
  (∀ (j : Nat) (b : Addr) (gr : List Str), as[j]? = some b → G[j]? = some gr → H' b = some (.lst (gr.map V.str))) ∧ G.map cat = unfS ls ∧ as.length ≤ ls.length ∧ (∀ gr ∈ G, gr.length ≤ ls.length ∧ sumL gr ≤ sumL ls) ∧ (ls ≠ [] → as ≠ [])
section
variable {K : PySem.W.Frag} {CR CL CM : Addr} {vs : List V} {H : Hp} {Q : VK} {E : XK}
theorem w_forL {te : TE} {σ : L2.St} {g : TG} {tb : TS} {D : Ends} (q : te σ H fun x H1 => ∃ a, x = .ref a ∧ (∃ xs, SqL K H1 a xs) ∧ ∃ W : Nat → Nat → L2.St → Hp → Prop, (∃ m, W 0 m σ H1) ∧ ∀ i m σ H, W i m σ H →
  ((Itl K a).stop i H ∧ D.nx σ H) ∨ ((Itl K a).go i H ∧ ∃ N : L2.St → Hp → Prop, (∀ σ' H', N σ' H' → ∃ m', m' < m ∧ W (i + 1) m' σ' H') ∧ ∀ x H', (Itl K a).yld i H x H' → g x σ H' fun σ2 H2 => tb { D with nx := N, ct := N, bk := D.nx } σ2 H2)) : tFor (iList K te) g tb D σ H := q
/-- unfold: slots 0:lines 1:groups 2:line 3:group -/
def t_unfold (K : PySem.W.Frag) (C_RoomError : Addr) (C_BadLetter : Addr) (C_BadMail : Addr) (E : XK) : TS := (tSeq (tAsg (tLst tNil) (gName 1))
  (tSeq (tFor (iList K (tVar 0)) (gName 2) (tIfS (tNot (tB (tBM K "str" qStarts (tVar 2) (tCons (tC (.str " ")) tNil)))) (tDrop (tBM K "list" rAppend (tVar 1) (tCons (tLst (tCons (tVar 2) tNil)) tNil))) (tIfS (tTru K (tVar 1)) (tDrop (tBM K "list" rAppend (tOp (rIxL K) (tVar 1) (tUn qNeg (tC (.int 1)))) (tCons (tVar 2) tNil))) (tRaise C_BadMail E))))
  (tRet (tLc (iList K (tVar 1)) (gName 3) tYes (tBM K "str" (qJoin K) (tC (.str "")) (tCons (tVar 3) tNil)) [3]))))
theorem l_unfold (h : spUnfold K CM vs H Q E) : vs.length = 1 := by obtain ⟨a, ls, rfl, _⟩ := h; rfl
theorem r_unfold (XF : ExFacts K CR CL CM) (h : spUnfold K CM vs H Q E) : t_unfold K CR CL CM E { nx := fun _ H' => Q .non H', rt := Q } (start ["lines", "groups", "line", "group"] vs) H := by
  obtain ⟨a, ls, rfl, ha, hl, hs, hE, hQ⟩ := h
  unfold t_unfold
  walk_at "v"
  refine w_new fun g H1 hg T1 e1 => ?_
  walk_at "b"
  refine w_forL (w_var rfl (w_lstF (SqL.of (T1 _ _ ha)) (fun i σ H' => (∃ y2, σ = [some (.ref a), some (.ref g), y2, none]) ∧ GrpAt H g H' (ls.take i) ∧ Same H H' ∧ (0 < i → ls.head?.map spc ≠ some true)) ⟨⟨_, rfl⟩, ⟨[], [], rfl, List.nodup_nil, nofun, nofun, e1, nofun, rfl, Nat.le_refl _, nofun, fun h => absurd rfl h⟩, T1, fun h => absurd h (Nat.lt_irrefl 0)⟩ (fun i σ H' _ pv => SqL.of (pv.2.2.1 _ _ ha)) (fun i y σ H' hi pv => ?_) (fun σ H' pv => ?_)))
  · obtain ⟨⟨y2, rfl⟩, ⟨as, G, hlen, hnd, hga, hfr, hgl, hob, hcat, hal, hbd, hne⟩, T, h0⟩ := pv
    rw [List.getElem?_map] at hi
    obtain ⟨z, hz, rfl⟩ := Option.map_eq_some_iff.mp hi
    have hil : i < ls.length := (List.getElem?_eq_some_iff.mp hz).1
    have htk : ls.take (i + 1) = ls.take i ++ [z] := by rw [List.take_add_one, hz]; rfl
    have htl : (ls.take i).length = i := by rw [List.length_take]; omega
    have hah : ∀ b ∈ as, b ≠ g := fun b hb e => hga (e ▸ hb)
    walk_at "v"
    refine ⟨z, _, rfl, rfl, ?_⟩
    rw [starts_spc]
    walk_at "v"
    cases hsp : spc z with
    | false =>
      have hfirst : 0 < i + 1 → ls.head?.map spc ≠ some true := fun _ => by
        by_cases hi0 : i = 0
        · subst hi0
          rw [List.head?_eq_getElem?, hz]
          intro e
          rw [Option.map_some, hsp] at e
          cases e
        · exact h0 (by omega)
      walk_at "v"
      refine w_new fun b H2 hb T2 e2 => ?_
      walk_at "v"
      have hb0 : H b = none := T.free hb
      have nbg : b ≠ g := (ne_of_none hgl hb).symm
      refine w_appV (T2 _ _ hgl) (by rw [List.length_map]; omega) fun H3 k3 e3 => ?_
      walk_at "v"
      have hbn : b ∉ as := fun hm => by
        obtain ⟨j, hj⟩ := List.mem_iff_getElem?.mp hm
        have hjl : j < G.length := by rw [← hlen]; exact (List.getElem?_eq_some_iff.mp hj).1
        have := hob j b _ hj (List.getElem?_eq_getElem hjl)
        rw [hb] at this
        cases this
      refine ⟨⟨_, rfl⟩, ⟨as ++ [b], G ++ [[z]], by rw [List.length_append, List.length_append, hlen]; rfl, ?_, ?_, ?_, ?_, ?_, ?_, ?_, ?_, ?_⟩, ?_, hfirst⟩
      · rw [List.nodup_append]
        exact ⟨hnd, by simp, fun x hx y hy e => hbn (by rw [List.mem_singleton] at hy; rw [← hy, ← e]; exact hx)⟩
      · intro hm
        rcases List.mem_append.mp hm with hm | hm
        · exact hga hm
        · exact nbg (List.mem_singleton.mp hm).symm
      · intro c hc
        rcases List.mem_append.mp hc with hc | hc
        · exact hfr c hc
        · rw [List.mem_singleton.mp hc]; exact hb0
      · rw [e3, List.map_append]
        rfl
      · intro j c gr hj hG
        by_cases hjl : j < as.length
        · rw [List.getElem?_append_left hjl] at hj
          rw [List.getElem?_append_left (by omega)] at hG
          exact k3 _ _ (hah c (List.mem_of_getElem? hj)) (T2 _ _ (hob j c gr hj hG))
        · rw [List.getElem?_append_right (by omega)] at hj
          rw [List.getElem?_append_right (by omega)] at hG
          have hj0 : j - as.length = 0 := by
            have := (List.getElem?_eq_some_iff.mp hj).1
            simp at this
            omega
          have hG0 : j - G.length = 0 := by omega
          rw [hj0] at hj
          rw [hG0] at hG
          cases Option.some.inj hj
          cases Option.some.inj hG
          exact k3 _ _ nbg e2
      · rw [unfS_snoc hz, List.map_append, hcat]
        unfold addL
        rw [hsp, if_neg (by decide)]
        show _ ++ [z ++ Str.empty] = _
        rw [Str.append_empty]
      · rw [htk, List.length_append, List.length_append]
        simp only [List.length_cons, List.length_nil]
        omega
      · intro gr hgr
        rw [htk, sumL_snoc, List.length_append]
        rcases List.mem_append.mp hgr with hgr | hgr
        · have := hbd gr hgr
          simp only [List.length_cons, List.length_nil]
          omega
        · rw [List.mem_singleton.mp hgr]
          have : sumL [z] = z.length := by unfold sumL; simp
          simp only [List.length_cons, List.length_nil]
          omega
      · intro _ e
        have := congrArg List.length e
        simp at this
      · exact fun c o e => k3 _ _ (fun eg => by subst eg; rw [hg] at e; cases e) (T2 _ _ (T _ _ e))
    | true =>
      walk_at "v"
      by_cases hi0 : i = 0
      · subst hi0
        have has : as = [] := List.length_eq_zero_iff.mp (by rw [List.take_zero] at hal; simpa using hal)
        subst has
        refine ⟨false, .inl ⟨_, SqL.of hgl, rfl⟩, ?_⟩
        refine hE ?_ H' T
        rw [List.head?_eq_getElem?, hz, Option.map_some, hsp]
      · have hne2 : as ≠ [] := hne (fun e => by rw [e] at htl; exact hi0 htl.symm)
        obtain ⟨as0, b, rfl⟩ : ∃ as0 b, as = as0 ++ [b] := ⟨as.dropLast, as.getLast hne2, (List.dropLast_concat_getLast hne2).symm⟩
        have hG2 : G ≠ [] := fun e => by rw [e] at hlen; simp at hlen
        obtain ⟨G0, gr, rfl⟩ : ∃ G0 gr, G = G0 ++ [gr] := ⟨G.dropLast, G.getLast hG2, (List.dropLast_concat_getLast hG2).symm⟩
        have hl0 : as0.length = G0.length := by simpa using hlen
        have hbb : H' b = some (.lst (gr.map V.str)) := hob as0.length b gr (by rw [List.getElem?_append_right (Nat.le_refl _), Nat.sub_self]; rfl) (by rw [List.getElem?_append_right (by omega), hl0, Nat.sub_self]; rfl)
        have nbg : b ≠ g := hah b (List.mem_append_right _ (List.mem_singleton.mpr rfl))
        have hbr := hbd gr (List.mem_append_right _ (List.mem_singleton.mpr rfl))
        have nb0 : b ∉ as0 := fun hm => by
          rw [List.nodup_append] at hnd
          exact hnd.2.2 b hm b (List.mem_singleton.mpr rfl) rfl
        refine ⟨true, .inl ⟨_, SqL.of hgl, by simp⟩, ?_⟩
        walk_at "v"
        refine w_ixL (SqL.of hgl) (by rw [List.map_append]; exact atI_last _ _) ?_
        walk_at "v"
        refine w_appV hbb (by rw [List.length_map]; omega) fun H3 k3 e3 => ?_
        walk_at "v"
        refine ⟨⟨_, rfl⟩, ⟨as0 ++ [b], G0 ++ [gr ++ [z]], by rw [List.length_append, List.length_append, hl0]; rfl, hnd, hga, hfr, k3 _ _ nbg.symm hgl, ?_, ?_, ?_, ?_, ?_⟩, ?_, fun _ => h0 (by omega)⟩
        · intro j c gr2 hj hG
          by_cases hjl : j < as0.length
          · rw [List.getElem?_append_left hjl] at hj
            rw [List.getElem?_append_left (by omega)] at hG
            refine k3 _ _ (fun e => nb0 (e ▸ List.mem_of_getElem? hj)) (hob j c gr2 (by rw [List.getElem?_append_left hjl]; exact hj) (by rw [List.getElem?_append_left (by omega)]; exact hG))
          · rw [List.getElem?_append_right (by omega)] at hj
            rw [List.getElem?_append_right (by omega)] at hG
            have hj0 : j - as0.length = 0 := by
              have := (List.getElem?_eq_some_iff.mp hj).1
              simp at this
              omega
            have hG0 : j - G0.length = 0 := by omega
            rw [hj0] at hj
            rw [hG0] at hG
            cases Option.some.inj hj
            cases Option.some.inj hG
            rw [e3, List.map_append]
            rfl
        · rw [unfS_snoc hz, ← hcat]
          unfold addL
          rw [hsp, if_pos rfl, List.map_append, List.map_append]
          show G0.map cat ++ [cat (gr ++ [z])] = (G0.map cat ++ [cat gr]).dropLast ++ [(G0.map cat ++ [cat gr]).getLast?.getD Str.empty ++ z]
          rw [cat_snoc, List.dropLast_concat, List.getLast?_append]
          rfl
        · rw [htk]
          have hal2 := hal
          simp only [List.length_append, List.length_cons, List.length_nil] at hal2 ⊢
          omega
        · intro gr2 hgr
          rw [htk, sumL_snoc, List.length_append]
          rcases List.mem_append.mp hgr with hgr | hgr
          · have := hbd gr2 (List.mem_append_left _ hgr)
            omega
          · rw [List.mem_singleton.mp hgr]
            refine ⟨?_, ?_⟩
            · simp only [List.length_append, List.length_cons, List.length_nil]
              omega
            · rw [sumL_snoc]
              omega
        · intro _ e
          have := congrArg List.length e
          simp at this
        · exact fun c o e => k3 _ _ (fun eb => by
            subst eb
            rw [hfr c (List.mem_append_right _ (List.mem_singleton.mpr rfl))] at e
            cases e) (T _ _ e)
  · obtain ⟨⟨y2, rfl⟩, ⟨as, G, hlen, hnd, hga, hfr, hgl, hob, hcat, hal, hbd, hne⟩, T, h0⟩ := pv
    rw [List.length_map] at h0 hcat hal hbd
    rw [List.take_length] at hcat hal hbd
    have hhd : ls.head?.map spc ≠ some true := by
      cases ls with
      | nil => exact nofun
      | cons x r => exact h0 (by simp)
    walk_at "v"
    refine ⟨g, rfl, ⟨_, SqL.of hgl⟩, fun D hD => ?_⟩
    refine lc_list (xs := as.map V.ref) (fun i G' => Same H' G' ∧ G' D = some (.lst (((G.take i).map cat).map V.str))) ⟨Same.upd (Same.refl H') hD, upd_same⟩ (fun i G' _ pv => SqL.of (pv.1 _ _ hgl)) (fun i x G' hx pv => ?_) (fun G' pv => ?_)
    · rw [List.getElem?_map] at hx
      obtain ⟨b, hb, rfl⟩ := Option.map_eq_some_iff.mp hx
      have hil : i < G.length := by rw [← hlen]; exact (List.getElem?_eq_some_iff.mp hb).1
      have hgi := List.getElem?_eq_getElem hil
      have hbo := hob i b _ hb hgi
      have hbb := hbd _ (List.getElem_mem hil)
      refine w_name ⟨rfl, w_yes (iteT_ ?_)⟩
      walk_at "v"
      refine w_joinL (SqL.of (pv.1 _ _ hbo)) (by
        have : (Str.ofString "").length = 0 := rfl
        rw [this, Nat.mul_zero]
        unfold sumL at hbb
        unfold sumL at hs
        omega) ?_
      rw [join_cat]
      refine ⟨_, pv.2, ?_, Same.upd pv.1 hD, ?_⟩
      · rw [List.length_map, List.length_map, List.length_take]
        exact Nat.lt_of_le_of_lt (show _ ≤ 50000 by omega) (by decide)
      · rw [upd_same, List.take_add_one, hgi, List.map_append, List.map_append]
        rfl
    · obtain ⟨T2, e2⟩ := pv
      rw [List.length_map, hlen, List.take_length, hcat] at e2
      walk_at "v"
      exact hQ hhd D G' (T.free hD) (T.trans T2) e2 (by rw [← hcat, List.length_map, ← hlen]; exact hal)
end

/-! ### the law on unfolding -/
def spPiece (K : PySem.W.Frag) : Sp := fun vs H Q _ => ∃ p, vs = [.ref p] ∧ Stm H p ∧ ∀ z H', Kp p H H' → Stm H' p → z.length ≤ 200 → ascii z = true → Q (.str z) H'
def spDue (K : PySem.W.Frag) : Sp := fun vs H Q _ => ∃ (a : Addr) (ls : List Str), vs = [.ref a] ∧ H a = some (.lst (ls.map V.str)) ∧ ls.length ≤ 50000 ∧ sumL ls ≤ 50000 ∧ ls.head?.map spc ≠ some true ∧ ∀ l H', H l = none → Same H H' → H' l = some (.lst ((unfS ls).map V.str)) → Q (.ref l) H'
def spRaises (K : PySem.W.Frag) : Sp := fun vs H Q _ => ∃ (a : Addr) (ls : List Str), vs = [.ref a] ∧ H a = some (.lst (ls.map V.str)) ∧ ls.length ≤ 50000 ∧ sumL ls ≤ 50000 ∧ ls.head?.map spc = some true ∧ ∀ H', Same H H' → Q (.bl true) H'
def spReads (K : PySem.W.Frag) : Sp := fun vs H Q _ => ∃ (a d : Addr) (ls : List Str), vs = [.ref a, .ref d] ∧ H a = some (.lst (ls.map V.str)) ∧ H d = some (.lst ((unfS ls).map V.str)) ∧ ls.length ≤ 50000 ∧ sumL ls ≤ 50000 ∧ (∀ z ∈ ls, ascii z = true) ∧ ls.head?.map spc ≠ some true ∧ ∀ H', Same H H' → Q (.bl true) H'
def spLaw (K : PySem.W.Frag) : Sp := fun vs H Q _ => ∃ (a : Addr) (ns : List Int), vs = [.ref a] ∧ SqL K H a (ns.map V.int) ∧ ns.length ≤ 63 ∧ ∀ H', Q (.bl true) H'
theorem ascii_app {a b : Str} (h : ascii a = true) (h' : ascii b = true) : ascii (a ++ b) = true := by
  unfold ascii at h h' ⊢
  rw [tl_append, List.all_append, h, h']
  rfl
theorem foldl_all (p : Nat → Bool) : ∀ (l : List (Array Nat)) (a : Array Nat), a.toList.all p = true → (∀ x ∈ l, x.toList.all p = true) → (l.foldl (· ++ ·) a).toList.all p = true
  | [], a, h, _ => h
  | x :: l, a, h, h2 => by
    rw [List.foldl_cons]
    refine foldl_all p l _ ?_ fun y hy => h2 y (List.mem_cons_of_mem _ hy)
    rw [Array.toList_append, List.all_append, h, h2 x (List.mem_cons_self ..)]
    rfl
theorem ascii_mul {z : Str} (n : Int) (h : ascii z = true) : ascii (Txt.mul z n) = true := by
  unfold Txt.mul
  by_cases h1 : n < 1
  · rw [if_pos h1]; rfl
  · rw [if_neg h1]
    by_cases h2 : (n == 1 || z.length == 0) = true
    · rw [if_pos h2]; exact h
    · rw [if_neg h2]
      exact foldl_all _ _ _ rfl fun x hx => by
        rw [List.eq_of_mem_replicate hx]
        exact h
theorem ascii_cut {z : Str} {i : Nat} (h : ascii z = true) : ascii (cutS z none (some (i : Int))) = true := by
  unfold ascii at h ⊢
  rw [cutS_to (by omega), List.all_eq_true]
  rw [List.all_eq_true] at h
  exact fun c hc => h c (List.mem_of_mem_take hc)
theorem lay_strs {l : List Str} (h : ∀ z ∈ l, ascii z = true) : SeqAt.shaped (.list (l.map .str)) = true := by
  unfold SeqAt.shaped
  have e : ∀ l : List Str, (∀ z ∈ l, ascii z = true) → PyData.canLayAll0 (l.map .str) = true ∧ PyData.depthAll (l.map .str) = 0 := by
    intro l
    induction l with
    | nil => intro _; exact ⟨by rw [List.map_nil, PyData.canLayAll0], by rw [List.map_nil, PyData.depthAll]⟩
    | cons z l ih =>
      intro h
      obtain ⟨h1, h2⟩ := ih fun y hy => h y (List.mem_cons_of_mem _ hy)
      rw [List.map_cons, PyData.canLayAll0, PyData.depthAll, PyData.canLay0, PyData.depth, h1, h2, strOk_of (h z (List.mem_cons_self ..))]
      exact ⟨rfl, rfl⟩
  obtain ⟨h1, h2⟩ := e _ h
  rw [PyData.canLay0, PyData.depth, h1, h2]
  rfl
/-- what addL keeps -/
theorem addL_all {p : Str → Prop} (hp : ∀ a b, p a → p b → p (a ++ b)) (he : p Str.empty) {acc : List Str} {z : Str} (h : ∀ y ∈ acc, p y) (hz : p z) : ∀ y ∈ addL acc z, p y := by
  unfold addL
  split
  · intro y hy
    rcases List.mem_append.mp hy with hy | hy
    · exact h y ((List.dropLast_sublist acc).mem hy)
    · rw [List.mem_singleton.mp hy]
      refine hp _ _ ?_ hz
      cases e : acc.getLast? with
      | none => exact he
      | some x => exact h x (List.mem_of_getLast? e)
  · intro y hy
    rcases List.mem_append.mp hy with hy | hy
    · exact h y hy
    · rw [List.mem_singleton.mp hy]; exact hz
theorem foldl_addL {p : Str → Prop} (hp : ∀ a b, p a → p b → p (a ++ b)) (he : p Str.empty) : ∀ {ls acc : List Str}, (∀ y ∈ acc, p y) → (∀ y ∈ ls, p y) → ∀ y ∈ ls.foldl addL acc, p y
  | [], acc, h, _ => h
  | z :: ls, acc, h, h2 => by
    rw [List.foldl_cons]
    exact foldl_addL hp he (addL_all hp he h (h2 z (List.mem_cons_self ..))) fun y hy => h2 y (List.mem_cons_of_mem _ hy)
theorem unfS_ascii {ls : List Str} (h : ∀ y ∈ ls, ascii y = true) : ∀ y ∈ unfS ls, ascii y = true := foldl_addL (p := fun z => ascii z = true) (fun _ _ => ascii_app) rfl nofun h
theorem addL_len {acc : List Str} {z : Str} : (addL acc z).length ≤ acc.length + 1 := by
  unfold addL
  split
  · rw [List.length_append, List.length_dropLast]
    simp only [List.length_cons, List.length_nil]
    omega
  · rw [List.length_append]
    exact Nat.le_refl _
theorem foldl_len : ∀ {ls acc : List Str}, (ls.foldl addL acc).length ≤ acc.length + ls.length
  | [], acc => Nat.le_refl _
  | z :: ls, acc => by
    have h1 := foldl_len (ls := ls) (acc := addL acc z)
    have h2 := addL_len (acc := acc) (z := z)
    rw [List.foldl_cons, List.length_cons]
    omega
theorem addL_sum {acc : List Str} {z : Str} : sumL (addL acc z) = sumL acc + z.length := by
  unfold addL
  split
  · cases e : acc.getLast? with
    | none =>
      rw [List.getLast?_eq_none_iff] at e
      subst e
      show sumL [Str.empty ++ z] = 0 + z.length
      rw [Str.empty_append]
      unfold sumL
      simp
    | some x =>
      obtain ⟨ys, rfl⟩ := List.getLast?_eq_some_iff.mp e
      rw [List.dropLast_concat, sumL_snoc, sumL_snoc]
      show _ + (x ++ z).length = _
      rw [Str.length_append]
      omega
  · exact sumL_snoc _ _
theorem foldl_sum : ∀ {ls acc : List Str}, sumL (ls.foldl addL acc) = sumL acc + sumL ls
  | [], acc => rfl
  | z :: ls, acc => by
    rw [List.foldl_cons, foldl_sum, addL_sum]
    have : sumL (z :: ls) = z.length + sumL ls := by unfold sumL; simp
    omega
theorem unfS_sum (ls : List Str) : sumL (unfS ls) = sumL ls := by
  unfold unfS
  rw [foldl_sum]
  exact Nat.zero_add _
theorem unfS_len (ls : List Str) : (unfS ls).length ≤ ls.length := by
  have := foldl_len (ls := ls) (acc := [])
  unfold unfS
  simpa using this
theorem addL_sp {acc : List Str} {x p : Str} (h : spc p = true) : addL (acc ++ [x]) p = acc ++ [x ++ p] := by
  unfold addL
  rw [if_pos h, List.dropLast_concat, List.getLast?_append]
  rfl
theorem addL_no {acc : List Str} {p : Str} (h : spc p = false) : addL acc p = acc ++ [p] := by
  unfold addL
  rw [h, if_neg (by decide)]
theorem spc_take {p : Str} {L : List Nat} {n : Nat} (e : p.cps.toList = L.take n) (h : 0 < n) : spc p = (L.head? == some 32) := by
  unfold spc
  rw [e, List.head?_take, if_neg (by omega)]
theorem fold_on : ∀ {ps : List Str} {L : List Nat} {w : Nat}, Folded ps L w → L.head? = some 32 → ∀ (acc : List Str) (x : Str), ∃ z : Str, z.cps.toList = x.cps.toList ++ L ∧ ps.foldl addL (acc ++ [x]) = acc ++ [z]
  | [], _, _, h, _, _, _ => h.elim
  | [p], L, w, h, hh, acc, x => ⟨x ++ p, by rw [tl_append, h.1], addL_sp (by unfold spc; rw [h.1, hh]; rfl)⟩
  | p :: q :: ps, L, w, h, hh, acc, x => by
    obtain ⟨n, e, n0, n1, _, n3, _, _, hf⟩ := h
    have hp : spc p = true := by rw [spc_take e n0, hh]; rfl
    obtain ⟨z, hz, he⟩ := fold_on hf (by rw [List.head?_drop]; exact n3) acc (x ++ p)
    refine ⟨z, ?_, ?_⟩
    · rw [hz, tl_append, e, List.append_assoc, List.take_append_drop]
    · rw [List.foldl_cons, addL_sp hp]
      exact he
/-- the lines of one line are put together again -/
theorem fold_back : ∀ {ps : List Str} {L : List Nat} {w : Nat}, Folded ps L w → L.head? ≠ some 32 → ∀ acc : List Str, ∃ z : Str, z.cps.toList = L ∧ ps.foldl addL acc = acc ++ [z]
  | [], _, _, h, _, _ => h.elim
  | [p], L, w, h, hh, acc => ⟨p, h.1, addL_no (by unfold spc; rw [h.1]; exact beq_eq_false_iff_ne.mpr hh)⟩
  | p :: q :: ps, L, w, h, hh, acc => by
    obtain ⟨n, e, n0, n1, _, n3, _, _, hf⟩ := h
    have hp : spc p = false := by rw [spc_take e n0]; exact beq_eq_false_iff_ne.mpr hh
    obtain ⟨z, hz, he⟩ := fold_on hf (by rw [List.head?_drop]; exact n3) acc p
    refine ⟨z, by rw [hz, e, List.take_append_drop], ?_⟩
    rw [List.foldl_cons, addL_no hp]
    exact he
theorem fold_line {ps : List Str} {y : Str} {w : Nat} (h : Folded ps y.cps.toList w) (hs : spc y = false) (acc : List Str) : ps.foldl addL acc = acc ++ [y] := by
  obtain ⟨z, hz, he⟩ := fold_back h (by unfold spc at hs; exact beq_eq_false_iff_ne.mp hs) acc
  have : z = y := congrArg Str.mk (Array.toList_inj.mp hz)
  rw [he, this]
theorem folded_first : ∀ {ps : List Str} {L : List Nat} {w : Nat}, Folded ps L w → ∃ p r, ps = p :: r ∧ (L.head? ≠ some 32 → spc p = false)
  | [], _, _, h => h.elim
  | [p], L, w, h => ⟨p, [], rfl, fun hh => by unfold spc; rw [h.1]; exact beq_eq_false_iff_ne.mpr hh⟩
  | p :: q :: ps, L, w, h => by
    obtain ⟨n, e, n0, _⟩ := h
    exact ⟨p, _, rfl, fun hh => by rw [spc_take e n0]; exact beq_eq_false_iff_ne.mpr hh⟩
theorem folded_sum : ∀ {ps : List Str} {L : List Nat} {w : Nat}, Folded ps L w → sumL ps = L.length ∧ ∀ p ∈ ps, ∀ c ∈ p.cps.toList, c ∈ L
  | [], _, _, h => h.elim
  | [p], L, w, h => ⟨by unfold sumL; rw [← h.1]; simp [str_len], fun q hq c hc => by rw [List.mem_singleton.mp hq, h.1] at hc; exact hc⟩
  | p :: q :: ps, L, w, h => by
    obtain ⟨n, e, n0, n1, _, _, _, _, hf⟩ := h
    obtain ⟨h1, h2⟩ := folded_sum hf
    have hp : p.length = n := by rw [str_len, e, List.length_take]; omega
    refine ⟨?_, fun r hr c hc => ?_⟩
    · have : sumL (p :: q :: ps) = p.length + sumL (q :: ps) := by unfold sumL; simp
      rw [this, h1, hp, List.length_drop]
      omega
    · rcases List.mem_cons.mp hr with rfl | hr
      · rw [e] at hc
        exact List.mem_of_mem_take hc
      · exact List.mem_of_mem_drop (h2 r hr c hc)
theorem dnall_strs {ok : Addr → Prop} {H : Hp} : ∀ ms : List Str, DnAll ok H (ms.map V.str) (ms.map PyData.str)
  | [] => .nil
  | m :: ms => .cons (.str m) (dnall_strs ms)
section
variable {K : PySem.W.Frag} {CR CL CM : Addr} {vs : List V} {H : Hp} {Q : VK} {E : XK}
/-- _law_raises: slots 0:lines 1:e -/
def t__law_raises (K : PySem.W.Frag) (C_RoomError : Addr) (C_BadLetter : Addr) (C_BadMail : Addr) : TS := (tSeq (tTryAs K C_RoomError 1 (fun (a : Addr) (cls : Value) (d : Option Addr) (D : Ends) (σ : L2.St) (H : Hp) => (cls = Value.ref C_BadMail ∧ d = none) ∧ (tRet (tAndV (tCB (rIsE K C_BadMail a) (tCons (tVar 1) (tCons (tC (.ref C_BadMail)) tNil))) (tAndV (tCB (rIsE K C_BadMail a) (tCons (tVar 1) (tCons (tC (.ty "ValueError")) tNil))) (tNotV (tCB (rIsE K C_BadMail a) (tCons (tVar 1) (tCons (tC (.ref C_BadLetter)) tNil))))))) D σ H) (fun W => (tDrop (tCallS (spUnfold K C_BadMail) (WE W) (tCons (tVar 0) tNil)))))
  (tRet (tC (.bl false))))
theorem l__law_raises (h : spRaises K vs H Q E) : vs.length = 1 := by obtain ⟨a, ls, rfl, _⟩ := h; rfl
theorem r__law_raises (XF : ExFacts K CR CL CM) (h : spRaises K vs H Q E) : t__law_raises K CR CL CM { nx := fun _ H' => Q .non H', rt := Q } (start ["lines", "e"] vs) H := by
  obtain ⟨a, ls, rfl, ha, hl, hs, hd, q⟩ := h
  unfold t__law_raises
  refine w_seq ?_
  show tDrop (tCallS (spUnfold K CM) _ (tCons (tVar 0) tNil)) _ _ _
  refine w_drop ?_
  show tCons (tVar 0) tNil _ _ _
  refine w_cons (w_var rfl (w_nil ?_))
  refine ⟨a, ls, rfl, ha, hl, hs, fun _ H' T => ?_, fun hn => absurd hd hn⟩
  refine ⟨true, XF.up, fun _ e he => ?_, nofun⟩
  refine ⟨⟨rfl, rfl⟩, ?_⟩
  walk_at "v"
  refine ⟨.ref CM, .ref CM, true, rfl, fun u h => h, ?_, ?_⟩
  · unfold PySem.W.kitOne
    rw [if_pos (by simp)]
  walk_at "v"
  refine ⟨.ty "ValueError", .type "ValueError", true, rfl, fun u h => h, XF.val, ?_⟩
  walk_at "v"
  refine ⟨.ref CL, .ref CL, false, rfl, fun u h => h, XF.no, ?_⟩
  walk_at "v"
  exact q _ T
/-- _law_reads: slots 0:lines 1:due 2:passed 3:turn 4:answer -/
def t__law_reads (K : PySem.W.Frag) (C_RoomError : Addr) (C_BadLetter : Addr) (C_BadMail : Addr) : TS := (tSeq (tAsg (tCB (qListOf K) (tCons (tVar 0) tNil)) (gName 2))
  (tSeq (tFor (iRng1 (tCons (tC (.int 2)) tNil)) (gName 3) (tSeq (tAsg (tCall (spUnfold K C_BadMail) [] C8.E0 (tCons (tVar 2) tNil)) (gName 4))
  (tSeq (tIfS (tOr (tNot (tB (tCB (rIsi K) (tCons (tVar 4) (tCons (tC (.ty "list")) tNil))))) (tOr (tTest (tOp (rNeD K) (tVar 4) (tVar 1))) (tTest (tOp (rNeD K) (tVar 2) (tVar 0))))) (tRet (tC (.bl false))) tNext)
  (tSeq (tDrop (tBM K "list" rAppend (tVar 4) (tCons (tC (.str "y")) tNil)))
  (tIfS (tTest (tOp (rNeD K) (tVar 2) (tVar 0))) (tRet (tC (.bl false))) tNext)))))
  (tRet (tC (.bl true)))))
theorem l__law_reads (h : spReads K vs H Q E) : vs.length = 2 := by obtain ⟨a, d, ls, rfl, _⟩ := h; rfl
theorem dn_list {ok : Addr → Prop} {l : Addr} {ys : List Str} (h : H l = some (.lst (ys.map V.str))) (o : ok l) : Dn ok H (.ref l) (.list (ys.map .str)) := .lst o h (dnall_strs ys)
theorem r__law_reads (XF : ExFacts K CR CL CM) (h : spReads K vs H Q E) : t__law_reads K CR CL CM { nx := fun _ H' => Q .non H', rt := Q } (start ["lines", "due", "passed", "turn", "answer"] vs) H := by
  obtain ⟨a, d, ls, rfl, ha, hd, hl, hs, hasc, hh, q⟩ := h
  have hsh := lay_strs hasc
  have hsh2 := lay_strs (unfS_ascii hasc)
  unfold t__law_reads
  walk_at "v"
  refine w_listOfV (.inl (SqL.of ha)) fun p H1 hp T1 e1 => ?_
  walk_at "b"
  refine w_for (w_iRng1 ?_)
  walk_at "w"
  refine w_rng (by decide) (by decide) (fun i σ H' => (∃ y3 y4, σ = [some (.ref a), some (.ref d), some (.ref p), y3, y4]) ∧ Same H1 H') ⟨⟨_, _, rfl⟩, Same.refl H1⟩ (fun i σ H2 hi pv => ?_) (fun σ H2 pv => ?_)
  · obtain ⟨⟨y3, y4, rfl⟩, T2⟩ := pv
    have T12 := T1.trans T2
    walk_at "v"
    refine ⟨p, ls, rfl, T2 _ _ e1, hl, hs, fun h => absurd h hh, fun _ l H3 hl3 T3 e3 hul => ?_⟩
    walk_at "v"
    refine w_isi (Dn.tyX (ok := Any) (dn_list e3 trivial)) (kit_list _) ?_
    walk_at "v"
    walk_at "if" <;> intro h
    · exact absurd rfl h
    clear h
    walk_at "v"
    refine w_neDs (dn_list e3 (ok := Any) trivial) (dn_list (T3 _ _ (T12 _ _ hd)) (ok := Any) trivial) hsh2 ?_
    walk_at "v"
    refine w_neDs (dn_list (T3 _ _ (T2 _ _ e1)) (ok := Any) trivial) (dn_list (T3 _ _ (T12 _ _ ha)) (ok := Any) trivial) hsh ?_
    walk_at "v"
    refine w_appV e3 (by rw [List.length_map]; omega) fun H4 k4 e4 => ?_
    have T24 : Same H2 H4 := fun c o e => k4 _ _ (ne_of_none e hl3) (T3 _ _ e)
    walk_at "v"
    refine w_neDs (dn_list (T24 _ _ (T2 _ _ e1)) (ok := Any) trivial) (dn_list (T24 _ _ (T12 _ _ ha)) (ok := Any) trivial) hsh ?_
    walk_at "v"
    exact ⟨⟨_, _, rfl⟩, T2.trans T24⟩
  · obtain ⟨⟨y3, y4, rfl⟩, T2⟩ := pv
    walk_at "v"
    exact q _ (T1.trans T2)
/-- _law_due: slots 0:pieces 1:due 2:piece -/
def t__law_due (K : PySem.W.Frag) : TS := (tSeq (tAsg (tLst tNil) (gName 1))
  (tSeq (tFor (iList K (tVar 0)) (gName 2) (tIfS (tTest (tOp rEq (tSl rSlS (tVar 2) tNoPart (tPart (tC (.int 1)))) (tC (.str " ")))) (tAsg (tOp qAddS (tOp (rIxL K) (tVar 1) (tOp qSub (tCB (qLenSeq K) (tCons (tVar 1) tNil)) (tC (.int 1)))) (tVar 2)) (gSub (tVar 1) (tOp qSub (tCB (qLenSeq K) (tCons (tVar 1) tNil)) (tC (.int 1))) rSetL)) (tDrop (tBM K "list" rAppend (tVar 1) (tCons (tVar 2) tNil)))))
  (tRet (tVar 1))))
theorem l__law_due (h : spDue K vs H Q E) : vs.length = 1 := by obtain ⟨a, ls, rfl, _⟩ := h; rfl
theorem mem_sum {ls : List Str} {z : Str} (h : z ∈ ls) : z.length ≤ sumL ls := by
  unfold sumL
  induction ls with
  | nil => exact nomatch h
  | cons x r ih =>
    rw [List.map_cons, List.sum_cons]
    rcases List.mem_cons.mp h with rfl | h
    · omega
    · have := ih h
      omega
theorem sum_take (ls : List Str) (i : Nat) : sumL (ls.take i) ≤ sumL ls := by
  have e : sumL ls = sumL (ls.take i) + sumL (ls.drop i) := by
    unfold sumL
    rw [← List.sum_append, ← List.map_append, List.take_append_drop]
  omega
theorem r__law_due (h : spDue K vs H Q E) : t__law_due K { nx := fun _ H' => Q .non H', rt := Q } (start ["pieces", "due", "piece"] vs) H := by
  obtain ⟨a, ls, rfl, ha, hl, hs, hh, q⟩ := h
  unfold t__law_due
  walk_at "v"
  refine w_new fun g H1 hg T1 e1 => ?_
  walk_at "b"
  have nag : a ≠ g := ne_of_none ha hg
  refine w_forL (w_var rfl (w_lstF (SqL.of (T1 _ _ ha)) (fun i σ H' => (∃ y2, σ = [some (.ref a), some (.ref g), y2]) ∧ H' g = some (.lst ((unfS (ls.take i)).map V.str)) ∧ Kp g H1 H' ∧ (0 < i → unfS (ls.take i) ≠ [])) ⟨⟨_, rfl⟩, e1, Kp.refl, fun h => absurd h (Nat.lt_irrefl 0)⟩ (fun i σ H' _ pv => SqL.of (pv.2.2.1 _ _ nag (T1 _ _ ha))) (fun i y σ H' hi pv => ?_) (fun σ H' pv => ?_)))
  · obtain ⟨⟨y2, rfl⟩, hgl, hk, hne⟩ := pv
    rw [List.getElem?_map] at hi
    obtain ⟨z, hz, rfl⟩ := Option.map_eq_some_iff.mp hi
    have hzl := mem_sum (List.mem_of_getElem? hz)
    have hil : i < ls.length := (List.getElem?_eq_some_iff.mp hz).1
    have hsum := unfS_sum (ls.take i)
    have hst := sum_take ls i
    have hul := unfS_len (ls.take i)
    have htl : (ls.take i).length ≤ ls.length := by rw [List.length_take]; omega
    walk_at "v"
    refine w_slS (sz (by omega)) ?_
    walk_at "v"
    rw [cut_spc, unfS_snoc hz]
    cases hsp : spc z with
    | false =>
      walk_at "v"
      refine w_appV hgl (by rw [List.length_map]; omega) fun H3 k3 e3 => ?_
      walk_at "v"
      rw [addL_no hsp]
      refine ⟨⟨_, rfl⟩, ?_, hk.trans k3, fun _ e => by simp at e⟩
      rw [e3, List.map_append]
      rfl
    | true =>
      have hi0 : 0 < i := by
        refine Nat.pos_of_ne_zero fun e => ?_
        subst e
        rw [List.head?_eq_getElem?, hz, Option.map_some, hsp] at hh
        exact hh rfl
      have hU := hne hi0
      generalize unfS (ls.take i) = U at hgl hU hsum hul
      obtain ⟨U0, x, rfl⟩ : ∃ U0 x, U = U0 ++ [x] := ⟨U.dropLast, U.getLast hU, (List.dropLast_concat_getLast hU).symm⟩
      rw [addL_sp hsp]
      rw [sumL_snoc] at hsum
      have en : ((((U0 ++ [x]).map V.str).length : Int) - 1) = ((U0.length : Nat) : Int) := by
        rw [List.length_map, List.length_append]
        simp
      walk_at "v"
      rw [en]
      refine w_ixL (SqL.of hgl) (atI_nat (j := U0.length) (by rw [List.getElem?_map, List.getElem?_append_right (Nat.le_refl _), Nat.sub_self]; rfl)) ?_
      walk_at "v"
      refine w_addS (sz (by omega)) ?_
      walk_at "v"
      rw [en]
      refine w_setL hgl (j := U0.length) ?_ ?_
      · rw [List.length_map, List.length_append]
        unfold ixN
        rw [if_pos (by omega), if_pos (by simp only [List.length_cons, List.length_nil]; omega)]
        simp
      refine ⟨⟨_, rfl⟩, ?_, hk.updp, fun _ e => by simp at e⟩
      rw [upd_same, List.map_append, List.map_append, List.set_append_right _ _ (by rw [List.length_map]; exact Nat.le_refl _), List.length_map, Nat.sub_self]
      rfl
  · obtain ⟨⟨y2, rfl⟩, hgl, hk, hne⟩ := pv
    rw [List.length_map, List.take_length] at hgl
    walk_at "v"
    exact q g H' hg (((Same.kp T1).trans hk).same hg) hgl
/-- _law_piece: slots 0:stream 1:word 2:spaces 3:rest -/
def t__law_piece (K : PySem.W.Frag) : TS := (tSeq (tAsg (tSl rSlS (tC (.str "abc:.|,~x\t")) tNoPart (tPart (tOp qAdd (tC (.int 1)) (tCall (spNext K) [] C8.E0 (tCons (tVar 0) (tCons (tC (.int 10)) tNil)))))) (gName 1))
  (tSeq (tAsg (tOp (rIxT K) (tTup (tCons (tC (.str "")) (tCons (tC (.str "")) (tCons (tC (.str " ")) (tCons (tC (.str " ")) (tCons (tC (.str "  ")) (tCons (tC (.str "     ")) (tCons (tC (.str "\t")) (tCons (tC (.str "\t ")) tNil))))))))) (tCall (spNext K) [] C8.E0 (tCons (tVar 0) (tCons (tC (.int 8)) tNil)))) (gName 2))
  (tSeq (tAsg (tOp (rIxT K) (tTup (tCons (tC (.str "")) (tCons (tVar 1) (tCons (tOp qAddS (tOp qAddS (tVar 1) (tC (.str " "))) (tVar 1)) (tCons (tOp qAddS (tOp qMulS (tVar 1) (tC (.int 9))) (tC (.str " b "))) (tCons (tC (.str "Seen: a 1, b 2")) tNil)))))) (tCall (spNext K) [] C8.E0 (tCons (tVar 0) (tCons (tC (.int 5)) tNil)))) (gName 3))
  (tRet (tOp qAddS (tVar 2) (tVar 3))))))
theorem l__law_piece (h : spPiece K vs H Q E) : vs.length = 1 := by obtain ⟨p, rfl, _⟩ := h; rfl
theorem pick_at {P : Str → Prop} : ∀ {l : List Str} {v : Int}, (∀ z ∈ l, P z) → 0 ≤ v → v < l.length → ∃ z, atI (l.map V.str) v = some (.str z) ∧ P z := by
  intro l v h h0 h1
  have hl : v.toNat < l.length := by omega
  exact ⟨l[v.toNat], atI_of h0 (by rw [List.getElem?_map, List.getElem?_eq_getElem hl]; rfl), h _ (List.getElem_mem hl)⟩
theorem r__law_piece (h : spPiece K vs H Q E) : t__law_piece K { nx := fun _ H' => Q .non H', rt := Q } (start ["stream", "word", "spaces", "rest"] vs) H := by
  obtain ⟨p, rfl, hs, q⟩ := h
  unfold t__law_piece
  walk_at "v"
  refine ⟨p, 10, rfl, hs, by decide, by decide, fun v H1 k1 s1 v0 v1 => ?_⟩
  walk_at "v"
  refine w_slS (by decide) ?_
  have hwl : (cutS (Str.ofString "abc:.|,~x\t") none (some (1 + v))).length ≤ 10 := cutS_length _ _ _
  have hwa : ascii (cutS (Str.ofString "abc:.|,~x\t") none (some (1 + v))) = true := by
    have e : (1 + v) = (((1 + v).toNat : Nat) : Int) := by omega
    rw [e]
    exact ascii_cut (by decide)
  generalize cutS (Str.ofString "abc:.|,~x\t") none (some (1 + v)) = w at hwl hwa
  walk_at "v"
  refine w_new fun t1 H2 ht1 T1 e1 => ?_
  walk_at "v"
  refine ⟨p, 8, rfl, s1.same T1, by decide, by decide, fun v2 H3 k3 s3 v20 v21 => ?_⟩
  have n1p : t1 ≠ p := s1.ne ht1
  have e3 := k3 _ _ n1p e1
  walk_at "v"
  obtain ⟨sp, hsp, hspl, hspa⟩ := pick_at (P := fun z => z.length ≤ 5 ∧ ascii z = true) (l := ["", "", " ", " ", "  ", "     ", "\t", "\t "]) (v := v2) (by decide) v20 v21
  refine w_ixT (SqT.of e3) hsp ?_
  walk_at "v"
  have l1 : (Str.ofString " ").length = 1 := rfl
  have l3 : (Str.ofString " b ").length = 3 := rfl
  refine w_addS (sz (by omega)) ?_
  walk_at "v"
  refine w_addS (sz (by rw [Str.length_append]; omega)) ?_
  walk_at "v"
  refine w_mulS (by decide) (by decide) (by omega) fun hml => ?_
  have hml : (Txt.mul w 9).length ≤ 90 := Nat.le_trans hml (by show w.length * 9 ≤ 90; omega)
  have hma := ascii_mul 9 hwa
  generalize Txt.mul w 9 = mw at hml hma
  walk_at "v"
  refine w_addS (sz (by omega)) ?_
  walk_at "v"
  refine w_new fun t2 H4 ht2 T4 e4 => ?_
  walk_at "v"
  refine ⟨p, 5, rfl, s3.same T4, by decide, by decide, fun v5 H5 k5 s5 v50 v51 => ?_⟩
  have n2p : t2 ≠ p := s3.ne ht2
  have e5 := k5 _ _ n2p e4
  walk_at "v"
  obtain ⟨rs, hrs, hrl, hra⟩ := pick_at (P := fun z => z.length ≤ 100 ∧ ascii z = true) (l := [Str.ofString "", w, w ++ Str.ofString " " ++ w, mw ++ Str.ofString " b ", Str.ofString "Seen: a 1, b 2"]) (v := v5) (by
    intro z hz
    simp only [List.mem_cons, List.not_mem_nil, or_false] at hz
    rcases hz with rfl | rfl | rfl | rfl | rfl
    · exact ⟨by decide, by decide⟩
    · exact ⟨by omega, hwa⟩
    · exact ⟨by rw [Str.length_append, Str.length_append]; omega, ascii_app (ascii_app hwa (by decide)) hwa⟩
    · exact ⟨by rw [Str.length_append]; omega, ascii_app hma (by decide)⟩
    · exact ⟨by decide, by decide⟩) v50 v51
  refine w_ixT (SqT.of e5) hrs ?_
  walk_at "v"
  refine w_addS (sz (by omega)) ?_
  exact q _ _ (((k1.trans (Same.kp T1)).trans k3).trans ((Same.kp T4).trans k5)) s5 (by rw [Str.length_append]; omega) (ascii_app hspa hra)
/-- law: slots 0:script 1:pieces 2:k 3:passed 4:due 5:line 6:whole 7:width 8:folded -/
def t_law (K : PySem.W.Frag) : TS := (tSeq (tAsg (tLst tNil) (gName 1))
  (tSeq (tFor (iRng1 (tCons (tCB qMin2 (tCons (tCB (qLenSeq K) (tCons (tVar 0) tNil)) (tCons (tC (.int 60)) tNil))) tNil)) (gName 2) (tDrop (tBM K "list" rAppend (tVar 1) (tCons (tCall (spPiece K) [] C8.E0 (tCons (tCall (spStream K) [] C8.E0 (tCons (tOp (rIxL K) (tVar 0) (tVar 2)) (tCons (tVar 2) tNil))) tNil)) tNil))))
  (tSeq (tIfS (tAnd (tTest (tOp qGt (tCB (qLenSeq K) (tCons (tVar 1) tNil)) (tC (.int 0)))) (tTest (tOp rEq (tSl rSlS (tOp (rIxL K) (tVar 1) (tC (.int 0))) tNoPart (tPart (tC (.int 1)))) (tC (.str " "))))) (tSeq (tAsg (tCB (qListOf K) (tCons (tVar 1) tNil)) (gName 3))
  (tSeq (tIfS (tOr (tNot (tB (tCall (spRaises K) [] C8.E0 (tCons (tVar 3) tNil)))) (tTest (tOp (rNeD K) (tVar 3) (tVar 1)))) (tRet (tC (.bl false))) tNext)
  (tAsg (tOp rCat (tLst (tCons (tC (.str "x")) tNil)) (tVar 1)) (gName 1)))) tNext)
  (tSeq (tAsg (tCall (spDue K) [] C8.E0 (tCons (tVar 1) tNil)) (gName 4))
  (tSeq (tIfS (tOr (tNot (tB (tCall (spReads K) [] C8.E0 (tCons (tVar 1) (tCons (tVar 4) tNil))))) (tNot (tB (tCall (spRaises K) [] C8.E0 (tCons (tOp rCat (tLst (tCons (tC (.str " ")) tNil)) (tVar 1)) tNil))))) (tRet (tC (.bl false))) tNext)
  (tSeq (tAsg (tLc (iList K (tVar 4)) (gName 5) (tTest (tOp rNe (tSl rSlS (tVar 5) tNoPart (tPart (tC (.int 1)))) (tC (.str " ")))) (tVar 5) [5]) (gName 6))
  (tSeq (tAsg (tOp qAdd (tC (.int 1)) (tCall (spNext K) [] C8.E0 (tCons (tCall (spStream K) [] C8.E0 (tCons (tCall (spCell K) [] C8.E0 (tCons (tVar 0) (tCons (tC (.int 0)) tNil))) (tCons (tC (.int 99)) tNil))) (tCons (tC (.int 30)) tNil)))) (gName 7))
  (tSeq (tAsg (tLst tNil) (gName 8))
  (tSeq (tFor (iList K (tVar 6)) (gName 5) (tAsg (tOp rCat (tVar 8) (tCall (spFold K) [] C8.E0 (tCons (tVar 5) (tCons (tVar 7) tNil)))) (gName 8)))
  (tRet (tAndV (tCall (spReads K) [] C8.E0 (tCons (tVar 8) (tCons (tVar 6) tNil))) (tCall (spReads K) [] C8.E0 (tCons (tLst tNil) (tCons (tLst tNil) tNil))))))))))))))
theorem l_law (h : spLaw K vs H Q E) : vs.length = 1 := by obtain ⟨a, ns, rfl, _⟩ := h; rfl
theorem sum_le200 {ls : List Str} (h : ∀ z ∈ ls, z.length ≤ 200) : sumL ls ≤ ls.length * 200 := sum_le (fun z : Str => z.length) 200 h
theorem spc_pad {z : Str} {o : Option Str} (h : o = some z) : o.map spc = some (spc z) := by rw [h]; rfl
theorem r_law (h : spLaw K vs H Q E) : t_law K { nx := fun _ H' => Q .non H', rt := Q } (start ["script", "pieces", "k", "passed", "due", "line", "whole", "width", "folded"] vs) H := by
  obtain ⟨a, ns, rfl, hS, hn, q⟩ := h
  unfold t_law
  walk_at "v"
  refine w_new fun g H1 hg T1 e1 => ?_
  walk_at "b"
  refine w_for (w_iRng1 ?_)
  have hS1 := T1.seq hS
  walk_at "v"
  rw [List.length_map]
  have hm : (if (60 : Int) < (ns.length : Int) then (60 : Int) else (ns.length : Int)) ≤ 60 ∧ (if (60 : Int) < (ns.length : Int) then (60 : Int) else (ns.length : Int)) ≤ ns.length ∧ 0 ≤ (if (60 : Int) < (ns.length : Int) then (60 : Int) else (ns.length : Int)) := by
    by_cases e : (60 : Int) < (ns.length : Int)
    · rw [if_pos e]; omega
    · rw [if_neg e]; omega
  generalize (if (60 : Int) < (ns.length : Int) then (60 : Int) else (ns.length : Int)) = m at hm
  obtain ⟨hm1, hm2, hm0⟩ := hm
  have nag : ∀ o, H a = some o → a ≠ g := fun o e => ne_of_none e hg
  refine w_rng (by omega) (by omega) (fun i σ H' => (∃ y2, σ = [some (.ref a), some (.ref g), y2, none, none, none, none, none, none]) ∧ (∃ ls : List Str, H' g = some (.lst (ls.map V.str)) ∧ ls.length = i ∧ ∀ z ∈ ls, z.length ≤ 200 ∧ ascii z = true) ∧ Same H H') ⟨⟨_, rfl⟩, ⟨[], e1, rfl, nofun⟩, T1⟩ (fun i σ H2 hi pv => ?_) (fun σ H2 pv => ?_)
  · obtain ⟨⟨y2, rfl⟩, ⟨ls, hgl, hll, hls⟩, T2⟩ := pv
    walk_at "v"
    have hin : i < ns.length := by omega
    refine w_ixL (T2.seq hS) (atI_nat (j := i) (by rw [List.getElem?_map, List.getElem?_eq_getElem hin]; rfl)) ?_
    walk_at "v"
    refine ⟨_, _, rfl, fun p H3 hp T3 s3 => ?_⟩
    walk_at "v"
    refine ⟨p, rfl, s3, fun z H4 k4 s4 hzl hza => ?_⟩
    walk_at "v"
    have T24 : Same H2 H4 := ((Same.kp T3).trans k4).same hp
    refine w_appV (T24 _ _ hgl) (by rw [List.length_map]; omega) fun H5 k5 e5 => ?_
    walk_at "v"
    refine ⟨⟨_, rfl⟩, ⟨ls ++ [z], by rw [e5, List.map_append]; rfl, by rw [List.length_append, hll]; rfl, fun y hy => ?_⟩, fun c o e => k5 _ _ (ne_of_none e hg) (T24 _ _ (T2 _ _ e))⟩
    rcases List.mem_append.mp hy with hy | hy
    · exact hls y hy
    · rw [List.mem_singleton.mp hy]; exact ⟨hzl, hza⟩
  · obtain ⟨⟨y2, rfl⟩, ⟨ls, hgl, hll, hls⟩, T2⟩ := pv
    have hll : ls.length ≤ 60 := by omega
    walk_at "b"
    refine w_ifCut (Mid := fun σ' H' => (∃ g2 y3, σ' = [some (.ref a), some (.ref g2), y2, y3, none, none, none, none, none] ∧ ∃ ls2 : List Str, H' g2 = some (.lst (ls2.map V.str)) ∧ ls2.length ≤ 61 ∧ (∀ z ∈ ls2, z.length ≤ 200 ∧ ascii z = true) ∧ ls2.head?.map spc ≠ some true) ∧ Same H H') (fun σ' H3 mv => ?_) (fun R r => ?_)
    · obtain ⟨⟨g2, y3, rfl, ls2, hg2, hl2, hls2, hh2⟩, T3⟩ := mv
      have hs2 := sum_le200 fun z hz => (hls2 z hz).1
      walk_at "v"
      refine ⟨g2, ls2, rfl, hg2, by omega, by omega, hh2, fun du H4 hdu T4 e4 => ?_⟩
      walk_at "v"
      refine ⟨g2, du, ls2, rfl, T4 _ _ hg2, e4, by omega, by omega, fun z hz => (hls2 z hz).2, hh2, fun H5 T5 => ?_⟩
      walk_at "v"
      refine w_new fun sl H6 hsl T6 e6 => ?_
      walk_at "v"
      refine w_catV e6 (T6 _ _ (T5 _ _ (T4 _ _ hg2))) (by rw [List.length_map]; simp only [List.length_cons, List.length_nil]; omega) fun ps H7 hps T7 e7 => ?_
      walk_at "v"
      have e7' : H7 ps = some (.lst ((Str.ofString " " :: ls2).map V.str)) := e7
      refine ⟨ps, Str.ofString " " :: ls2, rfl, e7', by rw [List.length_cons]; omega, by
        have : sumL (Str.ofString " " :: ls2) = 1 + sumL ls2 := by unfold sumL; simp; rfl
        omega, rfl, fun H8 T8 => ?_⟩
      walk_at "v"
      have T48 : Same H4 H8 := ((T5.trans T6).trans T7).trans T8
      have T38 := T4.trans T48
      have e8 := T48 _ _ e4
      have hU := unfS_ascii fun z hz => (hls2 z hz).2
      have hUs := unfS_sum ls2
      have hUl := unfS_len ls2
      generalize unfS ls2 = U at e8 hU hUs hUl
      refine lcL (its := U.map V.str) (fun H9 T9 => SqL.of (T9 _ _ e8)) (by rw [List.length_map]; exact Nat.lt_of_le_of_lt (show U.length ≤ 61 by omega) (by decide)) (fun v => v) (fun v => match v with | .str y => !spc y | _ => false) (fun x => by exact rfl) (fun x hx H9 _ R r => ?_) (fun x hx _ H9 _ R r => ?_) (fun D H9 hD T9 e9 => ?_)
      · obtain ⟨y, hy, rfl⟩ := List.mem_map.mp hx
        have := mem_sum hy
        walk_at "v"
        refine w_slS (sz (by omega)) ?_
        walk_at "v"
        have ec : decide (cutS y none (some 1) ≠ Str.ofString " ") = !spc y := by
          have := cut_spc y
          cases h : spc y
          · rw [h] at this
            have n := of_decide_eq_false this
            simp [n]
          · rw [h] at this
            have n := of_decide_eq_true this
            simp [n]
        rw [ec]
        exact r H9 (Same.refl H9)
      · walk_at "v"
        exact r H9 (Same.refl H9)
      have hW : ∃ W : List Str, H9 D = some (.lst (W.map V.str)) ∧ (∀ z ∈ W, spc z = false ∧ ascii z = true) ∧ W.length ≤ 61 ∧ sumL W ≤ 12200 := by
        refine ⟨U.filter fun y => !spc y, ?_, fun z hz => ?_, ?_, ?_⟩
        · rw [e9, List.map_id', List.filter_map]
          rfl
        · obtain ⟨h1, h2⟩ := List.mem_filter.mp hz
          exact ⟨by simpa using h2, hU z h1⟩
        · exact Nat.le_trans (List.length_filter_le _ _) (by omega)
        · have : ∀ l : List Str, sumL (l.filter fun y => !spc y) ≤ sumL l := by
            intro l
            unfold sumL
            induction l with
            | nil => exact Nat.le_refl _
            | cons x l ih =>
              rw [List.filter_cons]
              split
              · rw [List.map_cons, List.map_cons, List.sum_cons, List.sum_cons]; omega
              · rw [List.map_cons, List.sum_cons]; omega
          have := this U
          omega
      obtain ⟨W, eW, hWs, hWl, hWsum⟩ := hW
      walk_at "v"
      refine ⟨a, ns, 0, rfl, (((T3.trans T38).trans T9).seq hS), by decide, fun c0 => ?_⟩
      walk_at "v"
      refine ⟨c0, 99, rfl, fun p Ha hp Ta sa => ?_⟩
      walk_at "v"
      refine ⟨p, 30, rfl, sa, by decide, by decide, fun v Hb kb sb v0 v1 => ?_⟩
      have Tb : Same H9 Hb := ((Same.kp Ta).trans kb).same hp
      walk_at "v"
      refine w_new fun fo Hc hfo Tc ec => ?_
      walk_at "b"
      have T9c := Tb.trans Tc
      obtain ⟨w, hw⟩ : ∃ w : Nat, (1 + v) = (w : Int) := ⟨(1 + v).toNat, by omega⟩
      rw [hw]
      have hw1 : 1 ≤ w := by omega
      refine w_forL (w_var rfl (w_lstF (SqL.of (T9c _ _ eW)) (fun i σ Hd => (∃ y5 fo2 F, σ = [some (.ref a), some (.ref g2), y2, y3, some (.ref du), y5, some (.ref D), some (.int (w : Int)), some (.ref fo2)] ∧ Hd fo2 = some (.lst (F.map V.str)) ∧ F.length ≤ sumL (W.take i) + i ∧ sumL F ≤ sumL (W.take i) ∧ (∀ z ∈ F, ascii z = true) ∧ F.head?.map spc ≠ some true ∧ unfS F = W.take i) ∧ Same Hc Hd) ⟨⟨_, fo, [], rfl, ec, Nat.zero_le _, Nat.zero_le _, nofun, nofun, rfl⟩, Same.refl Hc⟩ (fun i σ Hd _ pv => SqL.of (pv.2 _ _ (T9c _ _ eW))) (fun i y σ Hd hi pv => ?_) (fun σ Hd pv => ?_)))
      · obtain ⟨⟨y5, fo2, F, rfl, eF, hFl, hFs, hFa, hFh, hFu⟩, Td⟩ := pv
        rw [List.getElem?_map] at hi
        obtain ⟨z, hz, rfl⟩ := Option.map_eq_some_iff.mp hi
        have hzW := List.mem_of_getElem? hz
        obtain ⟨hzs, hza⟩ := hWs z hzW
        have hzl := mem_sum hzW
        have hst := sum_take W i
        have hil : i < W.length := (List.getElem?_eq_some_iff.mp hz).1
        walk_at "v"
        refine ⟨z, w, rfl, hw1, by omega, fun l2 Q2 He hl2 Te ee pl fol => ?_⟩
        have htk : W.take (i + 1) = W.take i ++ [z] := by rw [List.take_add_one, hz]; rfl
        refine w_catV (Te _ _ eF) ee (by rw [List.length_map, List.length_map]; omega) fun fo3 Hf hfo3 Tf ef => ?_
        walk_at "v"
        obtain ⟨hQ2, hQ2c⟩ := folded_sum fol
        rw [← str_len] at hQ2
        refine ⟨⟨_, fo3, F ++ Q2, rfl, by rw [ef, List.map_append], ?_, ?_, ?_, ?_, ?_⟩, Td.trans (Te.trans Tf)⟩
        · rw [htk, sumL_snoc, List.length_append]
          omega
        · have : sumL (F ++ Q2) = sumL F + sumL Q2 := by unfold sumL; rw [List.map_append, List.sum_append]
          rw [htk, sumL_snoc, this]
          omega
        · intro y hy
          rcases List.mem_append.mp hy with hy | hy
          · exact hFa y hy
          · unfold ascii at hza ⊢
            rw [List.all_eq_true] at hza ⊢
            exact fun c hc => hza c (hQ2c y hy c hc)
        · cases F with
          | nil =>
            obtain ⟨p0, r0, rfl, hp0⟩ := folded_first fol
            show some (spc p0) ≠ some true
            rw [hp0 (by unfold spc at hzs; exact beq_eq_false_iff_ne.mp hzs)]
            exact nofun
          | cons f r => exact hFh
        · rw [htk, ← hFu]
          unfold unfS
          rw [List.foldl_append]
          exact fold_line fol hzs _
      · obtain ⟨⟨y5, fo2, F, rfl, eF, hFl, hFs, hFa, hFh, hFu⟩, Td⟩ := pv
        rw [List.length_map] at hFl hFs hFu
        rw [List.take_length] at hFl hFs hFu
        walk_at "v"
        have eD := Td _ _ (T9c _ _ eW)
        rw [← hFu] at eD
        refine ⟨fo2, D, F, rfl, eF, eD, by omega, by omega, hFa, hFh, fun Hg Tg => ?_⟩
        walk_at "v"
        refine w_new fun n1 Hh hn1 Th eh => ?_
        walk_at "v"
        refine w_new fun n2 Hi hn2 Ti ei => ?_
        walk_at "v"
        refine ⟨n1, n2, [], rfl, Ti _ _ eh, ei, by decide, by decide, nofun, nofun, fun Hj Tj => ?_⟩
        exact q _
    · have hsl := sum_le200 fun z hz => (hls z hz).1
      walk_at "v"
      walk_at "if" <;> intro hc
      · obtain ⟨f, r0, rfl⟩ : ∃ f r0, ls = f :: r0 := by
          cases ls with
          | nil => exact absurd hc (by decide)
          | cons x y => exact ⟨x, y, rfl⟩
        have hfl := (hls f (List.mem_cons_self ..)).1
        walk_at "v"
        refine w_slS (sz (by omega)) ?_
        walk_at "v"
        rw [cut_spc]
        cases hsp : spc f with
        | false =>
          walk_at "v"
          refine r _ _ ⟨⟨g, _, rfl, f :: r0, hgl, by omega, hls, ?_⟩, T2⟩
          show some (spc f) ≠ some true
          rw [hsp]
          exact nofun
        | true =>
          walk_at "v"
          refine w_listOfV (.inl (SqL.of hgl)) fun ps H3 hps T3 e3 => ?_
          walk_at "v"
          refine ⟨ps, f :: r0, rfl, e3, by omega, by omega, by show some (spc f) = some true; rw [hsp], fun H4 T4 => ?_⟩
          walk_at "v"
          refine w_neDs (dn_list (T4 _ _ e3) (ok := Any) trivial) (dn_list (T4 _ _ (T3 _ _ hgl)) (ok := Any) trivial) (lay_strs fun z hz => (hls z hz).2) ?_
          walk_at "v"
          refine w_new fun xl H5 hxl T5 e5 => ?_
          walk_at "v"
          refine w_catV e5 (T5 _ _ (T4 _ _ (T3 _ _ hgl))) (by rw [List.length_map]; simp only [List.length_cons, List.length_nil] at hll ⊢; omega) fun g2 H6 hg2 T6 e6 => ?_
          walk_at "v"
          refine r _ _ ⟨⟨g2, _, rfl, Str.ofString "x" :: f :: r0, e6, by rw [List.length_cons]; omega, fun z hz => ?_, (show some (spc (Str.ofString "x")) ≠ some true by decide)⟩, T2.trans (T3.trans (T4.trans (T5.trans T6)))⟩
          rcases List.mem_cons.mp hz with rfl | hz
          · exact ⟨by decide, by decide⟩
          · exact hls z hz
      · walk_at "v"
        have : ls = [] := by
          cases ls with
          | nil => rfl
          | cons x y => exact absurd (by rw [List.length_map, List.length_cons]; omega) hc
        subst this
        exact r _ _ ⟨⟨g, _, rfl, [], hgl, by decide, nofun, nofun⟩, T2⟩
end

section
variable {P : Program} {w : World} {K : PySem.W.Frag} {mg : Str → Option Value} {base : Heap} {C_RoomError : Addr} {C_BadLetter : Addr} {C_BadMail : Addr}
def topS (i : Nat) : Stmt := PySem.Challenge.pw_lettersonce_k10_unfold.main.body.getD i (.Pass ⟨0, 0, 0, 0⟩)
def inC (s : Stmt) (j : Nat) : Stmt := (C8.clsBody s).getD j (.Pass ⟨0, 0, 0, 0⟩)
abbrev s_unfold : Stmt := topS 6
theorem sc_unfold : FnScope ["lines", "groups", "line", "group"] ["lines"] (C8.fnScope s_unfold) := C8.fnScope_by (by decide +kernel)
theorem c_unfold {f : Addr} {fd : FuncData} (F : C8.Def K mg "unfold" s_unfold f fd) (b : Binds K fd ["lines"] [])
  (XF : ExFacts K C_RoomError C_BadLetter C_BadMail) (m_RoomError : mg "RoomError" = some (.ref C_RoomError)) (m_BadLetter : mg "BadLetter" = some (.ref C_BadLetter)) (m_BadMail : mg "BadMail" = some (.ref C_BadMail)) :
  Wp.XCal P w K mg base 1 "unfold" (spUnfold K C_BadMail) :=
  Wp.calX F b sc_unfold (fun vs H Q E h => l_unfold h) (fun cdv A outer s H vs Q E hr h => ⟨t_unfold K C_RoomError C_BadLetter C_BadMail E,
  (pss_cons (ps_set (i := 1) sc_unfold.nd rfl (Or.inl rfl) (pe_lst pa_nil))
  (pss_cons (ps_for (passes_of rfl) rfl (pi_list (pv 0)) (pg_name (i := 2) sc_unfold.nd rfl (Or.inl rfl)) (pss_one (ps_if (pt_not (pt_val (pe_bm PySem.F.plainAttrs_str PySem.F.slot_str_startswith PySem.F.type_str_startswith mt_startswith (pv 2) (pa_cons pe_str pa_nil)))) (pss_one (ps_expr (pe_bm PySem.F.plainAttrs_list PySem.F.slot_list_append PySem.F.type_list_append mt_append (pv 1) (pa_cons (pe_lst (pa_cons (pv 2) pa_nil)) pa_nil)))) (pss_one (ps_if (pt_truth (pv 1) (fun _ => rfl)) (pss_one (ps_expr (pe_bm PySem.F.plainAttrs_list PySem.F.slot_list_append PySem.F.type_list_append mt_append (pe_ix ix_list (pv 1) (pe_un un_neg pe_int) (fun _ _ => rfl)) (pa_cons (pv 2) pa_nil)))) (pss_one (Wp.ps_rz rfl XF.b_BadMail m_BadMail (takes_of rfl rfl rfl rfl) (by rfl))))))))
  (pss_one (ps_ret (pe_lc (own := [("group", 3)]) (g := (gName 3)) (tt := tYes) (by rfl) sc_unfold.nd (pi_list (pv 1)) (blkOk_by (own := [("group", 3)]) (N := ["lines", "groups", "line", "group"]) (sc := C8.fnScope s_unfold) (by decide +kernel)) (fun _ _ _ _ _ => (pg_name (i := 3) sc_unfold.nd rfl (Or.inl rfl))) (fun _ _ _ _ _ => pts_nil) (fun _ _ _ _ _ => (pe_bm PySem.F.plainAttrs_str PySem.F.slot_str_join PySem.F.type_str_join mt_join pe_str (pa_cons (pv 3) pa_nil)))))))), r_unfold XF h⟩)
abbrev s__cut_of : Stmt := topS 7
theorem sc__cut_of : FnScope ["line", "start", "width", "behind", "cut"] ["line", "start", "width"] (C8.fnScope s__cut_of) := C8.fnScope_by (by decide +kernel)
theorem c__cut_of {f : Addr} {fd : FuncData} (F : C8.Def K mg "_cut_of" s__cut_of f fd) (b : Binds K fd ["line", "start", "width"] [])
   :
  C8.Cal P w K mg base 1 "_cut_of" (spCut K) [] :=
  C8.cal0 F b .nil sc__cut_of (fun vs H Q E h => l__cut_of h) (fun cdv A outer s H vs Q E hr h => ⟨t__cut_of K,
  (pss_cons (ps_set (i := 3) sc__cut_of.nd rfl (Or.inl rfl) (pe_op op_add (pe_op op_add (pv 1) (pv 2)) pe_int))
  (pss_cons (ps_set (i := 4) sc__cut_of.nd rfl (Or.inl rfl) (pe_bm PySem.F.plainAttrs_str PySem.F.slot_str_rfind PySem.F.type_str_rfind mt_rfind4 (pv 0) (pa_cons pe_str (pa_cons (pe_op op_add (pv 1) pe_int) (pa_cons (pv 3) pa_nil)))))
  (pss_cons (ps_if (pt_cmpR op_lt (pv 4) pe_int (nomark _)) (pss_one (ps_set (i := 4) sc__cut_of.nd rfl (Or.inl rfl) (pe_bm PySem.F.plainAttrs_str PySem.F.slot_str_find PySem.F.type_str_find mt_find3 (pv 0) (pa_cons pe_str (pa_cons (pv 3) pa_nil))))) pss_nil)
  (pss_one (ps_ret (pv 4)))))), r__cut_of h⟩)
abbrev s__law_cell : Stmt := topS 9
theorem sc__law_cell : FnScope ["script", "k"] ["script", "k"] (C8.fnScope s__law_cell) := C8.fnScope_by (by decide +kernel)
theorem c__law_cell {f : Addr} {fd : FuncData} (F : C8.Def K mg "_law_cell" s__law_cell f fd) (b : Binds K fd ["script", "k"] [])
  (n_len : mg "len" = none) :
  C8.Cal P w K mg base 1 "_law_cell" (spCell K) [] :=
  C8.cal0 F b .nil sc__law_cell (fun vs H Q E h => l__law_cell h) (fun cdv A outer s H vs Q E hr h => ⟨t__law_cell K,
  (pss_cons (ps_if (pt_cmpR op_lt (pv 1) (pe_callB call_len_seq (by rfl) n_len (by decide +kernel) (pa_cons (pv 0) pa_nil)) (nomark _)) (pss_one (ps_ret (pe_ix ix_list (pv 0) (pv 1) (fun _ _ => rfl)))) pss_nil)
  (pss_one (ps_ret pe_int))), r__law_cell h⟩)
abbrev s__law_stream : Stmt := topS 10
theorem sc__law_stream : FnScope ["cell", "k", "digits"] ["cell", "k"] (C8.fnScope s__law_stream) := C8.fnScope_by (by decide +kernel)
theorem c__law_stream {f : Addr} {fd : FuncData} (F : C8.Def K mg "_law_stream" s__law_stream f fd) (b : Binds K fd ["cell", "k"] [])
  (n_int : mg "int" = none) :
  C8.Cal P w K mg base 1 "_law_stream" (spStream K) [] :=
  C8.cal0 F b .nil sc__law_stream (fun vs H Q E h => l__law_stream h) (fun cdv A outer s H vs Q E hr h => ⟨t__law_stream K,
  (pss_cons (ps_set (i := 2) sc__law_stream.nd rfl (Or.inl rfl) pe_int)
  (pss_cons (ps_if (pt_cmpR op_ge (pv 0) (pe_op op_pow pe_int pe_int) (nomark _)) (pss_one (ps_set (i := 2) sc__law_stream.nd rfl (Or.inl rfl) (pv 0))) pss_nil)
  (pss_one (ps_ret (pe_lst (pa_cons (pv 2) (pa_cons (pe_op op_mod (pe_callTy call_int1 (by rfl) n_int (by decide +kernel) (pa_cons (pe_op op_add (pe_op op_add (pe_op op_mul (pv 0) pe_int) (pe_op op_mul (pv 1) pe_int)) pe_int) pa_nil)) pe_int) pa_nil))))))), r__law_stream h⟩)
abbrev s__law_next : Stmt := topS 11
theorem sc__law_next : FnScope ["stream", "size", "drawn"] ["stream", "size"] (C8.fnScope s__law_next) := C8.fnScope_by (by decide +kernel)
theorem c__law_next {f : Addr} {fd : FuncData} (F : C8.Def K mg "_law_next" s__law_next f fd) (b : Binds K fd ["stream", "size"] [])
  (n_int : mg "int" = none) :
  C8.Cal P w K mg base 1 "_law_next" (spNext K) [] :=
  C8.cal0 F b .nil sc__law_next (fun vs H Q E h => l__law_next h) (fun cdv A outer s H vs Q E hr h => ⟨t__law_next K,
  (pss_cons (ps_if (pt_cmpR op_gt (pe_ix ix_list (pv 0) pe_int (fun _ _ => rfl)) pe_int (nomark _)) (pss_cons (ps_set (i := 2) sc__law_next.nd rfl (Or.inl rfl) (pe_op op_mod (pe_callTy call_int1 (by rfl) n_int (by decide +kernel) (pa_cons (pe_ix ix_list (pv 0) pe_int (fun _ _ => rfl)) pa_nil)) (pv 1)))
  (pss_cons (ps_asg (pe_op op_fdiv (pe_ix ix_list (pv 0) pe_int (fun _ _ => rfl)) (pv 1)) (pg_sub (pv 0) pe_int set_list))
  (pss_one (ps_ret (pv 2))))) pss_nil)
  (pss_cons (ps_asg (pe_op op_mod (pe_callTy call_int1 (by rfl) n_int (by decide +kernel) (pa_cons (pe_op op_add (pe_op op_mul (pe_ix ix_list (pv 0) pe_int (fun _ _ => rfl)) pe_int) pe_int) pa_nil)) pe_int) (pg_sub (pv 0) pe_int set_list))
  (pss_one (ps_ret (pe_op op_mod (pe_callTy call_int1 (by rfl) n_int (by decide +kernel) (pa_cons (pe_op op_fdiv (pe_op op_mod (pe_callTy call_int1 (by rfl) n_int (by decide +kernel) (pa_cons (pe_op op_add (pe_op op_mul (pe_ix ix_list (pv 0) pe_int (fun _ _ => rfl)) pe_int) pe_int) pa_nil)) pe_int) pe_int) pa_nil)) (pv 1)))))), r__law_next h⟩)
abbrev s__law_due : Stmt := topS 13
theorem sc__law_due : FnScope ["pieces", "due", "piece"] ["pieces"] (C8.fnScope s__law_due) := C8.fnScope_by (by decide +kernel)
theorem c__law_due {f : Addr} {fd : FuncData} (F : C8.Def K mg "_law_due" s__law_due f fd) (b : Binds K fd ["pieces"] [])
  (n_len : mg "len" = none) :
  C8.Cal P w K mg base 1 "_law_due" (spDue K) [] :=
  C8.cal0 F b .nil sc__law_due (fun vs H Q E h => l__law_due h) (fun cdv A outer s H vs Q E hr h => ⟨t__law_due K,
  (pss_cons (ps_set (i := 1) sc__law_due.nd rfl (Or.inl rfl) (pe_lst pa_nil))
  (pss_cons (ps_for PassesOwn.never rfl (pi_list (pv 0)) (pg_name (i := 2) sc__law_due.nd rfl (Or.inl rfl)) (pss_one (ps_if (pt_cmpR op_eq (pe_slice sl_str (pv 2) po_none (po_some pe_int)) pe_str (nomark _)) (pss_one (ps_asg (pe_op op_add_str (pe_ix ix_list (pv 1) (pe_op op_sub (pe_callB call_len_seq (by rfl) n_len (by decide +kernel) (pa_cons (pv 1) pa_nil)) pe_int) (fun _ _ => rfl)) (pv 2)) (pg_sub (pv 1) (pe_op op_sub (pe_callB call_len_seq (by rfl) n_len (by decide +kernel) (pa_cons (pv 1) pa_nil)) pe_int) set_list))) (pss_one (ps_expr (pe_bm PySem.F.plainAttrs_list PySem.F.slot_list_append PySem.F.type_list_append mt_append (pv 1) (pa_cons (pv 2) pa_nil)))))))
  (pss_one (ps_ret (pv 1))))), r__law_due h⟩)
abbrev s_fold : Stmt := topS 5
theorem sc_fold : FnScope ["line", "width", "lines", "start", "cut"] ["line", "width"] (C8.fnScope s_fold) := C8.fnScope_by (by decide +kernel)
theorem c_fold {f : Addr} {fd : FuncData} (F : C8.Def K mg "fold" s_fold f fd) (b : Binds K fd ["line", "width"] [])
  (c__cut_of : C8.Cal P w K mg base 1 "_cut_of" (spCut K) []) (n_len : mg "len" = none) :
  C8.Cal P w K mg base 2 "fold" (spFold K) [] :=
  C8.cal0 F b .nil sc_fold (fun vs H Q E h => l_fold h) (fun cdv A outer s H vs Q E hr h => ⟨t_fold K,
  (pss_cons (ps_set (i := 2) sc_fold.nd rfl (Or.inl rfl) (pe_lst pa_nil))
  (pss_cons (ps_set (i := 3) sc_fold.nd rfl (Or.inl rfl) pe_int)
  (pss_cons (ps_while PassesOwn.never (pt_cmpR op_gt (pe_op op_sub (pe_callB call_len_str (by rfl) n_len (by decide +kernel) (pa_cons (pv 0) pa_nil)) (pv 3)) (pv 1) (nomark _)) (pss_cons (ps_set (i := 4) sc_fold.nd rfl (Or.inl rfl) (C8.pe_c c__cut_of hr (by decide) (by rfl) (pa_cons (pv 0) (pa_cons (pv 3) (pa_cons (pv 1) pa_nil)))))
  (pss_cons (ps_if (pt_cmpR op_lt (pv 4) pe_int (nomark _)) (pss_one ps_break) pss_nil)
  (pss_cons (ps_expr (pe_bm PySem.F.plainAttrs_list PySem.F.slot_list_append PySem.F.type_list_append mt_append (pv 2) (pa_cons (pe_slice sl_str (pv 0) (po_some (pv 3)) (po_some (pv 4))) pa_nil)))
  (pss_one (ps_set (i := 3) sc_fold.nd rfl (Or.inl rfl) (pv 4)))))))
  (pss_cons (ps_expr (pe_bm PySem.F.plainAttrs_list PySem.F.slot_list_append PySem.F.type_list_append mt_append (pv 2) (pa_cons (pe_slice sl_str (pv 0) (po_some (pv 3)) po_none) pa_nil)))
  (pss_one (ps_ret (pv 2))))))), r_fold h⟩)
abbrev s__law_piece : Stmt := topS 12
theorem sc__law_piece : FnScope ["stream", "word", "spaces", "rest"] ["stream"] (C8.fnScope s__law_piece) := C8.fnScope_by (by decide +kernel)
theorem c__law_piece {f : Addr} {fd : FuncData} (F : C8.Def K mg "_law_piece" s__law_piece f fd) (b : Binds K fd ["stream"] [])
  (c__law_next : C8.Cal P w K mg base 1 "_law_next" (spNext K) []) :
  C8.Cal P w K mg base 2 "_law_piece" (spPiece K) [] :=
  C8.cal0 F b .nil sc__law_piece (fun vs H Q E h => l__law_piece h) (fun cdv A outer s H vs Q E hr h => ⟨t__law_piece K,
  (pss_cons (ps_set (i := 1) sc__law_piece.nd rfl (Or.inl rfl) (pe_slice sl_str pe_str po_none (po_some (pe_op op_add pe_int (C8.pe_c c__law_next hr (by decide) (by rfl) (pa_cons (pv 0) (pa_cons pe_int pa_nil)))))))
  (pss_cons (ps_set (i := 2) sc__law_piece.nd rfl (Or.inl rfl) (pe_ix ix_tup (pe_tup (pa_cons pe_str (pa_cons pe_str (pa_cons pe_str (pa_cons pe_str (pa_cons pe_str (pa_cons pe_str (pa_cons pe_str (pa_cons pe_str pa_nil))))))))) (C8.pe_c c__law_next hr (by decide) (by rfl) (pa_cons (pv 0) (pa_cons pe_int pa_nil))) (fun _ _ => rfl)))
  (pss_cons (ps_set (i := 3) sc__law_piece.nd rfl (Or.inl rfl) (pe_ix ix_tup (pe_tup (pa_cons pe_str (pa_cons (pv 1) (pa_cons (pe_op op_add_str (pe_op op_add_str (pv 1) pe_str) (pv 1)) (pa_cons (pe_op op_add_str (pe_op op_mulS (pv 1) pe_int) pe_str) (pa_cons pe_str pa_nil)))))) (C8.pe_c c__law_next hr (by decide) (by rfl) (pa_cons (pv 0) (pa_cons pe_int pa_nil))) (fun _ _ => rfl)))
  (pss_one (ps_ret (pe_op op_add_str (pv 2) (pv 3))))))), r__law_piece h⟩)
abbrev s__law_raises : Stmt := topS 14
theorem sc__law_raises : FnScope ["lines", "e"] ["lines"] (C8.fnScope s__law_raises) := C8.fnScope_by (by decide +kernel)
theorem c__law_raises {f : Addr} {fd : FuncData} (F : C8.Def K mg "_law_raises" s__law_raises f fd) (b : Binds K fd ["lines"] [])
  (c_unfold : Wp.XCal P w K mg base 1 "unfold" (spUnfold K C_BadMail)) (n_isinstance : mg "isinstance" = none) (n_ValueError : mg "ValueError" = none) (XF : ExFacts K C_RoomError C_BadLetter C_BadMail) (m_RoomError : mg "RoomError" = some (.ref C_RoomError)) (m_BadLetter : mg "BadLetter" = some (.ref C_BadLetter)) (m_BadMail : mg "BadMail" = some (.ref C_BadMail)) :
  C8.Cal P w K mg base 2 "_law_raises" (spRaises K) [] :=
  C8.cal0 F b .nil sc__law_raises (fun vs H Q E h => l__law_raises h) (fun cdv A outer s H vs Q E hr h => ⟨t__law_raises K C_RoomError C_BadLetter C_BadMail,
  (pss_cons (ps_try_as (i := 1) (tb := fun W => (tDrop (tCallS (spUnfold K C_BadMail) (WE W) (tCons (tVar 0) tNil)))) (ts := (fun (a : Addr) (cls : Value) (d : Option Addr) (D : Ends) (σ : L2.St) (H : Hp) => (cls = Value.ref C_BadMail ∧ d = none) ∧ (tRet (tAndV (tCB (rIsE K C_BadMail a) (tCons (tVar 1) (tCons (tC (.ref C_BadMail)) tNil))) (tAndV (tCB (rIsE K C_BadMail a) (tCons (tVar 1) (tCons (tC (.ty "ValueError")) tNil))) (tNotV (tCB (rIsE K C_BadMail a) (tCons (tVar 1) (tCons (tC (.ref C_BadLetter)) tNil))))))) D σ H)) (Wout := fun _ _ _ _ => False) rfl rfl sc__law_raises.nd rfl rfl ⟨rfl, by decide, Or.inl m_RoomError⟩ takes0 (fun W pn xe tk _ => (pss_one (ps_expr (Wp.pe_cs c_unfold hr (by decide) (by rfl) tk (pa_cons (pv 0) pa_nil))))) (fun a oe cls d pn hz hf => Wp.pss_given (fun hcd => by obtain ⟨rfl, rfl⟩ := hcd; exact (pss_one (ps_ret (pe_and (pe_callB (call_isE XF.ec hz hf) (by rfl) n_isinstance (by decide +kernel) (pa_cons (pv 1) (pa_cons (C8.pe_gc (by rfl) ⟨_, m_BadMail, rfl⟩) pa_nil))) (pe_and (pe_callB (call_isE XF.ec hz hf) (by rfl) n_isinstance (by decide +kernel) (pa_cons (pv 1) (pa_cons (pe_bltn (v := .ty "ValueError") (by rfl) n_ValueError (by decide +kernel) rfl) pa_nil))) (pe_one (pe_not (pe_callB (call_isE XF.ec hz hf) (by rfl) n_isinstance (by decide +kernel) (pa_cons (pv 1) (pa_cons (C8.pe_gc (by rfl) ⟨_, m_BadLetter, rfl⟩) pa_nil))))))))))))
  (pss_one (ps_ret pe_bl))), r__law_raises XF h⟩)
abbrev s__law_reads : Stmt := topS 15
theorem sc__law_reads : FnScope ["lines", "due", "passed", "turn", "answer"] ["lines", "due"] (C8.fnScope s__law_reads) := C8.fnScope_by (by decide +kernel)
theorem c__law_reads {f : Addr} {fd : FuncData} (F : C8.Def K mg "_law_reads" s__law_reads f fd) (b : Binds K fd ["lines", "due"] [])
  (c_unfold : Wp.XCal P w K mg base 1 "unfold" (spUnfold K C_BadMail)) (n_list : mg "list" = none) (n_range : mg "range" = none) (n_isinstance : mg "isinstance" = none) (XF : ExFacts K C_RoomError C_BadLetter C_BadMail) (m_RoomError : mg "RoomError" = some (.ref C_RoomError)) (m_BadLetter : mg "BadLetter" = some (.ref C_BadLetter)) (m_BadMail : mg "BadMail" = some (.ref C_BadMail)) :
  C8.Cal P w K mg base 2 "_law_reads" (spReads K) [] :=
  C8.cal0 F b .nil sc__law_reads (fun vs H Q E h => l__law_reads h) (fun cdv A outer s H vs Q E hr h => ⟨t__law_reads K C_RoomError C_BadLetter C_BadMail,
  (pss_cons (ps_set (i := 2) sc__law_reads.nd rfl (Or.inl rfl) (pe_callTy call_list_of (by rfl) n_list (by decide +kernel) (pa_cons (pv 0) pa_nil)))
  (pss_cons (ps_for PassesOwn.never rfl (pi_range1 (by rfl) n_range (pa_cons pe_int pa_nil)) (pg_name (i := 3) sc__law_reads.nd rfl (Or.inl rfl)) (pss_cons (ps_set (i := 4) sc__law_reads.nd rfl (Or.inl rfl) (Wp.pe_cx c_unfold hr (by decide) (by rfl) (pa_cons (pv 2) pa_nil)))
  (pss_cons (ps_if (PW.pt (pw_or (pt_not (pt_val (pe_callB call_isi (by rfl) n_isinstance (by decide +kernel) (pa_cons (pv 4) (pa_cons (pe_bltn (v := .ty "list") (by rfl) n_list PyProof.Rows.boot_list rfl) pa_nil))))) (pw_or (pt_cmpR (op_neD hr.units) (pv 4) (pv 1) (nomark _)) (pw_or1 (pt_cmpR (op_neD hr.units) (pv 2) (pv 0) (nomark _)))))) (pss_one (ps_ret pe_bl)) pss_nil)
  (pss_cons (ps_expr (pe_bm PySem.F.plainAttrs_list PySem.F.slot_list_append PySem.F.type_list_append mt_append (pv 4) (pa_cons pe_str pa_nil)))
  (pss_one (ps_if (pt_cmpR (op_neD hr.units) (pv 2) (pv 0) (nomark _)) (pss_one (ps_ret pe_bl)) pss_nil))))))
  (pss_one (ps_ret pe_bl)))), r__law_reads XF h⟩)
abbrev s_law : Stmt := topS 16
theorem sc_law : FnScope ["script", "pieces", "k", "passed", "due", "line", "whole", "width", "folded"] ["script"] (C8.fnScope s_law) := C8.fnScope_by (by decide +kernel)
theorem f_law {f : Addr} {fd : FuncData} (F : C8.Fun K "law" "law" s_law f fd)
  (c__law_piece : C8.Cal P w K mg base 2 "_law_piece" (spPiece K) []) (c__law_stream : C8.Cal P w K mg base 1 "_law_stream" (spStream K) []) (c__law_raises : C8.Cal P w K mg base 2 "_law_raises" (spRaises K) []) (c__law_due : C8.Cal P w K mg base 1 "_law_due" (spDue K) []) (c__law_reads : C8.Cal P w K mg base 2 "_law_reads" (spReads K) []) (c__law_next : C8.Cal P w K mg base 1 "_law_next" (spNext K) []) (c__law_cell : C8.Cal P w K mg base 1 "_law_cell" (spCell K) []) (c_fold : C8.Cal P w K mg base 2 "fold" (spFold K) []) (n_range : mg "range" = none) (n_min : mg "min" = none) (n_len : mg "len" = none) (n_list : mg "list" = none) :
  FnOk P w K mg base C8.CX0 3 f fd ["script"] (spLaw K) :=
  C8.fn0 F sc_law (fun vs H Q E h => l_law h) (fun cdv A outer s H vs Q E hr h => ⟨t_law K,
  (pss_cons (ps_set (i := 1) sc_law.nd rfl (Or.inl rfl) (pe_lst pa_nil))
  (pss_cons (ps_for PassesOwn.never rfl (pi_range1 (by rfl) n_range (pa_cons (pe_callB (call_min2 rfl) (by rfl) n_min (by decide +kernel) (pa_cons (pe_callB call_len_seq (by rfl) n_len (by decide +kernel) (pa_cons (pv 0) pa_nil)) (pa_cons pe_int pa_nil))) pa_nil)) (pg_name (i := 2) sc_law.nd rfl (Or.inl rfl)) (pss_one (ps_expr (pe_bm PySem.F.plainAttrs_list PySem.F.slot_list_append PySem.F.type_list_append mt_append (pv 1) (pa_cons (C8.pe_c c__law_piece hr (by decide) (by rfl) (pa_cons (C8.pe_c c__law_stream hr (by decide) (by rfl) (pa_cons (pe_ix ix_list (pv 0) (pv 2) (fun _ _ => rfl)) (pa_cons (pv 2) pa_nil))) pa_nil)) pa_nil)))))
  (pss_cons (ps_if (PW.pt (pw_and (pt_cmpR op_gt (pe_callB call_len_seq (by rfl) n_len (by decide +kernel) (pa_cons (pv 1) pa_nil)) pe_int (nomark _)) (pw_and1 (pt_cmpR op_eq (pe_slice sl_str (pe_ix ix_list (pv 1) pe_int (fun _ _ => rfl)) po_none (po_some pe_int)) pe_str (nomark _))))) (pss_cons (ps_set (i := 3) sc_law.nd rfl (Or.inl rfl) (pe_callTy call_list_of (by rfl) n_list (by decide +kernel) (pa_cons (pv 1) pa_nil)))
  (pss_cons (ps_if (PW.pt (pw_or (pt_not (pt_val (C8.pe_c c__law_raises hr (by decide) (by rfl) (pa_cons (pv 3) pa_nil)))) (pw_or1 (pt_cmpR (op_neD hr.units) (pv 3) (pv 1) (nomark _))))) (pss_one (ps_ret pe_bl)) pss_nil)
  (pss_one (ps_set (i := 1) sc_law.nd rfl (Or.inl rfl) (pe_op op_cat (pe_lst (pa_cons pe_str pa_nil)) (pv 1)))))) pss_nil)
  (pss_cons (ps_set (i := 4) sc_law.nd rfl (Or.inl rfl) (C8.pe_c c__law_due hr (by decide) (by rfl) (pa_cons (pv 1) pa_nil)))
  (pss_cons (ps_if (PW.pt (pw_or (pt_not (pt_val (C8.pe_c c__law_reads hr (by decide) (by rfl) (pa_cons (pv 1) (pa_cons (pv 4) pa_nil))))) (pw_or1 (pt_not (pt_val (C8.pe_c c__law_raises hr (by decide) (by rfl) (pa_cons (pe_op op_cat (pe_lst (pa_cons pe_str pa_nil)) (pv 1)) pa_nil))))))) (pss_one (ps_ret pe_bl)) pss_nil)
  (pss_cons (ps_setLc (i := 6) (own := [("line", 5)]) (g := (gName 5)) (tt := (tTest (tOp rNe (tSl rSlS (tVar 5) tNoPart (tPart (tC (.int 1)))) (tC (.str " "))))) (by rfl) sc_law.nd rfl rfl (sw_true rfl rfl rfl (by decide +kernel)) (pi_list (pv 4)) (blkOk_by (own := [("line", 5)]) (N := ["script", "pieces", "k", "passed", "due", "line", "whole", "width", "folded"]) (sc := C8.fnScope s_law) (by decide +kernel)) (fun _ _ _ _ _ => (pg_name (i := 5) sc_law.nd rfl (Or.inl rfl))) (fun _ _ _ _ _ => (pts_one (pt_cmpR op_ne (pe_slice sl_str (pv 5) po_none (po_some pe_int)) pe_str (nomark _)))) (fun _ _ _ _ _ => (pv 5)))
  (pss_cons (ps_set (i := 7) sc_law.nd rfl (Or.inl rfl) (pe_op op_add pe_int (C8.pe_c c__law_next hr (by decide) (by rfl) (pa_cons (C8.pe_c c__law_stream hr (by decide) (by rfl) (pa_cons (C8.pe_c c__law_cell hr (by decide) (by rfl) (pa_cons (pv 0) (pa_cons pe_int pa_nil))) (pa_cons pe_int pa_nil))) (pa_cons pe_int pa_nil)))))
  (pss_cons (ps_set (i := 8) sc_law.nd rfl (Or.inl rfl) (pe_lst pa_nil))
  (pss_cons (ps_for PassesOwn.never rfl (pi_list (pv 6)) (pg_name (i := 5) sc_law.nd rfl (Or.inl rfl)) (pss_one (ps_set (i := 8) sc_law.nd rfl (Or.inl rfl) (pe_op op_cat (pv 8) (C8.pe_c c_fold hr (by decide) (by rfl) (pa_cons (pv 5) (pa_cons (pv 7) pa_nil)))))))
  (pss_one (ps_ret (pe_and (C8.pe_c c__law_reads hr (by decide) (by rfl) (pa_cons (pv 8) (pa_cons (pv 6) pa_nil))) (pe_one (C8.pe_c c__law_reads hr (by decide) (by rfl) (pa_cons (pe_lst pa_nil) (pa_cons (pe_lst pa_nil) pa_nil)))))))))))))))), r_law h⟩)
end
theorem all_mk {l : PySem.W.OpenLaw} {w : World} {K : PySem.W.Frag} {h : Heap} {mg : Str → Option Value} {fa f0 f1 f2 f3 f4 f5 f6 f7 f8 f9 f10 C_RoomError C_BadLetter C_BadMail : Addr} (X : K.In h) (G : h.Ns mainGlobals mg) (hfa : mg "law" = some (.ref fa))
    {od0 an0 od1 an1 od2 an2 od3 an3 od4 an4 od5 an5 od6 an6 od7 an7 od8 an8 od9 an9 od10 an10 : Option Addr} {sl0 sl1 sl2 sl3 sl4 sl5 sl6 sl7 sl8 sl9 sl10 : Array (Option Value)} {oc0 kV0 dc0 pm0 cd0 ct0 oc1 kV1 dc1 pm1 cd1 ct1 oc2 kV2 dc2 pm2 cd2 ct2 oc3 kV3 dc3 pm3 cd3 ct3 oc4 kV4 dc4 pm4 cd4 ct4 oc5 kV5 dc5 pm5 cd5 ct5 oc6 kV6 dc6 pm6 cd6 ct6 oc7 kV7 dc7 pm7 cd7 ct7 oc8 kV8 dc8 pm8 cd8 ct8 oc9 kV9 dc9 pm9 cd9 ct9 oc10 kV10 dc10 pm10 cd10 ct10 : Value}
    (a0 : PySem.W.nsIn K mainGlobals "unfold" = some (some (.ref f0))) (l0 : K.lookup f0 = some ⟨oc0, od0, .func (PySem.W.fnOf "unfold" "unfold" (C8.fnArgs s_unfold) (C8.fnBody s_unfold) (C8.fnScope s_unfold) .none kV0 dc0 pm0 an0 cd0 ct0), sl0⟩) (c0 : PySem.W.codeIn K cd0 "unfold" = true) (k0 : PySem.W.keepIn K (.ref f0) = true)
    (a1 : PySem.W.nsIn K mainGlobals "_cut_of" = some (some (.ref f1))) (l1 : K.lookup f1 = some ⟨oc1, od1, .func (PySem.W.fnOf "_cut_of" "_cut_of" (C8.fnArgs s__cut_of) (C8.fnBody s__cut_of) (C8.fnScope s__cut_of) .none kV1 dc1 pm1 an1 cd1 ct1), sl1⟩) (c1 : PySem.W.codeIn K cd1 "_cut_of" = true) (k1 : PySem.W.keepIn K (.ref f1) = true)
    (a2 : PySem.W.nsIn K mainGlobals "_law_cell" = some (some (.ref f2))) (l2 : K.lookup f2 = some ⟨oc2, od2, .func (PySem.W.fnOf "_law_cell" "_law_cell" (C8.fnArgs s__law_cell) (C8.fnBody s__law_cell) (C8.fnScope s__law_cell) .none kV2 dc2 pm2 an2 cd2 ct2), sl2⟩) (c2 : PySem.W.codeIn K cd2 "_law_cell" = true) (k2 : PySem.W.keepIn K (.ref f2) = true)
    (a3 : PySem.W.nsIn K mainGlobals "_law_stream" = some (some (.ref f3))) (l3 : K.lookup f3 = some ⟨oc3, od3, .func (PySem.W.fnOf "_law_stream" "_law_stream" (C8.fnArgs s__law_stream) (C8.fnBody s__law_stream) (C8.fnScope s__law_stream) .none kV3 dc3 pm3 an3 cd3 ct3), sl3⟩) (c3 : PySem.W.codeIn K cd3 "_law_stream" = true) (k3 : PySem.W.keepIn K (.ref f3) = true)
    (a4 : PySem.W.nsIn K mainGlobals "_law_next" = some (some (.ref f4))) (l4 : K.lookup f4 = some ⟨oc4, od4, .func (PySem.W.fnOf "_law_next" "_law_next" (C8.fnArgs s__law_next) (C8.fnBody s__law_next) (C8.fnScope s__law_next) .none kV4 dc4 pm4 an4 cd4 ct4), sl4⟩) (c4 : PySem.W.codeIn K cd4 "_law_next" = true) (k4 : PySem.W.keepIn K (.ref f4) = true)
    (a5 : PySem.W.nsIn K mainGlobals "_law_due" = some (some (.ref f5))) (l5 : K.lookup f5 = some ⟨oc5, od5, .func (PySem.W.fnOf "_law_due" "_law_due" (C8.fnArgs s__law_due) (C8.fnBody s__law_due) (C8.fnScope s__law_due) .none kV5 dc5 pm5 an5 cd5 ct5), sl5⟩) (c5 : PySem.W.codeIn K cd5 "_law_due" = true) (k5 : PySem.W.keepIn K (.ref f5) = true)
    (a6 : PySem.W.nsIn K mainGlobals "fold" = some (some (.ref f6))) (l6 : K.lookup f6 = some ⟨oc6, od6, .func (PySem.W.fnOf "fold" "fold" (C8.fnArgs s_fold) (C8.fnBody s_fold) (C8.fnScope s_fold) .none kV6 dc6 pm6 an6 cd6 ct6), sl6⟩) (c6 : PySem.W.codeIn K cd6 "fold" = true) (k6 : PySem.W.keepIn K (.ref f6) = true)
    (a7 : PySem.W.nsIn K mainGlobals "_law_piece" = some (some (.ref f7))) (l7 : K.lookup f7 = some ⟨oc7, od7, .func (PySem.W.fnOf "_law_piece" "_law_piece" (C8.fnArgs s__law_piece) (C8.fnBody s__law_piece) (C8.fnScope s__law_piece) .none kV7 dc7 pm7 an7 cd7 ct7), sl7⟩) (c7 : PySem.W.codeIn K cd7 "_law_piece" = true) (k7 : PySem.W.keepIn K (.ref f7) = true)
    (a8 : PySem.W.nsIn K mainGlobals "_law_raises" = some (some (.ref f8))) (l8 : K.lookup f8 = some ⟨oc8, od8, .func (PySem.W.fnOf "_law_raises" "_law_raises" (C8.fnArgs s__law_raises) (C8.fnBody s__law_raises) (C8.fnScope s__law_raises) .none kV8 dc8 pm8 an8 cd8 ct8), sl8⟩) (c8 : PySem.W.codeIn K cd8 "_law_raises" = true) (k8 : PySem.W.keepIn K (.ref f8) = true)
    (a9 : PySem.W.nsIn K mainGlobals "_law_reads" = some (some (.ref f9))) (l9 : K.lookup f9 = some ⟨oc9, od9, .func (PySem.W.fnOf "_law_reads" "_law_reads" (C8.fnArgs s__law_reads) (C8.fnBody s__law_reads) (C8.fnScope s__law_reads) .none kV9 dc9 pm9 an9 cd9 ct9), sl9⟩) (c9 : PySem.W.codeIn K cd9 "_law_reads" = true) (k9 : PySem.W.keepIn K (.ref f9) = true)
    (a10 : PySem.W.nsIn K mainGlobals "law" = some (some (.ref f10))) (l10 : K.lookup f10 = some ⟨oc10, od10, .func (PySem.W.fnOf "law" "law" (C8.fnArgs s_law) (C8.fnBody s_law) (C8.fnScope s_law) .none kV10 dc10 pm10 an10 cd10 ct10), sl10⟩) (c10 : PySem.W.codeIn K cd10 "law" = true) (k10 : PySem.W.keepIn K (.ref f10) = true)
    (z0 : PySem.W.nsIn K mainGlobals "len" = some none)
    (z1 : PySem.W.nsIn K mainGlobals "int" = some none)
    (z2 : PySem.W.nsIn K mainGlobals "isinstance" = some none)
    (z3 : PySem.W.nsIn K mainGlobals "ValueError" = some none)
    (z4 : PySem.W.nsIn K mainGlobals "list" = some none)
    (z5 : PySem.W.nsIn K mainGlobals "range" = some none)
    (z6 : PySem.W.nsIn K mainGlobals "min" = some none)
    (aX_RoomError : PySem.W.nsIn K mainGlobals "RoomError" = some (some (.ref C_RoomError)))
    (aX_BadLetter : PySem.W.nsIn K mainGlobals "BadLetter" = some (some (.ref C_BadLetter)))
    (aX_BadMail : PySem.W.nsIn K mainGlobals "BadMail" = some (some (.ref C_BadMail)))
    (x1 : PySem.W.excIn K C_BadMail [.type "ValueError", .type "Exception", .type "BaseException", .type "object"] "ValueError.__new__" = true)
    (x2 : PySem.W.keepIn K (.ref C_BadMail) = true)
    (x3 : PySem.W.subIn K (.ref C_BadMail) (.type "BaseException") = some true)
    (x4 : PySem.W.typeIn K (.ref C_BadMail) = some (.type "type"))
    (x5 : PySem.W.findIn K (.ref C_BadMail) "__getattribute__" = some (some (.builtin "BaseException.__getattribute__")))
    (x6 : PySem.W.findIn K (.ref C_BadMail) "__getattr__" = some none)
    (x7 : PySem.W.hasDictIn K C_BadMail = true)
    (x8 : PySem.W.findIn K (.ref C_BadMail) "__class__" = some (some (.builtin "object.__class__")))
    (x9 : PySem.W.specialIn K (.builtin "object.__class__") "__get__" = some (some (.builtin "getset_descriptor.__get__")))
    (x10 : PySem.W.takesIn K (.builtin "object.__class__") = some true)
    (x11 : PySem.W.mroIn K C_BadMail (.type "object") = some true)
    (x12 : PySem.W.subIn K (.ref C_BadMail) (.ref C_RoomError) = some true)
    (x13 : PySem.W.isClsIn K C_RoomError = true)
    (x14 : PySem.W.typeIn K (.ref C_RoomError) = some (.type "type"))
    (x15 : PySem.W.subIn K (.ref C_RoomError) (.type "BaseException") = some true)
    (x16 : PySem.W.subIn K (.ref C_BadMail) (.ref C_BadLetter) = some false)
    (x17 : PySem.W.isClsIn K C_BadLetter = true)
    (x18 : PySem.W.typeIn K (.ref C_BadLetter) = some (.type "type"))
    (x20 : PySem.W.subIn K (.ref C_BadLetter) (.ref C_BadLetter) = some true)
    (x19 : PySem.W.subIn K (.ref C_BadMail) (.type "ValueError") = some true)
    : ∃ fd : FuncData, (∀ (s : Shared) (v : Value), BindsTo s fd ⟨[v], []⟩ [("script", v)]) ∧ ∀ base : Heap, K.In base → base.Ns mainGlobals mg → FnOk l.prog w K mg base C8.CX0 3 fa fd ["script"] (spLaw K) := by
  have e := hfa.symm.trans (PySem.W.mg_of X G a10)
  cases e
  have n_len : mg "len" = none := PySem.W.mg_none_of X G z0
  have n_int : mg "int" = none := PySem.W.mg_none_of X G z1
  have n_isinstance : mg "isinstance" = none := PySem.W.mg_none_of X G z2
  have n_ValueError : mg "ValueError" = none := PySem.W.mg_none_of X G z3
  have n_list : mg "list" = none := PySem.W.mg_none_of X G z4
  have n_range : mg "range" = none := PySem.W.mg_none_of X G z5
  have n_min : mg "min" = none := PySem.W.mg_none_of X G z6
  have m_RoomError := PySem.W.mg_of X G aX_RoomError
  have m_BadLetter := PySem.W.mg_of X G aX_BadLetter
  have m_BadMail := PySem.W.mg_of X G aX_BadMail
  have XF : ExFacts K C_RoomError C_BadLetter C_BadMail := ⟨⟨x1, x2, x3, x4⟩, ⟨x5, x6, x3, x7, x8, x9, x10, x11⟩, exm_two x12 x13 x14 x15, kit_two x16 x17 x18 x20, kit_val x19⟩
  have F0 : C8.Fun K "unfold" "unfold" s_unfold _ _ := ⟨⟨_, _, _, _, _, _, _, _, _, _, rfl, l0, c0⟩⟩
  have F1 : C8.Fun K "_cut_of" "_cut_of" s__cut_of _ _ := ⟨⟨_, _, _, _, _, _, _, _, _, _, rfl, l1, c1⟩⟩
  have F2 : C8.Fun K "_law_cell" "_law_cell" s__law_cell _ _ := ⟨⟨_, _, _, _, _, _, _, _, _, _, rfl, l2, c2⟩⟩
  have F3 : C8.Fun K "_law_stream" "_law_stream" s__law_stream _ _ := ⟨⟨_, _, _, _, _, _, _, _, _, _, rfl, l3, c3⟩⟩
  have F4 : C8.Fun K "_law_next" "_law_next" s__law_next _ _ := ⟨⟨_, _, _, _, _, _, _, _, _, _, rfl, l4, c4⟩⟩
  have F5 : C8.Fun K "_law_due" "_law_due" s__law_due _ _ := ⟨⟨_, _, _, _, _, _, _, _, _, _, rfl, l5, c5⟩⟩
  have F6 : C8.Fun K "fold" "fold" s_fold _ _ := ⟨⟨_, _, _, _, _, _, _, _, _, _, rfl, l6, c6⟩⟩
  have F7 : C8.Fun K "_law_piece" "_law_piece" s__law_piece _ _ := ⟨⟨_, _, _, _, _, _, _, _, _, _, rfl, l7, c7⟩⟩
  have F8 : C8.Fun K "_law_raises" "_law_raises" s__law_raises _ _ := ⟨⟨_, _, _, _, _, _, _, _, _, _, rfl, l8, c8⟩⟩
  have F9 : C8.Fun K "_law_reads" "_law_reads" s__law_reads _ _ := ⟨⟨_, _, _, _, _, _, _, _, _, _, rfl, l9, c9⟩⟩
  have F10 : C8.Fun K "law" "law" s_law _ _ := ⟨⟨_, _, _, _, _, _, _, _, _, _, rfl, l10, c10⟩⟩
  refine ⟨PySem.W.fnOf "law" "law" (C8.fnArgs s_law) (C8.fnBody s_law) (C8.fnScope s_law) .none kV10 dc10 pm10 an10 cd10 ct10, fun s v => .of_eq rfl, fun base _ _ => ?_⟩
  have c_unfold := c_unfold (P := l.prog) (w := w) (base := base) ⟨F0, PySem.W.mg_of X G a0, k0⟩ (F0.binds rfl fun _ _ _ _ _ _ us hl => match us, hl with | [_], _ => rfl) XF m_RoomError m_BadLetter m_BadMail
  have c__cut_of := c__cut_of (P := l.prog) (w := w) (base := base) ⟨F1, PySem.W.mg_of X G a1, k1⟩ (F1.binds rfl fun _ _ _ _ _ _ us hl => match us, hl with | [_, _, _], _ => rfl) 
  have c__law_cell := c__law_cell (P := l.prog) (w := w) (base := base) ⟨F2, PySem.W.mg_of X G a2, k2⟩ (F2.binds rfl fun _ _ _ _ _ _ us hl => match us, hl with | [_, _], _ => rfl) n_len
  have c__law_stream := c__law_stream (P := l.prog) (w := w) (base := base) ⟨F3, PySem.W.mg_of X G a3, k3⟩ (F3.binds rfl fun _ _ _ _ _ _ us hl => match us, hl with | [_, _], _ => rfl) n_int
  have c__law_next := c__law_next (P := l.prog) (w := w) (base := base) ⟨F4, PySem.W.mg_of X G a4, k4⟩ (F4.binds rfl fun _ _ _ _ _ _ us hl => match us, hl with | [_, _], _ => rfl) n_int
  have c__law_due := c__law_due (P := l.prog) (w := w) (base := base) ⟨F5, PySem.W.mg_of X G a5, k5⟩ (F5.binds rfl fun _ _ _ _ _ _ us hl => match us, hl with | [_], _ => rfl) n_len
  have c_fold := c_fold (P := l.prog) (w := w) (base := base) ⟨F6, PySem.W.mg_of X G a6, k6⟩ (F6.binds rfl fun _ _ _ _ _ _ us hl => match us, hl with | [_, _], _ => rfl) c__cut_of n_len
  have c__law_piece := c__law_piece (P := l.prog) (w := w) (base := base) ⟨F7, PySem.W.mg_of X G a7, k7⟩ (F7.binds rfl fun _ _ _ _ _ _ us hl => match us, hl with | [_], _ => rfl) c__law_next
  have c__law_raises := c__law_raises (P := l.prog) (w := w) (base := base) ⟨F8, PySem.W.mg_of X G a8, k8⟩ (F8.binds rfl fun _ _ _ _ _ _ us hl => match us, hl with | [_], _ => rfl) c_unfold n_isinstance n_ValueError XF m_RoomError m_BadLetter m_BadMail
  have c__law_reads := c__law_reads (P := l.prog) (w := w) (base := base) ⟨F9, PySem.W.mg_of X G a9, k9⟩ (F9.binds rfl fun _ _ _ _ _ _ us hl => match us, hl with | [_, _], _ => rfl) c_unfold n_list n_range n_isinstance XF m_RoomError m_BadLetter m_BadMail
  exact f_law F10 c__law_piece c__law_stream c__law_raises c__law_due c__law_reads c__law_next c__law_cell c_fold n_range n_min n_len n_list
end T
open PySem PySem.W PyProof.Rows
set_option maxHeartbeats 0 in
theorem PySem.Challenge.cw_lettersonce_k10_unfold_holds : PySem.Challenge.rw_lettersonce_k10_unfold.Holds := by
  w_on; o_law; k_head; (case hw => w_witness2)
  k_fill
  refine L2.walk_of (l := PySem.Challenge.rw_lettersonce_k10_unfold) (n := 63) (k := 3) (x := "script") (CX := fun _ => C8.CX0) (sp := fun w => T.spLaw _) rfl (by decide) rfl ⟨rfl, by decide, by decide⟩ (fun w h Y => PySem.W.kIn_of Y) ?F (fun _ _ a ns hl _ hS => ⟨a, ns, rfl, hS, hl, fun _ => rfl⟩) (fun _ _ _ _ _ h => h)
  case F =>
    intro w mg fa h KX G hmg
    refine' T.all_mk KX G hmg ?a0 ?l0 ?c0 ?k0 ?a1 ?l1 ?c1 ?k1 ?a2 ?l2 ?c2 ?k2 ?a3 ?l3 ?c3 ?k3 ?a4 ?l4 ?c4 ?k4 ?a5 ?l5 ?c5 ?k5 ?a6 ?l6 ?c6 ?k6 ?a7 ?l7 ?c7 ?k7 ?a8 ?l8 ?c8 ?k8 ?a9 ?l9 ?c9 ?k9 ?a10 ?l10 ?c10 ?k10 ?z0 ?z1 ?z2 ?z3 ?z4 ?z5 ?z6 ?aX_RoomError ?aX_BadLetter ?aX_BadMail ?x1 ?x2 ?x3 ?x4 ?x5 ?x6 ?x7 ?x8 ?x9 ?x10 ?x11 ?x12 ?x13 ?x14 ?x15 ?x16 ?x17 ?x18 ?x20 ?x19
    (case a0 => k_is); (case l0 => k_is); (case c0 => k_is); (case k0 => k_is); (case a1 => k_is); (case l1 => k_is); (case c1 => k_is); (case k1 => k_is); (case a2 => k_is); (case l2 => k_is); (case c2 => k_is); (case k2 => k_is); (case a3 => k_is); (case l3 => k_is); (case c3 => k_is); (case k3 => k_is); (case a4 => k_is); (case l4 => k_is); (case c4 => k_is); (case k4 => k_is); (case a5 => k_is); (case l5 => k_is); (case c5 => k_is); (case k5 => k_is); (case a6 => k_is); (case l6 => k_is); (case c6 => k_is); (case k6 => k_is); (case a7 => k_is); (case l7 => k_is); (case c7 => k_is); (case k7 => k_is); (case a8 => k_is); (case l8 => k_is); (case c8 => k_is); (case k8 => k_is); (case a9 => k_is); (case l9 => k_is); (case c9 => k_is); (case k9 => k_is); (case a10 => k_is); (case l10 => k_is); (case c10 => k_is); (case k10 => k_is); (case z0 => k_is); (case z1 => k_is); (case z2 => k_is); (case z3 => k_is); (case z4 => k_is); (case z5 => k_is); (case z6 => k_is); (case aX_RoomError => k_is); (case aX_BadLetter => k_is); (case aX_BadMail => k_is); (case x1 => k_exc); (case x2 => first | rfl | k_is); (case x3 => first | rfl | k_is); (case x4 => first | rfl | k_is); (case x5 => first | rfl | k_is); (case x6 => first | rfl | k_is); (case x7 => first | rfl | k_is); (case x8 => first | rfl | k_is); (case x9 => first | rfl | k_is); (case x10 => first | rfl | k_is); (case x11 => first | rfl | k_is); (case x12 => first | rfl | k_is); (case x13 => first | rfl | k_is); (case x14 => first | rfl | k_is); (case x15 => first | rfl | k_is); (case x16 => first | rfl | k_is); (case x17 => first | rfl | k_is); (case x18 => first | rfl | k_is); (case x20 => first | rfl | k_is); (case x19 => first | rfl | k_is)
