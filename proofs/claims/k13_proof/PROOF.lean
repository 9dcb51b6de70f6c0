import PyProof.Rows.All
import Wide.All
import OpenK.AllK
import Wide.FinOn
import HandS.ForMost
import HandS.IsInst
import HandS.More
import PyProof.TypeEq
import PyProof.InstEq
import HandS.Codes
import HandS.TupLe
import HandS.Walk
import HandS.StrMore
import PyProof.StrBlock2
import HandS.Property
import HandS.DictComp
import HandS.HeadHook3
import HandS.Zip
import HandS.FStr
import HandS.TupAny
import PyProof.FitsInt
import PySem.Challenge.RW_lettersonce_k13_mail_lines
set_option Elab.async false
set_option linter.all false
set_option maxRecDepth 100000
set_option maxHeartbeats 4000000
namespace TyNe
open PySem PySem.Spec PyProof.Rows L2 PySem.TypeEq Builtin

theorem slot_type_ne : Slot "type" (cmpInfo .NotEq).2.1 "object.__ne__" :=
  .of (owner := "object") (n := "__ne__") (by rw [typeLookup_type, builtinLookup_eq_fast]; kernel_rfl) (by decide +kernel) (by decide +kernel) (by decide +kernel)
    (by first | exact .inl (by decide +kernel) | exact .inr (by decide +kernel)) (by rw [isSubtype_type]; kernel_rfl)
theorem slot_type_ne_refl : Slot "type" (cmpInfo .NotEq).2.2 "object.__ne__" :=
  .of (owner := "object") (n := "__ne__") (by rw [typeLookup_type, builtinLookup_eq_fast]; kernel_rfl) (by decide +kernel) (by decide +kernel) (by decide +kernel)
    (by first | exact .inl (by decide +kernel) | exact .inr (by decide +kernel)) (by rw [isSubtype_type]; kernel_rfl)
theorem slot_type_eq' : Slot "type" "__eq__" "object.__eq__" := slot_type_eq
section
variable {prog : Program} {w : World} {A : Around} {E : Value → Shared → Prop} {s : Shared}
theorem ne_entry_same {X : String} (hX : ∀ s' : Shared, s'.TypeIs (.type X) "type") {Q : Fin → Shared → Prop} (h : Q (.done (.ret (.bool false))) s) :
    wpAny (model prog w) A (Builtin.«object.__ne__» ⟨[.type X, .type X], []⟩) Q E s := by
  unfold Builtin.«object.__ne__»
  repeat (first
    | with_reducible refine wpAny_cRoomFor_or (.inl rfl) ?_
    | (refine wpAny_bind (m := callSpecialIfBound? (.type X) (Str.ofString "__eq__") [.type X]) (wpAny_callSpecialIfBound?_slot (hX s) slot_type_eq'
        (call_gives slot_type_eq' (hX s) F.entry_object_eq (F.args_object_eq_2 _ _) (object_eq_same rfl (by simp)) ?_)))
    | wp_step)
  show wpAny _ A _ Q E s
  repeat (first | exact h | exact wpAny_pure h | (refine wpAny_bind (m := truthy (.bool _)) (wpAny_truthy_bool ?_)) | wp_step)
theorem ne_entry_other {X Y : String} (hX : ∀ s' : Shared, s'.TypeIs (.type X) "type") (hne : (Value.type X == Value.type Y) = false) {Q : Fin → Shared → Prop} (h : Q (.done (.ret .notImplemented)) s) :
    wpAny (model prog w) A (Builtin.«object.__ne__» ⟨[.type X, .type Y], []⟩) Q E s := by
  unfold Builtin.«object.__ne__»
  repeat (first
    | with_reducible refine wpAny_cRoomFor_or (.inl rfl) ?_
    | (refine wpAny_bind (m := callSpecialIfBound? (.type X) (Str.ofString "__eq__") [.type Y]) (wpAny_callSpecialIfBound?_slot (hX s) slot_type_eq'
        (call_gives slot_type_eq' (hX s) F.entry_object_eq (F.args_object_eq_2 _ _) (object_eq_other rfl hne) ?_)))
    | wp_step)
  show wpAny _ A _ Q E s
  repeat (first | exact h | exact wpAny_pure h | wp_step)
theorem call_ne_same {X : String} (hX : ∀ s' : Shared, s'.TypeIs (.type X) "type") {Q : Value → Shared → Prop} (h : Q (.bool false) s) :
    wpAny (model prog w) A (call (.builtin "object.__ne__") [.type X, .type X]) Q E s :=
  wpAny_call_entry slot_type_ne (hX s) F.cmpEntry_ne (ne_entry_same hX ⟨_, rfl, h⟩) (F.cmpArgs_ne _ _)
theorem call_ne_other {X Y : String} (hX : ∀ s' : Shared, s'.TypeIs (.type X) "type") (hne : (Value.type X == Value.type Y) = false) {Q : Value → Shared → Prop} (h : Q .notImplemented s) :
    wpAny (model prog w) A (call (.builtin "object.__ne__") [.type X, .type Y]) Q E s :=
  wpAny_call_entry slot_type_ne (hX s) F.cmpEntry_ne (ne_entry_other hX hne ⟨_, rfl, h⟩) (F.cmpArgs_ne _ _)
theorem ne_type_same {Q : Value → Shared → Prop} {X : String} (hX : ∀ s' : Shared, s'.TypeIs (.type X) "type") (h : Q (.bool false) s) : wpAny (model prog w) A (compareOp .NotEq (.type X) (.type X)) Q E s := by
  show wpAny _ A (richCompare .NotEq _ _) Q E s
  exact wpAny_richCompare_same (T := "type") (hX s) (hX s) slot_type_ne (call_ne_same hX ⟨(by intro e; cases e), h⟩)
theorem rich_ne_decline {M : Model} {a b : Value} {T id : String} {k : Bool} {Q : Value → Shared → Prop} (ha : ∀ s' : Shared, s'.TypeIs a T) (hb : ∀ s' : Shared, s'.TypeIs b T)
    (h1 : Slot T (cmpInfo .NotEq).2.1 id) (h2 : Slot T (cmpInfo .NotEq).2.2 id) (hv : [a, b].any Value.onHeap = false) (hk : isSame a b = pure k)
    (hc : wpAny M A (call (.builtin id) [a, b]) (fun v s₁ => v = .notImplemented ∧ wpAny M A (call (.builtin id) [b, a]) (fun v s₂ => v = .notImplemented ∧ Q (.bool (!k)) s₂) E s₁) E s) :
    wpAny M A (richCompare .NotEq a b) Q E s := by
  rcases hi : cmpInfo CmpOp.NotEq with ⟨sym, f, r⟩
  rw [hi] at h1 h2
  simp only [richCompare, hi, (ha s).oneThing_none]
  try with_reducible refine wpAny_holding ?_
  refine wpAny_bind (wpAny_cRoomFor_or (.inl hv) ?_)
  refine wpAny_bind (wpAny_typeOf (ha s) (wpAny_bind (wpAny_typeOf (hb s) ?_)))
  simp only [bne_self_eq_false, Bool.false_eq_true, if_false, pure_bind, Bool.not_false, if_true]
  refine wpAny_bind (m := tryCompare a _ b) (wpAny_tryCompare_declines (ha s) h1 (wpAny_mono hc (fun v s₁ h₁ => ⟨h₁.1, ?_⟩) fun _ _ x => x))
  refine wpAny_bind (m := tryCompare b _ a) (wpAny_tryCompare_declines (hb s₁) h2 (wpAny_mono h₁.2 (fun v s₂ h₂ => ⟨h₂.1, ?_⟩) fun _ _ x => x))
  refine wpAny_bind (wpAny_rule (wpAny_bind (wpAny_of_eq hk (wpAny_pure h₂.2))))
theorem ne_type_other {Q : Value → Shared → Prop} {X Y : String} (hX : ∀ s' : Shared, s'.TypeIs (.type X) "type") (hY : ∀ s' : Shared, s'.TypeIs (.type Y) "type") (hne : (Value.type X == Value.type Y) = false) (h : Q (.bool true) s) : wpAny (model prog w) A (compareOp .NotEq (.type X) (.type Y)) Q E s := by
  have hne' : (Value.type Y == Value.type X) = false := by
    rw [Bool.eq_false_iff] at hne ⊢
    intro e
    exact hne (by rw [beq_iff_eq] at e ⊢; exact e.symm)
  show wpAny _ A (richCompare .NotEq _ _) Q E s
  exact rich_ne_decline (T := "type") (k := false) hX hY slot_type_ne slot_type_ne_refl rfl (by rw [isSame_plain rfl, hne])
    (call_ne_other hX hne ⟨rfl, call_ne_other hY hne' ⟨rfl, h⟩⟩)
end
/-- the types whose own type is plainly `type` -/
def Ty9 (a : String) : Prop := ∀ s' : Shared, s'.TypeIs (.type a) "type"
section
variable {X : Cx}
def rEqTy : R2 := fun x y H Q => ∃ a b, x = .ty a ∧ y = .ty b ∧ Ty9 a ∧ Ty9 b ∧ Q (.bl (decide (a = b))) H
def rNeTy : R2 := fun x y H Q => ∃ a b, x = .ty a ∧ y = .ty b ∧ Ty9 a ∧ Ty9 b ∧ Q (.bl (!decide (a = b))) H
theorem op_eqTy : OpR X (compareOp .Eq) rEqTy := by
  intro pins s σ H x y v u Q I rx ry h
  obtain ⟨a, b, rfl, rfl, ta, tb, q⟩ := h
  cases (show v = Value.type a from rx)
  cases (show u = Value.type b from ry)
  by_cases e : a = b
  · subst e
    exact eq_type_same ta (fin_bl I q (by simp))
  · exact eq_type_other ta tb (by rw [ty_beq]; exact decide_eq_false e) (fin_bl I q (by simp [e]))
theorem op_neTy : OpR X (compareOp .NotEq) rNeTy := by
  intro pins s σ H x y v u Q I rx ry h
  obtain ⟨a, b, rfl, rfl, ta, tb, q⟩ := h
  cases (show v = Value.type a from rx)
  cases (show u = Value.type b from ry)
  by_cases e : a = b
  · subst e
    exact ne_type_same ta (fin_bl I q (by simp))
  · exact ne_type_other ta tb (by rw [ty_beq]; exact decide_eq_false e) (fin_bl I q (by simp [e]))
end
end TyNe

namespace Wp
open PySem PySem.Spec PyProof.Rows L2 TyNe

/-! ### the rules' readings under short names -/
abbrev qAdd : R2 := rI0 fun i j => .int (i + j)
abbrev qSub : R2 := rI0 fun i j => .int (i - j)
abbrev qMul : R2 := rI CMul fun i j => .int (i * j)
abbrev qFdiv : R2 := rI CDiv fun i j => .int (i / j)
abbrev qMod : R2 := rI (fun _ j => 0 < j) fun i j => .int (i % j)
abbrev qPow : R2 := rI CPow fun i j => .int (i ^ j.toNat)
abbrev qNeg : V → Hp → VK → Prop := rU fun i => .int (-i)
abbrev qLt : R2 := rI0 fun i j => .bl (decide (i < j))
abbrev qLe : R2 := rI0 fun i j => .bl (decide (i ≤ j))
abbrev qGt : R2 := rI0 fun i j => .bl (decide (j < i))
abbrev qGe : R2 := rI0 fun i j => .bl (decide (j ≤ i))
abbrev qAddS : R2 := fun x y H Q => ∃ i j, x = .str i ∧ y = .str j ∧ i.length + j.length ≤ sizeLine ∧ Q (.str (i ++ j)) H
abbrev qInSign : R2 := fun x y H Q => ∃ (c : Nat) (z : Str), x = .str ⟨#[c]⟩ ∧ y = .str z ∧ Q (.bl (decide (c ∈ z.cps.toList))) H
abbrev qNinSign : R2 := fun x y H Q => ∃ (c : Nat) (z : Str), x = .str ⟨#[c]⟩ ∧ y = .str z ∧ Q (.bl (!decide (c ∈ z.cps.toList))) H
abbrev qLtS : R2 := fun x y H Q => ∃ i j, x = .str i ∧ y = .str j ∧ Q (.bl (decide (i.cps.toList < j.cps.toList))) H
abbrev qLeS : R2 := fun x y H Q => ∃ i j, x = .str i ∧ y = .str j ∧ Q (.bl (!decide (j.cps.toList < i.cps.toList))) H
abbrev qGtS : R2 := fun x y H Q => ∃ i j, x = .str i ∧ y = .str j ∧ Q (.bl (decide (j.cps.toList < i.cps.toList))) H
abbrev qGeS : R2 := fun x y H Q => ∃ i j, x = .str i ∧ y = .str j ∧ Q (.bl (!decide (i.cps.toList < j.cps.toList))) H
abbrev qIsBl : R2 := fun x y H Q => ∃ a b, x = .bl a ∧ y = .bl b ∧ Q (.bl (decide (a = b))) H
abbrev qLenStr : List V → Hp → VK → Prop := fun xs H Q => ∃ z, xs = [.str z] ∧ z.length ≤ sizeLine ∧ Q (.int z.length) H
abbrev qLenSeq (K : PySem.W.Frag) : List V → Hp → VK → Prop := fun xs H Q => ∃ p ys, xs = [.ref p] ∧ (SqL K H p ys ∨ SqT K H p ys) ∧ Q (.int ys.length) H
abbrev qInt1 : List V → Hp → VK → Prop := fun xs H Q => (∃ i, xs = [.int i] ∧ Q (.int i) H) ∨ ∃ k, xs = [.bl k] ∧ Q (.int (if k then 1 else 0)) H
abbrev qStrInt : List V → Hp → VK → Prop := fun xs H Q => ∃ i : Int, xs = [.int i] ∧ i.natAbs.log2 < 1920 ∧ Q (.str (toString i)) H
abbrev qTupleOf (K : PySem.W.Frag) : List V → Hp → VK → Prop := fun xs H Q => ∃ p ys, xs = [.ref p] ∧ ((SqL K H p ys ∧ ∀ l, H l = none → Q (.ref l) (upd H l (.tup ys))) ∨ (SqT K H p ys ∧ Q (.ref p) H))
abbrev qListOf (K : PySem.W.Frag) : List V → Hp → VK → Prop := fun xs H Q => ∃ p ys, xs = [.ref p] ∧ (SqL K H p ys ∨ SqT K H p ys) ∧ ∀ l, H l = none → Q (.ref l) (upd H l (.lst ys))
abbrev qIsN : R2 := fun x y H Q => y = .non ∧ Q (.bl (decide (x = .non))) H
abbrev qNotN : R2 := fun x y H Q => y = .non ∧ Q (.bl (!decide (x = .non))) H
abbrev qMax2 : List V → Hp → VK → Prop := fun xs H Q => ∃ i j, xs = [.int i, .int j] ∧ Q (.int (if j > i then j else i)) H
abbrev qMin2 : List V → Hp → VK → Prop := fun xs H Q => ∃ i j, xs = [.int i, .int j] ∧ Q (.int (if j < i then j else i)) H

/-! ### heaps -/
/-- what was tracked stands as it stood, but p -/
def Kp (p : Addr) (H H' : Hp) : Prop := ∀ b o, b ≠ p → H b = some o → H' b = some o
theorem Same.kp {p : Addr} {H H' : Hp} (h : Same H H') : Kp p H H' := fun b o _ e => h b o e
theorem Kp.refl {p : Addr} {H : Hp} : Kp p H H := fun _ _ _ e => e
theorem Kp.trans {p : Addr} {H H1 H2 : Hp} (a : Kp p H H1) (b : Kp p H1 H2) : Kp p H H2 := fun c o n e => b c o n (a c o n e)
theorem Kp.get {p : Addr} {H H' : Hp} (h : Kp p H H') {b : Addr} {o : HO} (n : b ≠ p) (e : H b = some o) : H' b = some o := h b o n e
theorem Kp.updp {p : Addr} {H H' : Hp} {o : HO} (h : Kp p H H') : Kp p H (upd H' p o) := fun b u n e => by
  rw [upd_ne n]
  exact h b u n e
theorem Kp.upd {p a : Addr} {H H' : Hp} {o : HO} (h : Kp p H H') (n : H a = none) : Kp p H (upd H' a o) := fun b u m e => by
  rw [upd_ne (ne_of_none e n)]
  exact h b u m e
theorem Same.upd {a : Addr} {H H' : Hp} {o : HO} (h : Same H H') (n : H a = none) : Same H (L2.upd H' a o) := fun b u e => by
  rw [upd_ne (ne_of_none e n)]
  exact h b u e
theorem Kp.same {p : Addr} {H H' : Hp} (h : Kp p H H') (n : H p = none) : Same H H' := fun b o e => h b o (ne_of_none e n) e
theorem Kp.free {p a : Addr} {H H' : Hp} (h : Kp p H H') (n : a ≠ p) (e : H' a = none) : H a = none := by
  cases q : H a with
  | none => rfl
  | some o => rw [h a o n q] at e; cases e
/-- a stream -/
def Stm (H : Hp) (p : Addr) : Prop := ∃ a b : Int, H p = some (.lst [.int a, .int b]) ∧ 0 ≤ a ∧ 0 ≤ b
theorem Stm.ne {H : Hp} {p a : Addr} (h : Stm H p) (e : H a = none) : a ≠ p := by
  obtain ⟨x, y, h, _⟩ := h
  exact (ne_of_none h e).symm
theorem Stm.same {H H' : Hp} {p : Addr} (h : Stm H p) (s : Same H H') : Stm H' p := by
  obtain ⟨x, y, h, r⟩ := h
  exact ⟨x, y, s _ _ h, r⟩
theorem Stm.up {H : Hp} {p a : Addr} {o : HO} (h : Stm H p) (e : H a = none) : Stm (L2.upd H a o) p := by
  obtain ⟨x, y, h, r⟩ := h
  exact ⟨x, y, by rw [upd_ne (ne_of_none h e)]; exact h, r⟩

/-! ### steps, in the order of the reading -/
section
variable {K : PySem.W.Frag} {σ : L2.St} {H : Hp} {Q : VK} {v : V} {ta tb tc te : TE} {tt uu : TT} {r r' : R2} {D : Ends} {t u : TS}
theorem w_var {i : Nat} (h : σ[i]? = some (some v)) (q : Q v H) : tVar i σ H Q := ⟨v, h, q⟩
theorem w_c (q : Q v H) : tC v σ H Q := q
theorem w_op (q : ta σ H fun x H1 => tb σ H1 fun y H2 => r x y H2 Q) : tOp r ta tb σ H Q := q
theorem w_un {r : V → Hp → VK → Prop} (q : ta σ H fun x H1 => r x H1 Q) : tUn r ta σ H Q := q
theorem w_I0 {g : Int → Int → V} {i j : Int} (q : Q (g i j) H) : rI0 g (.int i) (.int j) H Q := ⟨i, j, rfl, rfl, q⟩
theorem w_I {C : Int → Int → Prop} {g : Int → Int → V} {i j : Int} (c : C i j) (q : Q (g i j) H) : rI C g (.int i) (.int j) H Q := ⟨i, j, rfl, rfl, c, q⟩
theorem w_U {g : Int → V} {i : Int} (q : Q (g i) H) : rU g (.int i) H Q := ⟨i, rfl, q⟩
theorem w_eqI {i j : Int} (q : Q (.bl (decide (i = j))) H) : rEq (.int i) (.int j) H Q := ⟨rfl, by
  have e : decide (V.int i = V.int j) = decide (i = j) := by rw [decide_eq_decide]; exact ⟨fun z => V.int.inj z, fun z => by rw [z]⟩
  rw [e]; exact q⟩
theorem w_neI {i j : Int} (q : Q (.bl (decide (i ≠ j))) H) : rNe (.int i) (.int j) H Q := ⟨rfl, by
  have e : (!decide (V.int i = V.int j)) = decide (i ≠ j) := by rw [decide_not]; congr 1; rw [decide_eq_decide]; exact ⟨fun z => V.int.inj z, fun z => by rw [z]⟩
  rw [e]; exact q⟩
theorem w_eqS {i j : Str} (q : Q (.bl (decide (i = j))) H) : rEq (.str i) (.str j) H Q := ⟨rfl, by
  have e : decide (V.str i = V.str j) = decide (i = j) := by rw [decide_eq_decide]; exact ⟨fun z => V.str.inj z, fun z => by rw [z]⟩
  rw [e]; exact q⟩
theorem w_neS {i j : Str} (q : Q (.bl (decide (i ≠ j))) H) : rNe (.str i) (.str j) H Q := ⟨rfl, by
  have e : (!decide (V.str i = V.str j)) = decide (i ≠ j) := by rw [decide_not]; congr 1; rw [decide_eq_decide]; exact ⟨fun z => V.str.inj z, fun z => by rw [z]⟩
  rw [e]; exact q⟩
theorem w_eqB {i j : Bool} (q : Q (.bl (decide (i = j))) H) : rEq (.bl i) (.bl j) H Q := ⟨rfl, by
  have e : decide (V.bl i = V.bl j) = decide (i = j) := by rw [decide_eq_decide]; exact ⟨fun z => V.bl.inj z, fun z => by rw [z]⟩
  rw [e]; exact q⟩
theorem w_eqTy {a b : String} (ha : Ty9 a) (hb : Ty9 b) (q : Q (.bl (decide (a = b))) H) : rEqTy (.ty a) (.ty b) H Q := ⟨a, b, rfl, rfl, ha, hb, q⟩
theorem w_neTy {a b : String} (ha : Ty9 a) (hb : Ty9 b) (q : Q (.bl (decide (a ≠ b))) H) : rNeTy (.ty a) (.ty b) H Q := ⟨a, b, rfl, rfl, ha, hb, by rw [← decide_not]; exact q⟩
theorem w_addS {i j : Str} (h : i.length + j.length ≤ sizeLine) (q : Q (.str (i ++ j)) H) : qAddS (.str i) (.str j) H Q := ⟨i, j, rfl, rfl, h, q⟩
theorem w_inSign {c : Nat} {z : Str} (q : Q (.bl (decide (c ∈ z.cps.toList))) H) : qInSign (.str ⟨#[c]⟩) (.str z) H Q := ⟨c, z, rfl, rfl, q⟩
theorem w_ninSign {c : Nat} {z : Str} (q : Q (.bl (!decide (c ∈ z.cps.toList))) H) : qNinSign (.str ⟨#[c]⟩) (.str z) H Q := ⟨c, z, rfl, rfl, q⟩
theorem w_ixL {p : Addr} {xs : List V} {i : Int} (h : SqL K H p xs) (ha : atI xs i = some v) (q : Q v H) : rIxL K (.ref p) (.int i) H Q := ⟨p, xs, i, v, rfl, rfl, h, ha, q⟩
theorem w_ixT {p : Addr} {xs : List V} {i : Int} (h : SqT K H p xs) (ha : atI xs i = some v) (q : Q v H) : rIxT K (.ref p) (.int i) H Q := ⟨p, xs, i, v, rfl, rfl, h, ha, q⟩
theorem w_ixS {z : Str} {i : Int} {c : Nat} (h : z.length ≤ sizeLine) (ha : atI z.cps.toList i = some c) (q : Q (.str ⟨#[c]⟩) H) : rIxS (.str z) (.int i) H Q := ⟨z, i, c, rfl, rfl, h, ha, q⟩
theorem w_nil {R : List V → Hp → Prop} (q : R [] H) : tNil σ H R := q
theorem w_cons {tr : TA} {R : List V → Hp → Prop} (q : ta σ H fun x H1 => tr σ H1 fun xs H2 => R (x :: xs) H2) : tCons ta tr σ H R := q
theorem w_tup {tr : TA} (q : tr σ H fun xs H1 => xs.length ≤ sizeLine ∧ ∀ p, H1 p = none → Q (.ref p) (upd H1 p (.tup xs))) : tTup tr σ H Q := q
theorem w_lst {tr : TA} (q : tr σ H fun xs H1 => xs.length ≤ sizeLine ∧ ∀ p, H1 p = none → Q (.ref p) (upd H1 p (.lst xs))) : tLst tr σ H Q := q
theorem w_cb {r : List V → Hp → VK → Prop} {tr : TA} (q : tr σ H fun vs H1 => r vs H1 Q) : tCB r tr σ H Q := q
theorem w_lenStr {z : Str} (h : z.length ≤ sizeLine) (q : Q (.int z.length) H) : qLenStr [.str z] H Q := ⟨z, rfl, h, q⟩
theorem w_lenL {p : Addr} {xs : List V} (h : SqL K H p xs) (q : Q (.int xs.length) H) : qLenSeq K [.ref p] H Q := ⟨p, xs, rfl, .inl h, q⟩
theorem w_lenT {p : Addr} {xs : List V} (h : SqT K H p xs) (q : Q (.int xs.length) H) : qLenSeq K [.ref p] H Q := ⟨p, xs, rfl, .inr h, q⟩
theorem w_int1 {i : Int} (q : Q (.int i) H) : qInt1 [.int i] H Q := .inl ⟨i, rfl, q⟩
theorem w_int1b {c : Prop} [Decidable c] (q : Q (.int (if c then 1 else 0)) H) : qInt1 [.bl (decide c)] H Q := .inr ⟨_, rfl, by
  by_cases h : c
  · simp only [h, decide_true, if_true] at q ⊢; exact q
  · simp only [h, decide_false, if_false, Bool.false_eq_true] at q ⊢; exact q⟩
theorem w_strInt {i : Int} (h0 : 0 ≤ i) (h1 : i ≤ 100000000000000000000) (q : Q (.str (toString i)) H) : qStrInt [.int i] H Q := ⟨i, rfl, by
  have h2 : i.natAbs ≤ 100000000000000000000 := by omega
  have h3 : i.natAbs.log2 < 67 := by
    by_cases h : i.natAbs = 0
    · rw [h]; decide
    · exact (Nat.log2_lt h).mpr (Nat.lt_of_le_of_lt h2 (by decide))
  omega, q⟩
theorem w_tupleOfL {p : Addr} {ys : List V} (h : SqL K H p ys) (q : ∀ l, H l = none → Q (.ref l) (upd H l (.tup ys))) : qTupleOf K [.ref p] H Q := ⟨p, ys, rfl, .inl ⟨h, q⟩⟩
theorem w_tupleOfT {p : Addr} {ys : List V} (h : SqT K H p ys) (q : Q (.ref p) H) : qTupleOf K [.ref p] H Q := ⟨p, ys, rfl, .inr ⟨h, q⟩⟩
theorem w_listOf {p : Addr} {ys : List V} (h : SqL K H p ys ∨ SqT K H p ys) (q : ∀ l, H l = none → Q (.ref l) (upd H l (.lst ys))) : qListOf K [.ref p] H Q := ⟨p, ys, rfl, h, q⟩
theorem w_isN (q : Q (.bl (decide (v = .non))) H) : qIsN v .non H Q := ⟨rfl, q⟩
theorem w_notN (q : Q (.bl (!decide (v = .non))) H) : qNotN v .non H Q := ⟨rfl, q⟩
theorem w_bm {T : String} {r : V → List V → Hp → VK → Prop} {tr : TA} (q : te σ H fun x H1 => tyV K T x H1 ∧ tr σ H1 fun xs H2 => r x xs H2 Q) : tBM K T r te tr σ H Q := q
theorem w_tyL {p : Addr} {xs : List V} {A : Prop} (h : H p = some (.lst xs)) (q : A) : tyV K "list" (.ref p) H ∧ A := ⟨.inl ⟨rfl, xs, SqL.of h⟩, q⟩
theorem w_app {p : Addr} {xs : List V} (h : H p = some (.lst xs)) (z : xs.length < sizeLine) (q : Q .non (upd H p (.lst (xs ++ [v])))) : rAppend (.ref p) [v] H Q := ⟨p, xs, v, rfl, rfl, h, z, q⟩
theorem w_inL {neg : Bool} {p : Addr} {xs : List V} (h : SqL K H p xs) (f : flatV v = true) (fs : xs.all flatV = true) (q : Q (.bl (if neg then !inV v xs else inV v xs)) H) : rIn K neg v (.ref p) H Q := ⟨p, xs, rfl, .inl h, f, fs, q⟩
theorem w_inT {neg : Bool} {p : Addr} {xs : List V} (h : SqT K H p xs) (f : flatV v = true) (fs : xs.all flatV = true) (q : Q (.bl (if neg then !inV v xs else inV v xs)) H) : rIn K neg v (.ref p) H Q := ⟨p, xs, rfl, .inr h, f, fs, q⟩
theorem inV_strs (z : Str) (ys : List Str) : inV (.str z) (ys.map V.str) = decide (z ∈ ys) := by
  unfold inV
  rw [List.any_map, Bool.eq_iff_iff, List.any_eq_true, decide_eq_true_eq]
  constructor
  · rintro ⟨y, hy, e⟩
    have e' : (y == z) = true := e
    rw [beq_iff_eq] at e'
    exact e' ▸ hy
  · intro h
    refine ⟨z, h, ?_⟩
    show (z == z) = true
    exact beq_self_eq_true z
theorem flat_strs (ys : List Str) : (ys.map V.str).all flatV = true := by
  rw [List.all_map, List.all_eq_true]
  intro y _
  rfl
theorem w_max2 {i j : Int} (q : Q (.int (if j > i then j else i)) H) : qMax2 [.int i, .int j] H Q := ⟨i, j, rfl, q⟩
theorem w_min2 {i j : Int} (q : Q (.int (if j < i then j else i)) H) : qMin2 [.int i, .int j] H Q := ⟨i, j, rfl, q⟩
theorem w_test {R : Bool → Hp → Prop} (q : te σ H fun x H' => ∃ k, x = .bl k ∧ R k H') : tTest te σ H R := q
theorem w_B {R : Bool → Hp → Prop} (q : te σ H fun x H' => ∃ k, x = .bl k ∧ R k H') : tB te σ H R := q
theorem w_exb {b : Bool} {R : Bool → Prop} (q : R b) : ∃ k, V.bl b = .bl k ∧ R k := ⟨b, rfl, q⟩
theorem w_and {R : Bool → Hp → Prop} (q : tt σ H fun c H1 => if c = true then uu σ H1 R else R false H1) : tAnd tt uu σ H R := q
theorem w_or {R : Bool → Hp → Prop} (q : tt σ H fun c H1 => if c = true then R true H1 else uu σ H1 R) : tOr tt uu σ H R := q
theorem w_not {R : Bool → Hp → Prop} (q : tt σ H fun c H1 => R (!c) H1) : tNot tt σ H R := q
theorem w_andV (q : ta σ H fun x H1 => ∃ c, x = .bl c ∧ if c = true then tb σ H1 Q else Q (.bl false) H1) : tAndV ta tb σ H Q := q
theorem w_orV (q : ta σ H fun x H1 => ∃ c, x = .bl c ∧ if c = true then Q (.bl true) H1 else tb σ H1 Q) : tOrV ta tb σ H Q := q
theorem w_notV (q : ta σ H fun x H1 => ∃ c, x = .bl c ∧ Q (.bl (!c)) H1) : tNotV ta σ H Q := q
theorem w_if (q : tt σ H fun c H1 => if c = true then ta σ H1 Q else tb σ H1 Q) : tIf tt ta tb σ H Q := q
theorem w_chain (q : ta σ H fun x H1 => tb σ H1 fun y H2 => r x y H2 fun z H3 => ∃ k, z = .bl k ∧ (if k = true then tc σ H3 fun w' H4 => r' y w' H4 Q else Q (.bl false) H3)) : tChain r r' ta tb tc σ H Q := q
theorem w_ifS (q : tt σ H fun b H1 => if b = true then t D σ H1 else u D σ H1) : tIfS tt t u D σ H := q
theorem w_ifCut {Mid : L2.St → Hp → Prop} (k : ∀ σ' H', Mid σ' H' → D.nx σ' H') (q : ∀ R : L2.St → Hp → Prop, (∀ σ' H', Mid σ' H' → R σ' H') → tIfS tt t u { D with nx := R } σ H) : tIfS tt t u D σ H := q _ k
theorem cmul_l {i j : Int} (h0 : -1000000000000 ≤ i) (h1 : i ≤ 1000000000000) : CMul i j := .inl ⟨by omega, by omega⟩
theorem cmul_r {i j : Int} (h0 : -1000000000000 ≤ j) (h1 : j ≤ 1000000000000) : CMul i j := .inr ⟨by omega, by omega⟩
theorem w_ite {c A B : Prop} [Decidable c] (h1 : c → A) (h2 : ¬ c → B) : if decide c = true then A else B := by
  by_cases h : c
  · rw [if_pos (decide_eq_true h)]; exact h1 h
  · rw [if_neg (by rw [decide_eq_true_iff]; exact h)]; exact h2 h
theorem w_iteN {c A B : Prop} [Decidable c] (h1 : ¬ c → A) (h2 : c → B) : if (!decide c) = true then A else B := by
  by_cases h : c
  · rw [decide_eq_true h, if_neg (by decide)]; exact h2 h
  · rw [decide_eq_false h]; exact h1 h
theorem w_iteb {b : Bool} {A B : Prop} (h1 : b = true → A) (h2 : b = false → B) : if b = true then A else B := by
  cases b
  · rw [if_neg (by decide)]; exact h2 rfl
  · rw [if_pos rfl]; exact h1 rfl
theorem w_seq (q : t { D with nx := u D } σ H) : tSeq t u D σ H := q
theorem w_next (q : D.nx σ H) : tNext D σ H := q
theorem w_asg {g : TG} (q : te σ H fun x H1 => g x σ H1 D.nx) : tAsg te g D σ H := q
theorem w_name {i : Nat} {R : L2.St → Hp → Prop} (q : R (σ.set i (some v)) H) : gName i v σ H R := q
theorem w_sub {to ti : TE} {ts : TSet} {R : L2.St → Hp → Prop} (q : to σ H fun o H1 => ti σ H1 fun i H2 => ts o i v H2 fun H3 => R σ H3) : gSub to ti ts v σ H R := q
theorem w_setL {p : Addr} {xs : List V} {k : Int} {j : Nat} {R : Hp → Prop} (h : H p = some (.lst xs)) (hj : ixN xs.length k = some j) (q : R (upd H p (.lst (xs.set j v)))) : rSetL (.ref p) (.int k) v H R := ⟨p, xs, k, j, rfl, rfl, h, hj, q⟩
theorem w_ret (q : te σ H D.rt) : tRet te D σ H := q
theorem w_retN (q : D.rt .non H) : tRetN D σ H := q
theorem w_drop (q : te σ H fun _ H1 => D.nx σ H1) : tDrop te D σ H := q
theorem w_call {sp : Sp} {dvs : List V} {E : XK} {tr : TA} (q : tr σ H fun vs H1 => sp (vs ++ dvs) H1 Q E) : tCall sp dvs E tr σ H Q := q
theorem w_sl {r : V → Option Int → Option Int → Hp → VK → Prop} {tl th : TO} (q : te σ H fun x H1 => tl σ H1 fun l H2 => th σ H2 fun u H3 => r x l u H3 Q) : tSl r te tl th σ H Q := q
theorem w_noPart {R : Option Int → Hp → Prop} (q : R none H) : tNoPart σ H R := q
theorem w_part {R : Option Int → Hp → Prop} (q : te σ H fun x H1 => ∃ i, x = .int i ∧ R (some i) H1) : tPart te σ H R := q
theorem w_exi {i : Int} {R : Int → Prop} (q : R i) : ∃ k, V.int i = .int k ∧ R k := ⟨i, rfl, q⟩
theorem w_slS {z : Str} {lo hi : Option Int} (h : z.length ≤ sizeLine) (q : Q (.str (cutS z lo hi)) H) : rSlS (.str z) lo hi H Q := ⟨z, rfl, h, q⟩
theorem w_isi {x : V} {t : Value} {T : String} {b : Bool} (h : TyX K H x t) (k : PySem.W.kitOne K t (.type T) = some b) (q : Q (.bl b) H) : rIsi K [x, .ty T] H Q := ⟨x, _, t, _, b, rfl, .ty T, h, k, q⟩
theorem w_typ {x : V} {T : String} (h : TyB K H x T) (q : Q (.ty T) H) : rTyp K [x] H Q := ⟨x, T, rfl, h, q⟩
theorem w_cat {l b : Addr} {xs zs : List V} (h : H l = some (.lst xs)) (h' : H b = some (.lst zs)) (z : xs.length + zs.length ≤ sizeLine) (q : ∀ p, H p = none → Q (.ref p) (upd H p (.lst (xs ++ zs)))) : rCat (.ref l) (.ref b) H Q := ⟨l, b, xs, zs, rfl, rfl, h, h', z, q⟩
theorem w_isBl {a b : Bool} (q : Q (.bl (decide (a = b))) H) : qIsBl (.bl a) (.bl b) H Q := ⟨a, b, rfl, rfl, q⟩
theorem w_nf {A B : Prop} (q : A) : if (!false) = true then A else B := q
theorem w_nt {A B : Prop} (q : B) : if (!true) = true then A else B := q
theorem w_len0 {n : Nat} {A : Prop} (h : n ≤ sizeLine) (q : A) : n ≤ sizeLine ∧ A := ⟨h, q⟩
end
theorem sz {n : Nat} (h : n ≤ 100000) : n ≤ sizeLine := Nat.le_trans h (by decide)
theorem atI_of {α : Type} {xs : List α} {i : Int} {v : α} (h0 : 0 ≤ i) (h : xs[i.toNat]? = some v) : atI xs i = some v := by
  have e : ((i.toNat : Nat) : Int) = i := Int.toNat_of_nonneg h0
  rw [← e]
  exact atI_nat h
end Wp

namespace Wp
open PySem PySem.Spec PyProof.Rows L2 TyNe

/-! ### what is made of data -/
mutual
/-- v denotes d at H; every object on the way stands at an address that ok takes -/
inductive Dn (ok : Addr → Prop) (H : Hp) : V → PyData → Prop where
  | non : Dn ok H .non .none
  | bl (b : Bool) : Dn ok H (.bl b) (.bool b)
  | int (i : Int) : Dn ok H (.int i) (.int i)
  | str (x : Str) : Dn ok H (.str x) (.str x)
  | lst {a : Addr} {xs : List V} {ds : List PyData} (ha : ok a) (h : H a = some (.lst xs)) (hs : DnAll ok H xs ds) : Dn ok H (.ref a) (.list ds)
  | tup {a : Addr} {xs : List V} {ds : List PyData} (ha : ok a) (h : H a = some (.tup xs)) (hs : DnAll ok H xs ds) : Dn ok H (.ref a) (.tuple ds)
  | dic {a : Addr} {kvs : List (Key × V)} (ha : ok a) (h : H a = some (.dK kvs)) : Dn ok H (.ref a) (.dict [])
inductive DnAll (ok : Addr → Prop) (H : Hp) : List V → List PyData → Prop where
  | nil : DnAll ok H [] []
  | cons {v : V} {vs : List V} {d : PyData} {ds : List PyData} (h : Dn ok H v d) (hs : DnAll ok H vs ds) : DnAll ok H (v :: vs) (d :: ds)
end
mutual
theorem Dn.step {ok : Addr → Prop} {H H' : Hp} (k : ∀ a o, ok a → H a = some o → H' a = some o) {v : V} {d : PyData} : Dn ok H v d → Dn ok H' v d
  | .non => .non
  | .bl b => .bl b
  | .int i => .int i
  | .str x => .str x
  | .lst ha h hs => .lst ha (k _ _ ha h) (DnAll.step k hs)
  | .tup ha h hs => .tup ha (k _ _ ha h) (DnAll.step k hs)
  | .dic ha h => .dic ha (k _ _ ha h)
theorem DnAll.step {ok : Addr → Prop} {H H' : Hp} (k : ∀ a o, ok a → H a = some o → H' a = some o) {vs : List V} {ds : List PyData} : DnAll ok H vs ds → DnAll ok H' vs ds
  | .nil => .nil
  | .cons h hs => .cons (Dn.step k h) (DnAll.step k hs)
end
mutual
theorem Dn.weak {ok ok' : Addr → Prop} {H : Hp} (k : ∀ a o, ok a → H a = some o → ok' a) {v : V} {d : PyData} : Dn ok H v d → Dn ok' H v d
  | .non => .non
  | .bl b => .bl b
  | .int i => .int i
  | .str x => .str x
  | .lst ha h hs => .lst (k _ _ ha h) h (DnAll.weak k hs)
  | .tup ha h hs => .tup (k _ _ ha h) h (DnAll.weak k hs)
  | .dic ha h => .dic (k _ _ ha h) h
theorem DnAll.weak {ok ok' : Addr → Prop} {H : Hp} (k : ∀ a o, ok a → H a = some o → ok' a) {vs : List V} {ds : List PyData} : DnAll ok H vs ds → DnAll ok' H vs ds
  | .nil => .nil
  | .cons h hs => .cons (Dn.weak k h) (DnAll.weak k hs)
end
/-- off the address p -/
abbrev Off (p : Addr) : Addr → Prop := fun a => a ≠ p
abbrev Any : Addr → Prop := fun _ => True
theorem Dn.same {ok : Addr → Prop} {H H' : Hp} {v : V} {d : PyData} (h : Dn ok H v d) (s : Same H H') : Dn ok H' v d := h.step fun a o _ e => s a o e
theorem Dn.kp {p : Addr} {H H' : Hp} {v : V} {d : PyData} (h : Dn (Off p) H v d) (s : Kp p H H') : Dn (Off p) H' v d := h.step fun a o n e => s a o n e
theorem Dn.any {ok : Addr → Prop} {H : Hp} {v : V} {d : PyData} (h : Dn ok H v d) : Dn Any H v d := h.weak fun _ _ _ _ => trivial
theorem Dn.off {ok : Addr → Prop} {p : Addr} {H : Hp} {v : V} {d : PyData} (h : Dn ok H v d) (n : H p = none) : Dn (Off p) H v d := h.weak fun a o _ e => ne_of_none e n
theorem DnAll.same {ok : Addr → Prop} {H H' : Hp} {v : List V} {d : List PyData} (h : DnAll ok H v d) (s : Same H H') : DnAll ok H' v d := h.step fun a o _ e => s a o e
theorem DnAll.kp {p : Addr} {H H' : Hp} {v : List V} {d : List PyData} (h : DnAll (Off p) H v d) (s : Kp p H H') : DnAll (Off p) H' v d := h.step fun a o n e => s a o n e
theorem DnAll.any {ok : Addr → Prop} {H : Hp} {v : List V} {d : List PyData} (h : DnAll ok H v d) : DnAll Any H v d := h.weak fun _ _ _ _ => trivial
theorem DnAll.off {ok : Addr → Prop} {p : Addr} {H : Hp} {v : List V} {d : List PyData} (h : DnAll ok H v d) (n : H p = none) : DnAll (Off p) H v d := h.weak fun a o _ e => ne_of_none e n
theorem DnAll.len {ok : Addr → Prop} {H : Hp} : ∀ {vs : List V} {ds : List PyData}, DnAll ok H vs ds → vs.length = ds.length
  | _, _, .nil => rfl
  | _, _, .cons _ hs => congrArg (· + 1) (DnAll.len hs)
theorem DnAll.get {ok : Addr → Prop} {H : Hp} : ∀ {vs : List V} {ds : List PyData} {i : Nat} {v : V}, DnAll ok H vs ds → vs[i]? = some v → ∃ d, ds[i]? = some d ∧ Dn ok H v d
  | _, _, _, _, .nil, e => by simp at e
  | _, _, 0, _, .cons h _, e => by
    have e' := Option.some.inj e
    subst e'
    exact ⟨_, rfl, h⟩
  | _, _, i + 1, v, .cons _ hs, e => DnAll.get (i := i) hs e
theorem DnAll.app {ok : Addr → Prop} {H : Hp} : ∀ {vs ws : List V} {ds es : List PyData}, DnAll ok H vs ds → DnAll ok H ws es → DnAll ok H (vs ++ ws) (ds ++ es)
  | _, _, _, _, .nil, h => h
  | _, _, _, _, .cons h hs, h' => .cons h (DnAll.app hs h')
def tyN : PyData → String
  | .none => "NoneType" | .bool _ => "bool" | .int _ => "int" | .str _ => "str" | .list _ => "list" | .tuple _ => "tuple" | .dict _ => "dict"
theorem Dn.tyB {K : PySem.W.Frag} {ok : Addr → Prop} {H : Hp} {v : V} {d : PyData} (h : Dn ok H v d) : TyB K H v (tyN d) := by
  cases h with
  | non => exact .non
  | bl b => exact .bl b
  | int i => exact .int i
  | str x => exact .str x
  | lst ha h hs => exact .lst (SqL.of h)
  | tup ha h hs => exact .tup (SqT.of h)
  | dic ha h => exact .dK h
theorem Dn.tyX {K : PySem.W.Frag} {ok : Addr → Prop} {H : Hp} {v : V} {d : PyData} (h : Dn ok H v d) : TyX K H v (.type (tyN d)) := by
  cases h with
  | non => exact .base .non
  | bl b => exact .base (.bl b)
  | int i => exact .base (.int i)
  | str x => exact .base (.str x)
  | lst ha h hs => exact .base (.lst h)
  | tup ha h hs => exact .base (.tup h)
  | dic ha h => exact .base (.dK h)
theorem ty9 (d : PyData) : Ty9 (tyN d) := by
  cases d
  · exact TypeEq.meta_NoneType
  · exact TypeEq.meta_bool
  · exact TypeEq.meta_int
  · exact TypeEq.meta_str
  · exact TypeEq.meta_list
  · exact TypeEq.meta_tuple
  · exact TypeEq.meta_dict
theorem kit_str {K : PySem.W.Frag} (d : PyData) : PySem.W.kitOne K (.type (tyN d)) (.type "str") = some (decide (tyN d = "str")) := by
  have hh : ∀ a ∈ ["NoneType", "bool", "int", "str", "list", "tuple", "dict"], kitB a "str" = some (decide (a = "str")) := by decide +kernel
  exact kit_ty (hh _ (by cases d <;> simp [tyN]))
theorem kit_tuple {K : PySem.W.Frag} (d : PyData) : PySem.W.kitOne K (.type (tyN d)) (.type "tuple") = some (decide (tyN d = "tuple")) := by
  have hh : ∀ a ∈ ["NoneType", "bool", "int", "str", "list", "tuple", "dict"], kitB a "tuple" = some (decide (a = "tuple")) := by decide +kernel
  exact kit_ty (hh _ (by cases d <;> simp [tyN]))
theorem kit_list {K : PySem.W.Frag} (d : PyData) : PySem.W.kitOne K (.type (tyN d)) (.type "list") = some (decide (tyN d = "list")) := by
  have hh : ∀ a ∈ ["NoneType", "bool", "int", "str", "list", "tuple", "dict"], kitB a "list" = some (decide (a = "list")) := by decide +kernel
  exact kit_ty (hh _ (by cases d <;> simp [tyN]))
theorem kit_bool {K : PySem.W.Frag} (d : PyData) : PySem.W.kitOne K (.type (tyN d)) (.type "bool") = some (decide (tyN d = "bool")) := by
  have hh : ∀ a ∈ ["NoneType", "bool", "int", "str", "list", "tuple", "dict"], kitB a "bool" = some (decide (a = "bool")) := by decide +kernel
  exact kit_ty (hh _ (by cases d <;> simp [tyN]))
theorem kit_int {K : PySem.W.Frag} (d : PyData) : PySem.W.kitOne K (.type (tyN d)) (.type "int") = some (decide (tyN d = "int" ∨ tyN d = "bool")) := by
  have hh : ∀ a ∈ ["NoneType", "bool", "int", "str", "list", "tuple", "dict"], kitB a "int" = some (decide (a = "int" ∨ a = "bool")) := by decide +kernel
  exact kit_ty (hh _ (by cases d <;> simp [tyN]))

/-! ### loops -/
section
variable {K : PySem.W.Frag} {σ : L2.St} {H : Hp} {Q : VK} {ta : TA} {te : TE} {g : TG} {tb : TS} {D : Ends} {tt : TT}
theorem w_forR (q : ta σ H fun vs H1 => ∃ n : Int, vs = [.int n] ∧ -(2 ^ 62) ≤ n ∧ n < 2 ^ 62 ∧ ∃ Pv : Nat → L2.St → Hp → Prop, Pv 0 σ H1 ∧
    (∀ (i : Nat) σ H, (i : Int) < n → Pv i σ H → g (.int (i : Int)) σ H fun σ2 H2 => tb { D with nx := Pv (i + 1), ct := Pv (i + 1), bk := D.nx } σ2 H2) ∧ ∀ σ H, Pv n.toNat σ H → D.nx σ H)
    (mono : ∀ R R' : List V → Hp → Prop, (∀ vs H, R vs H → R' vs H) → ta σ H R → ta σ H R') : tFor (iRng1 ta) g tb D σ H := by
  refine mono _ _ (fun vs H1 h => ?_) q
  obtain ⟨n, rfl, h1, h2, Pv, p0, ps, pd⟩ := h
  refine ⟨n, rfl, h1, h2, for_range (lo := 0) (n := n.toNat) Pv p0 (fun i σ' H' hi p => ?_) pd⟩
  have e0 : (0 : Int) + (i : Int) = (i : Int) := Int.zero_add _
  rw [e0]
  exact ps i σ' H' (by omega) p
theorem w_for {wi : TI} (q : wi σ H fun J H1 => ∃ W : Nat → Nat → L2.St → Hp → Prop, (∃ m, W 0 m σ H1) ∧ ∀ i m σ H, W i m σ H →
  (J.stop i H ∧ D.nx σ H) ∨ (J.go i H ∧ ∃ N : L2.St → Hp → Prop, (∀ σ' H', N σ' H' → ∃ m', m' < m ∧ W (i + 1) m' σ' H') ∧ ∀ x H', J.yld i H x H' → g x σ H' fun σ2 H2 => tb { D with nx := N, ct := N, bk := D.nx } σ2 H2)) : tFor wi g tb D σ H := q
theorem w_iRng1 {R : It → Hp → Prop} (q : ta σ H fun vs H1 => ∃ j : Int, vs = [.int j] ∧ -(2 ^ 62) ≤ j ∧ j < 2 ^ 62 ∧ R (Itr 0 j.toNat) H1) : iRng1 ta σ H R := q
theorem w_iRng2 {R : It → Hp → Prop} (q : ta σ H fun vs H1 => ∃ i j : Int, vs = [.int i, .int j] ∧ (-(2 ^ 62) ≤ i ∧ i < 2 ^ 62 ∧ -(2 ^ 62) ≤ j ∧ j < 2 ^ 62) ∧ R (Itr i (j - i).toNat) H1) : iRng2 ta σ H R := q
theorem w_iList {R : It → Hp → Prop} (q : te σ H fun x H1 => ∃ a, x = .ref a ∧ (∃ xs, SqL K H1 a xs) ∧ R (Itl K a) H1) : iList K te σ H R := q
theorem w_iTup {R : It → Hp → Prop} (q : te σ H fun x H1 => ∃ a, x = .ref a ∧ (∃ xs, SqT K H1 a xs) ∧ R (Itt K a) H1) : iTup K te σ H R := q
theorem w_iStr {R : It → Hp → Prop} (q : te σ H fun v H1 => ∃ x, v = .str x ∧ R (Its x) H1) : iStr te σ H R := q
/-- the end of iRng1's reading in a for -/
theorem w_rng {n : Int} (h1 : -(2 ^ 62) ≤ n) (h2 : n < 2 ^ 62) (Pv : Nat → L2.St → Hp → Prop) (p0 : Pv 0 σ H)
    (ps : ∀ (i : Nat) σ H, (i : Int) < n → Pv i σ H → g (.int (i : Int)) σ H fun σ2 H2 => tb { D with nx := Pv (i + 1), ct := Pv (i + 1), bk := D.nx } σ2 H2) (pd : ∀ σ H, Pv n.toNat σ H → D.nx σ H) :
    ∃ j : Int, [V.int n] = [.int j] ∧ -(2 ^ 62) ≤ j ∧ j < 2 ^ 62 ∧ ∃ W : Nat → Nat → L2.St → Hp → Prop, (∃ m, W 0 m σ H) ∧ ∀ i m σ H, W i m σ H →
  ((Itr 0 j.toNat).stop i H ∧ D.nx σ H) ∨ ((Itr 0 j.toNat).go i H ∧ ∃ N : L2.St → Hp → Prop, (∀ σ' H', N σ' H' → ∃ m', m' < m ∧ W (i + 1) m' σ' H') ∧ ∀ x H', (Itr 0 j.toNat).yld i H x H' → g x σ H' fun σ2 H2 => tb { D with nx := N, ct := N, bk := D.nx } σ2 H2) := by
  refine ⟨n, rfl, h1, h2, for_range (lo := 0) (n := n.toNat) Pv p0 (fun i σ' H' hi p => ?_) pd⟩
  have e0 : (0 : Int) + (i : Int) = (i : Int) := Int.zero_add _
  rw [e0]
  exact ps i σ' H' (by omega) p
/-- the end of iList's reading in a for -/
theorem w_lstF {a : Addr} {xs : List V} (hx : SqL K H a xs) (Pv : Nat → L2.St → Hp → Prop) (p0 : Pv 0 σ H) (hl : ∀ i σ H, i ≤ xs.length → Pv i σ H → SqL K H a xs)
    (ps : ∀ i x σ H, xs[i]? = some x → Pv i σ H → g x σ H fun σ2 H2 => tb { D with nx := Pv (i + 1), ct := Pv (i + 1), bk := D.nx } σ2 H2) (pd : ∀ σ H, Pv xs.length σ H → D.nx σ H) :
    ∃ b, V.ref a = .ref b ∧ (∃ xs, SqL K H b xs) ∧ ∃ W : Nat → Nat → L2.St → Hp → Prop, (∃ m, W 0 m σ H) ∧ ∀ i m σ H, W i m σ H →
  ((Itl K b).stop i H ∧ D.nx σ H) ∨ ((Itl K b).go i H ∧ ∃ N : L2.St → Hp → Prop, (∀ σ' H', N σ' H' → ∃ m', m' < m ∧ W (i + 1) m' σ' H') ∧ ∀ x H', (Itl K b).yld i H x H' → g x σ H' fun σ2 H2 => tb { D with nx := N, ct := N, bk := D.nx } σ2 H2) :=
  ⟨a, rfl, ⟨xs, hx⟩, for_list (xs := xs) Pv p0 hl ps pd⟩
end
/-! ### comprehensions whose element and test leave all that was tracked -/
section
variable {K : PySem.W.Frag} {σ : L2.St} {H : Hp} {Q : VK} {te : TE} {tt : TT} {vs : List Nat} {g : TG}
theorem lc_fm {Qd : Addr → Hp → Prop} {J : It} {its : List V} {G : Hp → Prop} {Y : Nat → Hp → V → Hp → Prop} (w : Walk J its.length G Y) (hy : ∀ i H x H', i < its.length → Y i H x H' → H' = H ∧ its[i]? = some x)
    (hG : ∀ H1, Same H H1 → G H1) (f : V → V) (k : V → Bool) (bind : V → L2.St)
    (hg : ∀ x H1 (R : L2.St → Hp → Prop), R (bind x) H1 → g x (wipe σ vs) H1 R) (hw : ∀ x, wipe (bind x) vs = wipe σ vs)
    (ht : ∀ x ∈ its, ∀ H1, Same H H1 → ∀ R : Bool → Hp → Prop, (∀ H2, Same H1 H2 → R (k x) H2) → tt (bind x) H1 R)
    (he : ∀ x ∈ its, k x = true → ∀ H1, Same H H1 → ∀ R : VK, (∀ H2, Same H1 H2 → R (f x) H2) → te (bind x) H1 R)
    (hlen : its.length < sizeLine) (q : ∀ D H1, H D = none → Same H H1 → H1 D = some (.lst ((its.filter k).map f)) → Qd D H1) :
    ∀ D, H D = none → ∃ W : Nat → Nat → Hp → Prop, (∃ m, W 0 m (upd H D (.lst []))) ∧ ∀ i m H, W i m H →
  (J.stop i H ∧ Qd D H) ∨ (J.go i H ∧ ∃ Nx : Hp → Prop, (∀ H', Nx H' → ∃ m', m' < m ∧ W (i + 1) m' H') ∧ ∀ x H', J.yld i H x H' → g x (wipe σ vs) H' fun σ2 H2 => wipe σ2 vs = wipe σ vs ∧ tt σ2 H2 fun b H3 =>
    if b = true then te σ2 H3 fun y H4 => ∃ acc, H4 D = some (.lst acc) ∧ acc.length < sizeLine ∧ Nx (upd H4 D (.lst (acc ++ [y]))) else Nx H3) := by
  intro D hD
  refine lc_it w (Pv := fun i H' => Same H H' ∧ H' D = some (.lst (((its.take i).filter k).map f))) ⟨Same.upd (Same.refl H) hD, upd_same⟩ (fun i H' _ p => hG H' p.1) (fun i x H' H'' hi p y => ?_) (fun H' p => ?_)
  · obtain ⟨e, hx⟩ := hy i H' x H'' hi y
    subst e
    obtain ⟨s, hD'⟩ := p
    have hm : x ∈ its := List.mem_of_getElem? hx
    have et : its.take (i + 1) = its.take i ++ [x] := by rw [List.take_add_one, hx]; rfl
    refine hg x H'' _ ⟨hw x, ht x hm H'' s _ fun H2 s2 => ?_⟩
    cases hk : k x with
    | true =>
      rw [if_pos rfl]
      refine he x hm hk H2 (s.trans s2) _ fun H3 s3 => ?_
      have hD3 : H3 D = some (.lst (((its.take i).filter k).map f)) := s3 _ _ (s2 _ _ hD')
      refine ⟨_, hD3, ?_, ?_, ?_⟩
      · rw [List.length_map]
        have h1 := List.length_filter_le k (its.take i)
        have h2 : (its.take i).length ≤ its.length := by rw [List.length_take]; omega
        omega
      · exact fun b o e => by
          rw [upd_ne (ne_of_none e hD)]
          exact s3 _ _ (s2 _ _ (s _ _ e))
      · rw [upd_same, et, List.filter_append, List.map_append, List.filter_cons_of_pos hk]
        rfl
    | false =>
      rw [if_neg (by decide)]
      refine ⟨s.trans s2, ?_⟩
      rw [et, List.filter_append, List.filter_cons_of_neg (by simp [hk]), List.filter_nil, List.append_nil]
      exact s2 _ _ hD'
  · obtain ⟨s, hD'⟩ := p
    rw [List.take_length] at hD'
    exact q D H' hD s hD'
/-- over a text, one name bound -/
def sgns (z : Str) : List V := z.cps.toList.map fun c => V.str ⟨#[c]⟩
theorem sgns_len {z : Str} : (sgns z).length = z.cps.size := by unfold sgns; simp
theorem w_lc {wi : TI} (q : wi σ H fun J H1 => ∀ D, H1 D = none → ∃ W : Nat → Nat → Hp → Prop, (∃ m, W 0 m (upd H1 D (.lst []))) ∧ ∀ i m H, W i m H →
  (J.stop i H ∧ Q (.ref D) H) ∨ (J.go i H ∧ ∃ Nx : Hp → Prop, (∀ H', Nx H' → ∃ m', m' < m ∧ W (i + 1) m' H') ∧ ∀ x H', J.yld i H x H' → g x (wipe σ vs) H' fun σ2 H2 => wipe σ2 vs = wipe σ vs ∧ tt σ2 H2 fun b H3 =>
    if b = true then te σ2 H3 fun y H4 => ∃ acc, H4 D = some (.lst acc) ∧ acc.length < sizeLine ∧ Nx (upd H4 D (.lst (acc ++ [y]))) else Nx H3)) : tLc wi g tt te vs σ H Q := q
theorem lcStr {Qd : Addr → Hp → Prop} {z : Str} {i : Nat} (hz : z.length ≤ 100000) (f : V → V) (k : V → Bool) (hw : ∀ x, wipe ((wipe σ vs).set i (some x)) vs = wipe σ vs)
    (ht : ∀ x ∈ sgns z, ∀ H1, Same H H1 → ∀ R : Bool → Hp → Prop, (∀ H2, Same H1 H2 → R (k x) H2) → tt ((wipe σ vs).set i (some x)) H1 R)
    (he : ∀ x ∈ sgns z, k x = true → ∀ H1, Same H H1 → ∀ R : VK, (∀ H2, Same H1 H2 → R (f x) H2) → te ((wipe σ vs).set i (some x)) H1 R)
    (q : ∀ D H1, H D = none → Same H H1 → H1 D = some (.lst (((sgns z).filter k).map f)) → Qd D H1) :
    ∀ D, H D = none → ∃ W : Nat → Nat → Hp → Prop, (∃ m, W 0 m (upd H D (.lst []))) ∧ ∀ j m H, W j m H →
  ((Its z).stop j H ∧ Qd D H) ∨ ((Its z).go j H ∧ ∃ Nx : Hp → Prop, (∀ H', Nx H' → ∃ m', m' < m ∧ W (j + 1) m' H') ∧ ∀ x H', (Its z).yld j H x H' → gName i x (wipe σ vs) H' fun σ2 H2 => wipe σ2 vs = wipe σ vs ∧ tt σ2 H2 fun b H3 =>
    if b = true then te σ2 H3 fun y H4 => ∃ acc, H4 D = some (.lst acc) ∧ acc.length < sizeLine ∧ Nx (upd H4 D (.lst (acc ++ [y]))) else Nx H3) := by
  have hl : (sgns z).length < sizeLine := by
    rw [sgns_len]
    exact Nat.lt_of_le_of_lt hz (by decide)
  refine lc_fm (its := sgns z) (by rw [sgns_len]; exact walk_str) (fun j H x H' hj y => ?_) (fun _ _ => trivial) f k (fun x => (wipe σ vs).set i (some x)) (fun x H1 R r => r) hw ht he hl q
  obtain ⟨e, c, hc, rfl⟩ := y
  refine ⟨e, ?_⟩
  unfold sgns
  rw [List.getElem?_map, Array.getElem?_toList, hc]
  rfl
theorem lcL {Qd : Addr → Hp → Prop} {a : Addr} {its : List V} {i : Nat} (hS : ∀ H1, Same H H1 → SqL K H1 a its) (hl : its.length < sizeLine) (f : V → V) (k : V → Bool) (hw : ∀ x, wipe ((wipe σ vs).set i (some x)) vs = wipe σ vs)
    (ht : ∀ x ∈ its, ∀ H1, Same H H1 → ∀ R : Bool → Hp → Prop, (∀ H2, Same H1 H2 → R (k x) H2) → tt ((wipe σ vs).set i (some x)) H1 R)
    (he : ∀ x ∈ its, k x = true → ∀ H1, Same H H1 → ∀ R : VK, (∀ H2, Same H1 H2 → R (f x) H2) → te ((wipe σ vs).set i (some x)) H1 R)
    (q : ∀ D H1, H D = none → Same H H1 → H1 D = some (.lst ((its.filter k).map f)) → Qd D H1) :
    ∃ b, V.ref a = .ref b ∧ (∃ xs, SqL K H b xs) ∧ ∀ D, H D = none → ∃ W : Nat → Nat → Hp → Prop, (∃ m, W 0 m (upd H D (.lst []))) ∧ ∀ j m H, W j m H →
  ((Itl K b).stop j H ∧ Qd D H) ∨ ((Itl K b).go j H ∧ ∃ Nx : Hp → Prop, (∀ H', Nx H' → ∃ m', m' < m ∧ W (j + 1) m' H') ∧ ∀ x H', (Itl K b).yld j H x H' → gName i x (wipe σ vs) H' fun σ2 H2 => wipe σ2 vs = wipe σ vs ∧ tt σ2 H2 fun b H3 =>
    if b = true then te σ2 H3 fun y H4 => ∃ acc, H4 D = some (.lst acc) ∧ acc.length < sizeLine ∧ Nx (upd H4 D (.lst (acc ++ [y]))) else Nx H3) :=
  ⟨a, rfl, ⟨its, hS H (Same.refl H)⟩, lc_fm (its := its) walk_list (fun j H x H' hj y => y) hS f k (fun x => (wipe σ vs).set i (some x)) (fun x H1 R r => r) hw ht he hl q⟩
theorem lcT {Qd : Addr → Hp → Prop} {a : Addr} {its : List V} {i : Nat} (hS : ∀ H1, Same H H1 → SqT K H1 a its) (hl : its.length < sizeLine) (f : V → V) (k : V → Bool) (hw : ∀ x, wipe ((wipe σ vs).set i (some x)) vs = wipe σ vs)
    (ht : ∀ x ∈ its, ∀ H1, Same H H1 → ∀ R : Bool → Hp → Prop, (∀ H2, Same H1 H2 → R (k x) H2) → tt ((wipe σ vs).set i (some x)) H1 R)
    (he : ∀ x ∈ its, k x = true → ∀ H1, Same H H1 → ∀ R : VK, (∀ H2, Same H1 H2 → R (f x) H2) → te ((wipe σ vs).set i (some x)) H1 R)
    (q : ∀ D H1, H D = none → Same H H1 → H1 D = some (.lst ((its.filter k).map f)) → Qd D H1) :
    ∃ b, V.ref a = .ref b ∧ (∃ xs, SqT K H b xs) ∧ ∀ D, H D = none → ∃ W : Nat → Nat → Hp → Prop, (∃ m, W 0 m (upd H D (.lst []))) ∧ ∀ j m H, W j m H →
  ((Itt K b).stop j H ∧ Qd D H) ∨ ((Itt K b).go j H ∧ ∃ Nx : Hp → Prop, (∀ H', Nx H' → ∃ m', m' < m ∧ W (j + 1) m' H') ∧ ∀ x H', (Itt K b).yld j H x H' → gName i x (wipe σ vs) H' fun σ2 H2 => wipe σ2 vs = wipe σ vs ∧ tt σ2 H2 fun b H3 =>
    if b = true then te σ2 H3 fun y H4 => ∃ acc, H4 D = some (.lst acc) ∧ acc.length < sizeLine ∧ Nx (upd H4 D (.lst (acc ++ [y]))) else Nx H3) :=
  ⟨a, rfl, ⟨its, hS H (Same.refl H)⟩, lc_fm (its := its) walk_tup (fun j H x H' hj y => y) hS f k (fun x => (wipe σ vs).set i (some x)) (fun x H1 R r => r) hw ht he hl q⟩
theorem w_exs {z : Str} {R : Str → Prop} (q : R z) : ∃ x, V.str z = .str x ∧ R x := ⟨z, rfl, q⟩
theorem w_lcStr {z : Str} {tz : TE} {i : Nat} (hz : z.length ≤ 100000) (f : V → V) (k : V → Bool)
    (hq : ∀ R : It → Hp → Prop, R (Its z) H → iStr tz σ H R) (hw : ∀ x, wipe ((wipe σ vs).set i (some x)) vs = wipe σ vs)
    (ht : ∀ x ∈ sgns z, ∀ H1, Same H H1 → ∀ R : Bool → Hp → Prop, (∀ H2, Same H1 H2 → R (k x) H2) → tt ((wipe σ vs).set i (some x)) H1 R)
    (he : ∀ x ∈ sgns z, k x = true → ∀ H1, Same H H1 → ∀ R : VK, (∀ H2, Same H1 H2 → R (f x) H2) → te ((wipe σ vs).set i (some x)) H1 R)
    (q : ∀ D H1, H D = none → Same H H1 → H1 D = some (.lst (((sgns z).filter k).map f)) → Q (.ref D) H1) :
    tLc (iStr tz) (gName i) tt te vs σ H Q := hq _ (lcStr hz f k hw ht he q)
theorem w_all {a : Addr} {bs : List Bool} (h : SqL K H a (bs.map V.bl)) (q : Q (.bl (bs.all id)) H) : rAll K [.ref a] H Q := ⟨a, bs, rfl, h, q⟩
end
end Wp

namespace Wp
open PySem PySem.Spec PyProof.Rows L2 TyNe

/-! ### what an expression yields, as data, while one stream at p is drawn from -/
def EvS (p : Addr) (te : TE) (σ : L2.St) (H : Hp) (P : PyData → Prop) : Prop := ∀ H1, Kp p H H1 → Stm H1 p → ∀ Q : VK, (∀ v d H2, Kp p H1 H2 → Stm H2 p → P d → Dn (Off p) H2 v d → Q v H2) → te σ H1 Q
def EvSs (p : Addr) (ta : TA) (σ : L2.St) (H : Hp) (P : List PyData → Prop) : Prop := ∀ H1, Kp p H H1 → Stm H1 p → ∀ Q : List V → Hp → Prop, (∀ vs ds H2, Kp p H1 H2 → Stm H2 p → P ds → DnAll (Off p) H2 vs ds → Q vs H2) → ta σ H1 Q
section
variable {p : Addr} {te : TE} {ta : TA} {σ : L2.St} {H : Hp} {P P' : PyData → Prop} {R : List PyData → Prop}
theorem EvS.weak (h : EvS p te σ H P) (k : ∀ d, P d → P' d) : EvS p te σ H P' := fun H1 a s Q q => h H1 a s Q fun v d H2 b s' x y => q v d H2 b s' (k d x) y
theorem EvSs.weak {R' : List PyData → Prop} (h : EvSs p ta σ H R) (k : ∀ d, R d → R' d) : EvSs p ta σ H R' := fun H1 a s Q q => h H1 a s Q fun v d H2 b s' x y => q v d H2 b s' (k d x) y
theorem evs_non (h : P .none) : EvS p (tC .non) σ H P := fun H1 _ s Q q => q _ _ H1 Kp.refl s h .non
theorem evs_bl {b : Bool} (h : P (.bool b)) : EvS p (tC (.bl b)) σ H P := fun H1 _ s Q q => q _ _ H1 Kp.refl s h (.bl b)
theorem evs_int {i : Int} (h : P (.int i)) : EvS p (tC (.int i)) σ H P := fun H1 _ s Q q => q _ _ H1 Kp.refl s h (.int i)
theorem evs_str {x : Str} (h : P (.str x)) : EvS p (tC (.str x)) σ H P := fun H1 _ s Q q => q _ _ H1 Kp.refl s h (.str x)
theorem evs_var {i : Nat} {v : V} {d : PyData} (e : σ[i]? = some (some v)) (hd : Dn (Off p) H v d) (h : P d) : EvS p (tVar i) σ H P := fun H1 k s Q q => ⟨v, e, q v d H1 Kp.refl s h (hd.kp k)⟩
theorem evss_nil (h : R []) : EvSs p tNil σ H R := fun H1 _ s Q q => q _ _ H1 Kp.refl s h .nil
theorem evss_cons {R' : List PyData → Prop} (h : EvS p te σ H P) (hs : EvSs p ta σ H R) (k : ∀ d r, P d → R r → R' (d :: r)) : EvSs p (tCons te ta) σ H R' := fun H1 a s Q q =>
  h H1 a s _ fun v d H2 b s2 x y => hs H2 (a.trans b) s2 _ fun vs ds H3 c s3 xs ys => q (v :: vs) (d :: ds) H3 (b.trans c) s3 (k d ds x xs) (.cons (y.kp c) ys)
theorem evs_tup (h : EvSs p ta σ H R) (k : ∀ ds, R ds → ds.length ≤ 100000 ∧ P (.tuple ds)) : EvS p (tTup ta) σ H P := fun H1 a s Q q =>
  h H1 a s _ fun vs ds H2 b s2 x y => ⟨sz (by rw [y.len]; exact (k ds x).1), fun t ht => by
    have hn : t ≠ p := (Stm.ne s2 ht)
    exact q (.ref t) (.tuple ds) _ (b.upd (b.free hn ht)) (s2.up ht) (k ds x).2 (.tup hn upd_same (y.step fun c o n e => by rw [upd_ne (ne_of_none e ht)]; exact e))⟩
theorem evs_lst (h : EvSs p ta σ H R) (k : ∀ ds, R ds → ds.length ≤ 100000 ∧ P (.list ds)) : EvS p (tLst ta) σ H P := fun H1 a s Q q =>
  h H1 a s _ fun vs ds H2 b s2 x y => ⟨sz (by rw [y.len]; exact (k ds x).1), fun t ht => by
    have hn : t ≠ p := (Stm.ne s2 ht)
    exact q (.ref t) (.list ds) _ (b.upd (b.free hn ht)) (s2.up ht) (k ds x).2 (.lst hn upd_same (y.step fun c o n e => by rw [upd_ne (ne_of_none e ht)]; exact e))⟩
theorem evs_dnew (h : P (.dict [])) : EvS p tDNewK σ H P := fun H1 a s Q q t ht =>
  have hn : t ≠ p := (Stm.ne s ht)
  q (.ref t) (.dict []) _ (Kp.refl.upd ht) (s.up ht) h (.dic hn upd_same)
theorem evs_disp1 {k : Str} {v : Int} (h : P (.dict [])) : EvS p (tDisp [(tC (.str k), tC (.int v))]) σ H P := fun H1 a s Q q t ht =>
  have hn : t ≠ p := (Stm.ne s ht)
  ⟨upd_same, [(Sum.inr k, .int v)], rfl, (show 1 ≤ 15 by decide), q (.ref t) (.dict []) _ ((Kp.refl.upd ht).upd ht) (by
    obtain ⟨x, y, e, r⟩ := s
    exact ⟨x, y, by rw [upd_ne (ne_of_none e ht), upd_ne (ne_of_none e ht)]; exact e, r⟩) h (.dic hn upd_same)⟩
theorem evs_call {sp : Sp} (h : ∀ vs ds H1, Kp p H H1 → Stm H1 p → R ds → DnAll (Off p) H1 vs ds → ∀ Q : VK, (∀ v d H2, Kp p H1 H2 → Stm H2 p → P d → Dn (Off p) H2 v d → Q v H2) → sp vs H1 Q C8.E0) (ha : EvSs p ta σ H R) : EvS p (tCall sp [] C8.E0 ta) σ H P := fun H1 a s Q q =>
  ha H1 a s _ fun vs ds H2 b s2 x y => by
    show sp (vs ++ []) H2 Q C8.E0
    rw [List.append_nil]
    exact h vs ds H2 (a.trans b) s2 x y Q fun v d H3 c s3 x3 y3 => q v d H3 (b.trans c) s3 x3 y3
/-- used in a reading -/
theorem EvS.use {Q : VK} (h : EvS p te σ H P) (s : Stm H p) (q : ∀ v d H2, Kp p H H2 → Stm H2 p → P d → Dn (Off p) H2 v d → Q v H2) : te σ H Q := h H Kp.refl s Q q
theorem EvSs.use {Q : List V → Hp → Prop} (h : EvSs p ta σ H R) (s : Stm H p) (q : ∀ vs ds H2, Kp p H H2 → Stm H2 p → R ds → DnAll (Off p) H2 vs ds → Q vs H2) : ta σ H Q := h H Kp.refl s Q q
end
end Wp

namespace Wp
open PySem PySem.Spec PyProof.Rows L2 TyNe

/-! ### text * int -/
abbrev qMulS : R2 := fun x y H Q => ∃ (z : Str) (n : Int), x = .str z ∧ y = .int n ∧ MulOk z n ∧ Q (.str (Txt.mul z n)) H
theorem op_mulS {X : Cx} : OpR X (binaryOp .Mult) qMulS := by
  intro pins s σ H x y v u Q I rx ry h
  obtain ⟨i, j, rfl, rfl, hz, q⟩ := h
  obtain ⟨t, rfl⟩ := rx
  obtain ⟨t', rfl⟩ := ry
  exact SB.mul hz fun t' k => ⟨.str (Txt.mul i j), H, I.tok _, ⟨_, rfl⟩, q⟩
theorem foldl_size : ∀ (l : List (Array Nat)) (a : Array Nat), (l.foldl (· ++ ·) a).size = a.size + (l.map Array.size).sum
  | [], a => by simp
  | x :: l, a => by
    rw [List.foldl_cons, foldl_size l, Array.size_append, List.map_cons, List.sum_cons]
    omega
theorem rep_sum (n k : Nat) : ((List.replicate n k) : List Nat).sum = n * k := by
  induction n with
  | zero => simp
  | succ n ih => rw [List.replicate_succ, List.sum_cons, ih, Nat.succ_mul, Nat.add_comm]
theorem mul_len (x : Str) {n : Int} (h : 0 ≤ n) : (Txt.mul x n).length ≤ x.length * n.toNat := by
  unfold Txt.mul
  by_cases h1 : n < 1
  · rw [if_pos h1]
    exact Nat.zero_le _
  · rw [if_neg h1]
    by_cases h2 : (n == 1 || x.length == 0) = true
    · rw [if_pos h2]
      have : 1 ≤ n.toNat := by omega
      exact Nat.le_mul_of_pos_right _ this
    · rw [if_neg h2]
      show ((List.replicate n.toNat x.cps).foldl (· ++ ·) (#[] : Array Nat)).size ≤ _
      rw [foldl_size, List.map_replicate, rep_sum]
      show 0 + n.toNat * x.cps.size ≤ x.cps.size * n.toNat
      rw [Nat.zero_add, Nat.mul_comm]
      exact Nat.le_refl _
theorem mulOk {x : Str} {n : Int} (h0 : 0 ≤ n) (h1 : n ≤ 1000) (hx : x.length ≤ 10000) : MulOk x n := by
  refine ⟨?_, fun a b => ?_, fun a b => ?_⟩
  · rw [decide_eq_false (by omega), decide_eq_false (by omega)]
    rfl
  · have e : (2 ^ 63 - 1 : Int) / n ≥ (2 ^ 63 - 1 : Int) / 1000 := by
      rw [ge_iff_le, Int.le_ediv_iff_mul_le (by omega)]
      have e2 : (2 ^ 63 - 1 : Int) / 1000 = 9223372036854775 := by decide
      rw [e2]
      have := Int.mul_le_mul_of_nonneg_left h1 (show (0 : Int) ≤ 9223372036854775 by decide)
      omega
    have e2 : (2 ^ 63 - 1 : Int) / 1000 = 9223372036854775 := by decide
    omega
  · unfold Builtin.Str.tooLong
    have h2 : n.toNat ≤ 1000 := by omega
    have h3 : x.length * n.toNat ≤ 10000 * 1000 := Nat.mul_le_mul hx h2
    exact decide_eq_false (by
      have : (10000 * 1000 : Nat) ≤ sizeLine := by decide
      omega)
section
variable {H : Hp} {Q : VK}
theorem w_mulS {z : Str} {n : Int} (h0 : 0 ≤ n) (h1 : n ≤ 1000) (hx : z.length ≤ 10000) (q : (Txt.mul z n).length ≤ z.length * n.toNat → Q (.str (Txt.mul z n)) H) : qMulS (.str z) (.int n) H Q := ⟨z, n, rfl, rfl, mulOk h0 h1 hx, q (mul_len z h0)⟩
end

/-! ### the place of a sign -/
abbrev q_rfind4 : V → List V → Hp → VK → Prop := fun x xs H Q => ∃ (a b : Str) (i j : Int), x = .str a ∧ xs = [.str b, .int i, .int j] ∧ Q (.int (Txt.rfindIn a b i j)) H
abbrev q_find3 : V → List V → Hp → VK → Prop := fun x xs H Q => ∃ (a b : Str) (i : Int), x = .str a ∧ xs = [.str b, .int i] ∧ Q (.int (Txt.find3 a b i)) H
open Builtin Builtin.Str StrLaws in
theorem at_one {x : Str} {c hi i : Nat} (h : hi ≤ x.length) : At x ⟨#[c]⟩ hi i ↔ i < hi ∧ x.cps.toList[i]? = some c := by
  have e : (⟨#[c]⟩ : Str).length = 1 := rfl
  constructor
  · rintro ⟨h1, h2⟩
    rw [e] at h1
    exact ⟨by omega, (subAt_one x c i).mp ⟨by rw [e]; omega, h2⟩⟩
  · rintro ⟨h1, h2⟩
    exact ⟨by rw [e]; omega, ((subAt_one x c i).mpr h2).2⟩
open Builtin Builtin.Str StrLaws in
/-- the last c in [lo, hi) -/
theorem last_one (x : Str) (c lo hi : Nat) (h : hi ≤ x.length) : (lastOccurrence x ⟨#[c]⟩ lo hi = none ∧ ∀ i, lo ≤ i → i < hi → x.cps.toList[i]? ≠ some c) ∨
    ∃ i, lastOccurrence x ⟨#[c]⟩ lo hi = some i ∧ lo ≤ i ∧ i < hi ∧ x.cps.toList[i]? = some c ∧ ∀ k, i < k → k < hi → x.cps.toList[k]? ≠ some c := by
  rw [last_eq]
  have key := last_run x ⟨#[c]⟩ hi (List.range' lo (hi + 1 - lo)) [] none (fun _ h => nomatch h) (fun _ h => nomatch h) (by simpa using List.pairwise_lt_range' (s := lo) (n := hi + 1 - lo))
  have mem : ∀ i, lo ≤ i → i < hi → i ∈ [] ++ List.range' lo (hi + 1 - lo) := fun i h1 h2 => by
    simp [List.mem_range']
    exact ⟨i - lo, by omega, by omega⟩
  cases hr : (forIn (List.range' lo (hi + 1 - lo)) none (lastBody x ⟨#[c]⟩ hi)).run with
  | none =>
    rw [hr] at key
    exact .inl ⟨rfl, fun i h1 h2 e => key i (mem i h1 h2) ((at_one h).mpr ⟨h2, e⟩)⟩
  | some a =>
    rw [hr] at key
    have ka := (at_one h).mp key.1
    refine .inr ⟨a, rfl, ?_, ka.1, ka.2, fun k h1 h2 e => ?_⟩
    · -- it was among the places looked at
      have hmem : ∀ (l : List Nat) (st : Option Nat) (r : Nat), (forIn l st (lastBody x ⟨#[c]⟩ hi)).run = some r → r ∈ l ∨ st = some r := by
        intro l
        induction l with
        | nil => intro st r e; exact .inr e
        | cons b l ih =>
          intro st r e
          rw [List.forIn_cons] at e
          unfold lastBody at e
          split at e
          · rcases ih _ _ e with hm | hm
            · exact .inl (List.mem_cons_of_mem _ hm)
            · exact .inl (by cases hm; exact List.mem_cons_self ..)
          · rcases ih _ _ e with hm | hm
            · exact .inl (List.mem_cons_of_mem _ hm)
            · exact .inr hm
      rcases hmem _ _ _ hr with hm | hm
      · simp [List.mem_range'] at hm
        omega
      · exact nomatch hm
    · by_cases hk : lo ≤ k
      · exact key.2 k (mem k hk h2) h1 ((at_one h).mpr ⟨h2, e⟩)
      · exact key.2 k (by
          have hk2 : k < lo := by omega
          have : lo ≤ a := by
            have hmem : ∀ (l : List Nat) (st : Option Nat) (r : Nat), (forIn l st (lastBody x ⟨#[c]⟩ hi)).run = some r → r ∈ l ∨ st = some r := by
              intro l
              induction l with
              | nil => intro st r e; exact .inr e
              | cons b l ih =>
                intro st r e
                rw [List.forIn_cons] at e
                unfold lastBody at e
                split at e
                · rcases ih _ _ e with hm | hm
                  · exact .inl (List.mem_cons_of_mem _ hm)
                  · exact .inl (by cases hm; exact List.mem_cons_self ..)
                · rcases ih _ _ e with hm | hm
                  · exact .inl (List.mem_cons_of_mem _ hm)
                  · exact .inr hm
            rcases hmem _ _ _ hr with hm | hm
            · simp [List.mem_range'] at hm
              omega
            · exact nomatch hm
          omega) h1 ((at_one h).mpr ⟨h2, e⟩)
open Builtin Builtin.Str StrLaws in
/-- the first c from lo on -/
theorem first_one (x : Str) (c lo : Nat) : (occurrences x ⟨#[c]⟩ lo x.length 1 = [] ∧ ∀ i, lo ≤ i → x.cps.toList[i]? ≠ some c) ∨
    ∃ i r, occurrences x ⟨#[c]⟩ lo x.length 1 = i :: r ∧ lo ≤ i ∧ x.cps.toList[i]? = some c ∧ ∀ k, lo ≤ k → k < i → x.cps.toList[k]? ≠ some c := by
  rw [occ_eq]
  have inr : ∀ i c, x.cps.toList[i]? = some c → i < x.length := fun i c e => by
    have h := (List.getElem?_eq_some_iff.mp e).1
    simpa [Str.length] using h
  rcases occ_first x ⟨#[c]⟩ x.length 1 (Nat.le_refl _) (List.range' lo (x.length + 1 - lo)) lo (fun i hi => by simp [List.mem_range'] at hi; omega) with ⟨h0, hn⟩ | ⟨pre, a, post, e, h0, ha, hn⟩
  · refine .inl ⟨by rw [h0], fun i h1 e => ?_⟩
    have := inr i c e
    exact hn i (by simp [List.mem_range']; exact ⟨i - lo, by omega, by omega⟩) ((at_one (Nat.le_refl _)).mpr ⟨this, e⟩)
  · have hm : a ∈ List.range' lo (x.length + 1 - lo) := by rw [e]; simp
    have hlo : lo ≤ a := by simp [List.mem_range'] at hm; omega
    have ka := (at_one (Nat.le_refl _)).mp ha
    generalize hl : (forIn (List.range' lo (x.length + 1 - lo)) ((#[] : Array Nat), lo) (occBody x ⟨#[c]⟩ x.length 1)).run.fst = arr at h0
    rw [← Array.getElem?_toList] at h0
    cases hal : arr.toList with
    | nil => rw [hal] at h0; exact nomatch h0
    | cons b r =>
      rw [hal] at h0
      have hb : b = a := Option.some.inj h0
      subst hb
      refine .inr ⟨b, r, rfl, hlo, ka.2, fun k h1 h2 ek => ?_⟩
      have hk := inr k c ek
      refine hn k ?_ ((at_one (Nat.le_refl _)).mpr ⟨hk, ek⟩)
      have hp : (List.range' lo (x.length + 1 - lo)).Pairwise (· < ·) := by simpa using List.pairwise_lt_range' (s := lo) (n := x.length + 1 - lo)
      rw [e] at hp
      have hmk : k ∈ pre ++ b :: post := by rw [← e]; simp [List.mem_range']; exact ⟨k - lo, by omega, by omega⟩
      rcases List.mem_append.mp hmk with g | g
      · exact g
      · rcases List.mem_cons.mp g with g | g
        · omega
        · have := (List.pairwise_cons.mp (List.pairwise_append.mp hp).2.1).1 k g
          omega
end Wp

namespace Wp
open PySem PySem.Spec PyProof.Rows L2 TyNe

/-! ### a property of an own class -/
structure Prp (P : Program) (w : World) (K : PySem.W.Frag) (mg : Str → Option Value) (base : Heap) (k : Nat) (C : Addr) (m : Str) (sp : Sp) : Prop where
  ex : ∃ (f p : Addr) (fd : FuncData) (ps : List Str), Cls K C ∧ PropOf K C m p f ∧ FnOk P w K mg base C8.CX0 k f fd ps sp ∧ Binds K fd ps []
theorem prp0 {P : Program} {w : World} {K : PySem.W.Frag} {mg : Str → Option Value} {base : Heap} {m x qual : Str} {C p : Addr} {st : Stmt} {f : Addr} {fd : FuncData} {N ps : List Str} {k : Nat} {sp : Sp} (c : Cls K C) (hp : PropOf K C m p f) (F : C8.Fun K x qual st f fd) (b : Binds K fd ps []) (S : FnScope N ps (C8.fnScope st)) (len : ∀ vs H Q E, sp vs H Q E → vs.length = ps.length)
    (hbody : ∀ (cdv : Value) (A : Around) (outer : List Env) (s : Shared) (H : Hp) (vs : List V) (Q : VK) (E : XK), Room k (A.deeper (envOfC qual (C8.fnScope st) s.heap.objs.size f cdv)) → sp vs H Q E →
      ∃ t, PSs (cxOf C8.CX0 P w K mg base N qual (C8.fnScope st) f cdv A outer s H E).nox (C8.fnBody st) t ∧ t { nx := fun _ H' => Q .non H', rt := Q } (start N vs) H) : Prp P w K mg base (k + 1) C m sp :=
  ⟨f, p, fd, ps, c, hp, C8.fn0 F S len hbody, b⟩
theorem pe_pp {X : Cx} {k j : Nat} {C : Addr} {m : Str} {sp : Sp} {e : Expr} {pos : Pos} {ta : TE} (c : Prp X.prog X.w X.K X.mg X.base k C m sp) (hr : Room j X.A) (hk : k + 1 ≤ j) (he : PE X e ta)
    (hab : attributeBase e m X.env (eval e X.env) = eval e X.env) : PE X (.Attribute e m pos) (tProp C sp [] C8.E0 ta) := by
  obtain ⟨f, p, fd, ps, hc, hp, F, b⟩ := c.ex
  exact pe_prop he hc hp F (hr.mono hk) b .nil C8.pass0 hab
theorem hu1 {j : Nat} {A : Around} (hr : Room j A) : A.units + 1 < cLine := by
  have := hr.units
  omega
abbrev qSortedD : List V → Hp → VK → Prop := fun xs H Q => ∃ (a : Addr) (kvs : List (Key × V)) (ks : List Str), xs = [.ref a] ∧ Rd H a (.dK kvs) ∧ kvs.map (·.1) = ks.map Sum.inr ∧ ks.length < 64 ∧
    ∀ ys p, ys.Perm ks → sortedS ys = true → H p = none → Q (.ref p) (upd H p (.lst (ys.map V.str)))

section
variable {K : PySem.W.Frag} {σ : L2.St} {H : Hp} {v : V} {Q : VK} {D : Ends} {te ta td ty tv tx : TE}
theorem w_yes {R : Bool → Hp → Prop} (q : R true H) : tYes σ H R := q
theorem iteT_ {A B : Prop} (q : A) : if (true : Bool) = true then A else B := q
theorem gc {t : TG} {u : TGs} {v : V} {r : List V} {Q : L2.St → Hp → Prop} (q : t v σ H fun σ' H' => u r σ' H' Q) : gCons t u (v :: r) σ H Q := ⟨v, r, rfl, q⟩
theorem gn {Q : L2.St → Hp → Prop} (q : Q σ H) : gNil [] σ H Q := ⟨rfl, q⟩
theorem w_fld {f : Str} (q : ta σ H fun x H1 => ∃ a C dx fs v, x = .ref a ∧ H1 a = some (.ins C dx fs) ∧ Cls K C ∧ NoAttr K C f ∧ fs.lookup f = some v ∧ Q v H1) : tFld K ta f σ H Q := q
theorem w_prop {C : Addr} {sp : Sp} {dvs : List V} {E : XK} (q : ta σ H fun x H1 => ∃ a dx fs, x = .ref a ∧ H1 a = some (.ins C dx fs) ∧ sp (.ref a :: dvs) H1 Q E) : tProp C sp dvs E ta σ H Q := q
theorem w_meth {C : Addr} {m : Str} {sp : Sp} {dvs : List V} {E : XK} {t : TA} (q : ta σ H fun x H1 => ∃ a dx fs, x = .ref a ∧ H1 a = some (.ins C dx fs) ∧ fs.lookup m = none ∧ t σ H1 fun vs H2 => sp (x :: (vs ++ dvs)) H2 Q E) : tMeth C m sp dvs E ta t σ H Q := q
theorem w_make {C : Addr} {sp : Sp} {dvs : List V} {E : XK} {t : TA} (q : t σ H fun vs H1 => ∀ x dx, H1 x = none → H1 dx = none → dx ≠ x → sp (.ref x :: (vs ++ dvs)) (upd (upd H1 dx (.own x)) x (.ins C dx [])) (fun v H2 => v = .non ∧ Q (.ref x) H2) E) : tMake C sp dvs E t σ H Q := q
theorem w_dget (q : td σ H fun x H1 => ty σ H1 fun y H2 => ∃ a v, x = .ref a ∧ DGet H2 a y (some v) ∧ Q v H2) : tDGet td ty σ H Q := q
theorem w_dget2 (q : td σ H fun x H1 => ∃ a, x = .ref a ∧ IsD H1 a ∧ ty σ H1 fun y H2 => tx σ H2 fun z H3 => ∃ o, DGet H3 a y o ∧ Q (o.getD z) H3) : tDGet2 td ty tx σ H Q := q
theorem w_dput (q : tv σ H fun v H1 => td σ H1 fun x H2 => ty σ H2 fun y H3 => ∃ a H4, x = .ref a ∧ DPut H3 a y v H4 ∧ D.nx σ H4) : sDPut td ty tv D σ H := q
theorem w_sfld {f : Str} (q : tv σ H fun y H1 => ta σ H1 fun x H2 => ∃ a C dx fs, x = .ref a ∧ H2 a = some (.ins C dx fs) ∧ Cls K C ∧ NoAttr K C f ∧ fs.length < 1000 ∧ D.nx σ (upd H2 a (.ins C dx (putF f y fs)))) : sFld K ta tv f D σ H := q
end
end Wp

namespace Wp
open PySem PySem.Spec PyProof.Rows L2 TyNe He

/-! ### a dict of the module with text keys, asked by get -/
structure MDict (K : PySem.W.Frag) (w : World) (d : Addr) (g : Str → Option V) : Prop where
  ex : ∃ es n, KDict K w d es n ∧ ∀ z, ∃ r, PySem.W.nsIn K d z = some r ∧ RelO (g z) r
/-- NAME.get(k, x) -/
def tKGet2 (g : Str → Option V) (ty tx : TE) : TE := fun σ H Q => ty σ H fun y H1 => tx σ H1 fun z H2 => ∃ w : Str, y = .str w ∧ Q ((g w).getD z) H2
theorem pe_kget2 {X : Cx} {d : Addr} {g : Str → Option V} {x : Str} {e f : Expr} {p apos cpos : Pos} {ty tx : TE} (M : MDict X.K X.w d g) (hg : Gl X x) (hm : X.mg x = some (.ref d)) (he : PE X e ty) (hf : PE X f tx)
    (m : M2 X (.Name x p) "get" apos e f cpos) (hd : (x == ("__debug__" : Str)) = false := by decide) : PE X (.Call (.Attribute (.Name x p) "get" apos) [e, f] [] cpos) (tKGet2 g ty tx) := by
  obtain ⟨es, n, D, hn⟩ := M.ex
  refine ⟨fun pins s σ H Q I h => ?_⟩
  refine wpAny_Call_method m.base m.few m.line PySem.F.plainAttrs_dict PySem.F.slot_dict_get PySem.F.type_dict_get (thn ((C8.pe_gc (pos := p) (v := .ref d) hg ⟨_, hm, rfl⟩ hd).run pins s σ H (fun v H1 => v = .ref d ∧ ty σ H1 fun y H1 => tx σ H1 fun z H2 => ∃ w : Str, y = .str w ∧ Q ((g w).getD z) H2) I ⟨rfl, h⟩) fun u s1 ⟨x, H1, I1, rx, ex, q1⟩ => ?_)
  subst ex
  obtain rfl : u = Value.ref d := rx
  have mo : ∀ {s' : Shared} {σ' : L2.St} {H' : Hp}, Inv X pins σ' H' s' → s'.heap.MapOf (strKind X.prog X.w) d (fun k => findBy Value.isStrOf es k) := fun I' => PySem.W.mapOf_K (prog := X.prog) I'.kIn D.at_ D.lit
  refine ⟨(mo I1).typeIs, (mo I1).noDict, ?_⟩
  rw [m.trees]
  refine Calls.callWith_builtin rfl (Calls.evalArgs_plain (Calls.spliced_cons (thn (he.run pins s1 σ H1 _ I1 q1) fun iv s2 ⟨y, H2, I2, ry, q2⟩ =>
    Calls.spliced_cons (thn (hf.run pins s2 σ H2 _ I2 q2) fun fv s3 ⟨z, H3, I3, rz, w, ey, q3⟩ => Calls.spliced_nil ?_))))
  subst ey
  obtain ⟨t, rfl⟩ := ry
  obtain ⟨r, hr, rel⟩ := hn w
  refine call_meetsIn PySem.F.slot_dict_get (mo I3).typeIs PySem.F.entry_dict_get (PySem.F.args_dict_get_3 _ _ _) (meets_dict_get_default (strKind X.prog X.w) d (PySem.strKind_is X.prog X.w w t) D.low fv) ⟨_, mo I3, ?_⟩
  rw [PySem.W.find_K D.at_ hr]
  exact ⟨_, H3, I3.tok _, rel.getD rz, q3⟩
/-- from the keys, and what stands at each -/
theorem mdict {K : PySem.W.Frag} {w : World} {d : Addr} {kvs : List (Str × V)} (hk : dicW K d = some (keysIn w.params (kvs.map (·.1)))) (hv : ∀ p ∈ kvs, ∃ u, PySem.W.nsIn K d p.1 = some (some u) ∧ RelV p.2 u) :
    MDict K w d (fun z => (kvs.find? fun p => decide (p.1 = z)).map (·.2)) := by
  obtain ⟨es, n, D⟩ := dicW_ok hk
  refine ⟨es, n, D, fun z => ?_⟩
  cases hf : kvs.find? fun p => decide (p.1 = z) with
  | some p =>
    have hp := List.mem_of_find?_eq_some hf
    have hz0 := List.find?_some hf
    have hz : p.1 = z := of_decide_eq_true hz0
    obtain ⟨u, h1, h2⟩ := hv p hp
    rw [hz] at h1
    exact ⟨some u, h1, h2⟩
  | none =>
    refine ⟨none, ?_, trivial⟩
    have he : es.toList.map He.keyOf = keysIn w.params (kvs.map (·.1)) := by
      unfold dicW at hk
      rw [D.at_] at hk
      have hl := D.low
      simp [hl] at hk
      exact hk
    have hkey : ∀ e ∈ es.toList, ∃ x t, e.key = .str x t ∧ x ≠ z := fun e hm => by
      have h1 : He.keyOf e ∈ keysIn w.params (kvs.map (·.1)) := by rw [← he]; exact List.mem_map.mpr ⟨e, hm, rfl⟩
      obtain ⟨k, hkm, h2⟩ := List.mem_map.mp h1
      obtain ⟨p, hpm, rfl⟩ := List.mem_map.mp hkm
      obtain ⟨x, t, e1, e2⟩ := D.lit.all e hm
      refine ⟨x, t, e1, fun ez => ?_⟩
      unfold He.keyOf at h2
      rw [e1] at h2
      have h3 := congrArg Prod.fst (Option.some.inj h2)
      exact (List.find?_eq_none.mp hf p hpm) (decide_eq_true (h3.trans ez))
    unfold PySem.W.nsIn
    rw [D.at_]
    dsimp only
    have f0 : es.toList.find? (·.key.isStr z) = none := List.find?_eq_none.mpr fun e hm h => by
      obtain ⟨x, t, e1, e2⟩ := hkey e hm
      rw [e1] at h
      exact e2 (beq_iff_eq.mp h)
    have a0 : es.toList.any (·.refKey) = false := List.any_eq_false.mpr fun e hm h => by
      obtain ⟨x, t, e1, e2⟩ := hkey e hm
      unfold DictEntry.refKey at h
      rw [e1] at h
      exact nomatch h
    rw [f0, a0]
    rfl
end Wp

/-! zip of a tuple and a list -/
namespace ZMix
open PySem PySem.Spec PyProof.Rows L2 RZ
section
variable {prog : Program} {w : World} {A : Around} {E : Value → Shared → Prop} {s : Shared}
/-- what a zip object looks like: the tuple's iterator first, then the list's -/
structure Zst (h : Heap) (z TI TO i j p l : Addr) (n : Nat) (f : Value) : Prop where
  Z : IsZip h z TI TO f
  I : IsPair h TI (.ref i) (.ref j)
  O : ∃ a b, IsPair h TO a b
  P : h.IsTupleIter i p n
  L : h.IsListIter j l n
theorem step {z TI TO i j p l : Addr} {n : Nat} {xs ys : Array Value} {x y : Value} {Q : Value → Shared → Prop} (D : ZipApart z TI TO i j p l) (S : Zst s.heap z TI TO i j p l n .none)
    (hp : s.heap.IsTuple p xs) (hl : s.heap.IsList l ys) (hx : xs[n]? = some x) (hy : ys[n]? = some y)
    (q : ∀ h', Zst h' z TI TO i j p l (n + 1) (rawInt s.heap.objs.size) → IsPair h' s.heap.objs.size x y → h'.objs.size = s.heap.objs.size + 1 →
      (∀ c o, c ≠ z ∧ c ≠ TO ∧ c ≠ i ∧ c ≠ j → s.heap.get? c = some o → h'.get? c = some o) → Q (.ref s.heap.objs.size) { s with heap := h' }) :
    wpAny (model prog w) A (Builtin.«zip.__next__» ⟨[.ref z], []⟩) (fun r s' => ∃ v, r = .done (.ret v) ∧ Q v s') E s := by
  obtain ⟨a, b, hO⟩ := S.O
  show wpAny _ _ (field (.ref z) 2 >>= _) _ _ _; refine wpAny_bind (wpAny_field S.Z rfl (x := .bool false) rfl ?_)
  show wpAny _ _ (field (.ref z) 3 >>= _) _ _ _; refine wpAny_bind (wpAny_field S.Z rfl (x := .ref TI) rfl (wpAny_bind (wpAny_seqItems S.I rfl ?_)))
  show wpAny _ _ (Builtin.SmallTypes.ownedTupleIsFree (.ref z) >>= _) _ _ _; refine wpAny_bind ?_; unfold Builtin.SmallTypes.ownedTupleIsFree
  refine wpAny_bind (wpAny_field S.Z rfl (x := .none) rfl (wpAny_pure ?_)); simp only [if_true]
  refine wpAny_bind (wpAny_rule (wpAny_bind (wpAny_field S.Z rfl (x := .ref TO) rfl (wpAny_bind (wpAny_setField_rec S.Z (by simp) fun k1 u1 e1 => wpAny_bind ?_)))))
  have Z1 : IsZip k1 z TI TO .ellipsis := u1
  simp only [List.zipIdx_cons, List.zipIdx_nil, List.forIn_cons, List.forIn_nil]; refine wpAny_bind (wpAny_bind (wpAny_onRaise ?_))
  show wpAny _ _ (Builtin.SmallTypes.nextOf (.ref i) >>= _) _ _ _; refine wpAny_bind (nextOf_tuple_item (S.P.extBut e1.extBut D.i1z) (hp.extBut e1.extBut D.l1z) hx fun k2 P2 e2 => wpAny_pure ?_)
  have O2 : IsPair k2 TO a b := e2.extBut _ _ D.TOi1 (e1.extBut _ _ D.TOz hO)
  refine wpAny_bind (wpAny_seqItems O2 rfl (wpAny_bind (wpAny_updateSeq_pair O2 fun k3 u3 e3 => wpAny_bind (wpAny_letGo (wpAny_pure (wpAny_bind (wpAny_bind (wpAny_onRaise ?_))))))))
  have O3 : IsPair k3 TO x b := u3
  have up13 : ∀ c o, c ≠ TO → c ≠ i → k1.get? c = some o → k3.get? c = some o := fun c o c1 c2 e => e3.extBut _ _ c1 (e2.extBut _ _ c2 e)
  have up3 : ∀ c o, c ≠ z → c ≠ TO → c ≠ i → s.heap.get? c = some o → k3.get? c = some o := fun c o c0 c1 c2 e => up13 c o c1 c2 (e1.extBut _ _ c0 e)
  show wpAny _ _ (Builtin.SmallTypes.nextOf (.ref j) >>= _) _ _ _
  refine wpAny_bind (wpAny_nextOf_list_item (S.L.at fun o e => up3 j o D.i2z D.TOi2.symm D.i12.symm e) (hl.at fun o e => up3 l o D.l2z D.l2TO D.l2i1 e) hy fun k4 L4 e4 => wpAny_pure ?_)
  have O4 : IsPair k4 TO x b := e4.extBut _ _ D.TOi2 O3
  refine wpAny_bind (wpAny_seqItems O4 rfl (wpAny_bind (wpAny_updateSeq_pair O4 fun k5 u5 e5 => wpAny_bind (wpAny_letGo (wpAny_pure (wpAny_pure ?_))))))
  have O5 : IsPair k5 TO x y := u5
  refine wpAny_bind (wpAny_seqItems O5 rfl (wpAny_bind (wpAny_newTuple ?_)))
  have sz : k5.objs.size = s.heap.objs.size := by rw [e5.1, e4.1, e3.1, e2.1, e1.1]
  have up5 : ∀ c o, c ≠ TO → c ≠ i → c ≠ j → k1.get? c = some o → k5.get? c = some o := fun c o c1 c2 c3 e => e5.extBut _ _ c1 (e4.extBut _ _ c3 (up13 c o c1 c2 e))
  have Z5 : IsZip k5 z TI TO .ellipsis := up5 _ _ D.TOz.symm D.i1z.symm D.i2z.symm Z1
  have P5 : k5.IsTupleIter i p (n + 1) := P2.at fun o e => e5.extBut _ _ D.TOi1.symm (e4.extBut _ _ D.i12 (e3.extBut _ _ D.TOi1.symm e))
  have L5 : k5.IsListIter j l (n + 1) := L4.extBut e5.extBut D.TOi2.symm
  have lz : z < k5.objs.size := Heap.lt_size Z5
  show wpAny _ _ (Builtin.SmallTypes.ownedTupleHandOut (.ref z) (.ref k5.objs.size) >>= _) _ _ _; refine wpAny_bind ?_; unfold Builtin.SmallTypes.ownedTupleHandOut
  have Z6 : IsZip (k5.push { cls := .type "tuple", data := .seq #[x, y] }) z TI TO .ellipsis := Heap.get?_push_of_some _ Z5
  refine wpAny_bind (wpAny_setField_rec Z6 (by simp) fun k7 u7 e7 => ?_)
  have Z7 : IsZip k7 z TI TO (rawInt k5.objs.size) := u7
  refine wpAny_setField_rec Z7 (by simp) fun k8 u8 e8 => ?_
  have Z8 : IsZip k8 z TI TO (rawInt k5.objs.size) := u8
  have up8 : ∀ c o, c ≠ z → k5.get? c = some o → k8.get? c = some o := fun c o c0 e => e8.extBut _ _ c0 (e7.extBut _ _ c0 (Heap.get?_push_of_some _ e))
  have T8 : IsPair k8 k5.objs.size x y := e8.extBut _ _ (Nat.ne_of_gt lz) (e7.extBut _ _ (Nat.ne_of_gt lz) (Heap.get?_push_size _ rfl))
  have s8 : k8.objs.size = k5.objs.size + 1 := by rw [e8.1, e7.1, Heap.size_push]
  rw [sz] at Z8 T8 s8
  have I8 : IsPair k8 TI (.ref i) (.ref j) := up8 _ _ D.TIz (up5 _ _ D.TITO D.TIi1 D.TIi2 (e1.extBut _ _ D.TIz S.I))
  refine wpAny_pure ⟨_, rfl, ?_⟩
  rw [show k5.objs.size = s.heap.objs.size from sz]
  exact q k8 ⟨Z8, I8, ⟨x, y, up8 _ _ D.TOz O5⟩, P5.at fun o e => up8 _ o D.i1z e, L5.at fun o e => up8 _ o D.i2z e⟩ T8 s8 fun c o c0 e => up8 c o c0.1 (up5 c o c0.2.1 c0.2.2.1 c0.2.2.2 (e1.extBut _ _ c0.1 e))
theorem stop {z TI TO i j p l : Addr} {n : Nat} {xs ys : Array Value} {Q : PySem.Fin → Shared → Prop} (hh : A.handled = none) (D : ZipApart z TI TO i j p l) (S : Zst s.heap z TI TO i j p l n .none)
    (hp : s.heap.IsTuple p xs) (hl : s.heap.IsList l ys) (he : xs[n]? = none ∨ ys[n]? = none)
    (q : ∀ h' e, (∀ c o, c ≠ z ∧ c ≠ TO ∧ c ≠ i ∧ c ≠ j → s.heap.get? c = some o → h'.get? c = some o) → (∃ o, h'.get? e = some o ∧ o.cls = .type "StopIteration") → E (.ref e) { s with heap := h' }) :
    wpAny (model prog w) A (Builtin.«zip.__next__» ⟨[.ref z], []⟩) Q E s := by
  obtain ⟨a, b, hO⟩ := S.O
  show wpAny _ _ (field (.ref z) 2 >>= _) _ _ _; refine wpAny_bind (wpAny_field S.Z rfl (x := .bool false) rfl ?_)
  show wpAny _ _ (field (.ref z) 3 >>= _) _ _ _; refine wpAny_bind (wpAny_field S.Z rfl (x := .ref TI) rfl (wpAny_bind (wpAny_seqItems S.I rfl ?_)))
  show wpAny _ _ (Builtin.SmallTypes.ownedTupleIsFree (.ref z) >>= _) _ _ _; refine wpAny_bind ?_; unfold Builtin.SmallTypes.ownedTupleIsFree
  refine wpAny_bind (wpAny_field S.Z rfl (x := .none) rfl (wpAny_pure ?_)); simp only [if_true]
  refine wpAny_bind (wpAny_rule (wpAny_bind (wpAny_field S.Z rfl (x := .ref TO) rfl (wpAny_bind (wpAny_setField_rec S.Z (by simp) fun k1 u1 e1 => wpAny_bind ?_)))))
  have Z1 : IsZip k1 z TI TO .ellipsis := u1
  simp only [List.zipIdx_cons, List.zipIdx_nil, List.forIn_cons, List.forIn_nil]; refine wpAny_bind (wpAny_bind (wpAny_onRaise ?_))
  show wpAny _ _ (Builtin.SmallTypes.nextOf (.ref i) >>= _) _ _ _
  have apart : ∀ {k : Heap} {e : Addr} {oe : Obj}, IsZip k z TI TO .ellipsis → k.get? e = some oe → oe.cls = .type "StopIteration" → e ≠ z := fun {k e oe} hz h1 h2 h3 => by
    rw [h3, show k.get? z = _ from hz] at h1
    cases h1
    exact absurd (show Value.type "zip" = .type "StopIteration" from h2) (by decide)
  cases hx : xs[n]? with
  | none =>
    refine wpAny_bind (nextOf_tuple_end hh (S.P.extBut e1.extBut D.i1z) (hp.extBut e1.extBut D.l1z) hx fun k2 e e2 ⟨oe, h1, h2⟩ => ?_)
    have Z2 : IsZip k2 z TI TO .ellipsis := e2 _ _ D.i1z.symm Z1
    exact wpAny_setField_rec Z2 (by simp) fun k3 _ e3 => q k3 e (fun c o c0 x => e3.extBut _ _ c0.1 (e2 _ _ c0.2.2.1 (e1.extBut _ _ c0.1 x))) ⟨oe, e3.extBut _ _ (apart Z2 h1 h2) h1, h2⟩
  | some x =>
    have hy : ys[n]? = none := he.resolve_left (by rw [hx]; exact nofun)
    refine wpAny_bind (nextOf_tuple_item (S.P.extBut e1.extBut D.i1z) (hp.extBut e1.extBut D.l1z) hx fun k2 P2 e2 => wpAny_pure ?_)
    have O2 : IsPair k2 TO a b := e2.extBut _ _ D.TOi1 (e1.extBut _ _ D.TOz hO)
    refine wpAny_bind (wpAny_seqItems O2 rfl (wpAny_bind (wpAny_updateSeq_pair O2 fun k3 u3 e3 => wpAny_bind (wpAny_letGo (wpAny_pure (wpAny_bind (wpAny_bind (wpAny_onRaise ?_))))))))
    have up3 : ∀ c o, c ≠ z → c ≠ TO → c ≠ i → s.heap.get? c = some o → k3.get? c = some o := fun c o c0 c1 c2 e => e3.extBut _ _ c1 (e2.extBut _ _ c2 (e1.extBut _ _ c0 e))
    show wpAny _ _ (Builtin.SmallTypes.nextOf (.ref j) >>= _) _ _ _
    refine wpAny_bind (wpAny_nextOf_list_end hh (S.L.at fun o e => up3 j o D.i2z D.TOi2.symm D.i12.symm e) (hl.at fun o e => up3 l o D.l2z D.l2TO D.l2i1 e) hy fun k4 e e4 ⟨oe, h1, h2⟩ => ?_)
    have Z4 : IsZip k4 z TI TO .ellipsis := e4 _ _ D.i2z.symm (e3.extBut _ _ D.TOz.symm (e2.extBut _ _ D.i1z.symm Z1))
    exact wpAny_setField_rec Z4 (by simp) fun k5 _ e5 => q k5 e (fun c o c0 x => e5.extBut _ _ c0.1 (e4 _ _ c0.2.2.2 (up3 c o c0.1 c0.2.1 c0.2.2.1 x))) ⟨oe, e5.extBut _ _ (apart Z4 h1 h2) h1, h2⟩
theorem nxt {z TI TO i j p l : Addr} {n : Nat} {xs ys : Array Value} {x y : Value} {Q : Option Value → Shared → Prop} (D : ZipApart z TI TO i j p l) (S : Zst s.heap z TI TO i j p l n .none)
    (hp : s.heap.IsTuple p xs) (hl : s.heap.IsList l ys) (hx : xs[n]? = some x) (hy : ys[n]? = some y)
    (q : ∀ h', Zst h' z TI TO i j p l (n + 1) (rawInt s.heap.objs.size) → IsPair h' s.heap.objs.size x y → h'.objs.size = s.heap.objs.size + 1 →
      (∀ c o, c ≠ z ∧ c ≠ TO ∧ c ≠ i ∧ c ≠ j → s.heap.get? c = some o → h'.get? c = some o) → Q (some (.ref s.heap.objs.size)) { s with heap := h' }) : wpAny (model prog w) A (pyNext (.ref z)) Q E s := by
  unfold pyNext
  refine wpAny_bind (wpAny_attempt (wpAny_callSpecial?_slot (name := Str.ofString "__next__") ⟨_, S.Z, rfl⟩ F.slot_zip_next (wpAny_call_entry F.slot_zip_next ⟨_, S.Z, rfl⟩ F.entry_zip_next ?_ (F.args_zip_next_1 _))))
  exact step D S hp hl hx hy fun h' a b c d => wpAny_pure (q h' a b c d)
theorem nxtE {z TI TO i j p l : Addr} {n : Nat} {xs ys : Array Value} {Q : Option Value → Shared → Prop} (hh : A.handled = none) (D : ZipApart z TI TO i j p l) (S : Zst s.heap z TI TO i j p l n .none)
    (hp : s.heap.IsTuple p xs) (hl : s.heap.IsList l ys) (he : xs[n]? = none ∨ ys[n]? = none)
    (q : ∀ h', (∀ c o, c ≠ z ∧ c ≠ TO ∧ c ≠ i ∧ c ≠ j → s.heap.get? c = some o → h'.get? c = some o) → Q none { s with heap := h' }) : wpAny (model prog w) A (pyNext (.ref z)) Q E s := by
  unfold pyNext
  refine wpAny_bind (wpAny_attempt (wpAny_callSpecial?_slot (name := Str.ofString "__next__") ⟨_, S.Z, rfl⟩ F.slot_zip_next (wpAny_call_entry F.slot_zip_next ⟨_, S.Z, rfl⟩ F.entry_zip_next ?_ (F.args_zip_next_1 _))))
  exact stop hh D S hp hl he fun h' e k ⟨o, h1, h2⟩ => wpAny_bind (wpAny_isInstance (T := "StopIteration") (b := true) ⟨o, h1, h2⟩ isSubtype_stop (wpAny_pure (q _ k)))
end
/-- the heap with the five new objects -/
def mk1 (h : Heap) (p : Addr) : Heap := h.push { cls := .type "tuple_iterator", data := .fields #[.ref p, .int 0 0] }
def mk2 (h : Heap) (p l : Addr) : Heap := (mk1 h p).push { cls := .type "list_iterator", data := .fields #[.ref l, .int 0 0] }
def mk3 (h : Heap) (p l : Addr) : Heap := (mk2 h p l).push { cls := .type "tuple", data := .seq #[.ref h.objs.size, .ref (mk1 h p).objs.size] }
def mk4 (h : Heap) (p l : Addr) : Heap := (mk3 h p l).push { cls := .type "tuple", data := .seq #[.none, .none] }
def mk5 (h : Heap) (p l : Addr) : Heap := (mk4 h p l).push { cls := .type "zip", data := .fields #[.none, .bool false, .bool false, .ref (mk2 h p l).objs.size, .ref (mk3 h p l).objs.size] }
theorem made (p l : Addr) (xs ys : Array Value) : Meets (Builtin.«zip.__new__» ⟨[.type "zip", .ref p, .ref l], []⟩) (fun _ R s => s.heap.IsTuple p xs ∧ s.heap.IsList l ys ∧ R (.ok (.ret (.ref (mk4 s.heap p l).objs.size))) { s with heap := mk5 s.heap p l }) :=
  .of_wp fun prog w A R s hyp => by
    obtain ⟨hp, g, d, tk, os⟩ := s
    obtain ⟨a1, a2, a3⟩ := hyp
    have hsub := sub_zip
    have b1 : Heap.IsTuple (Shared.heap ⟨hp, g, d, tk, os⟩) p xs := a1
    have b2 : Heap.IsList (Shared.heap ⟨hp.push { cls := .type "tuple_iterator", data := .fields #[.ref p, .int 0 0] }, g, d, tk, os⟩) l ys := Heap.IsList.push a2 _
    wp_walk using wpAny_pyIter_tuple b1, wpAny_pyIter_list b2
    exact ⟨_, rfl, a3⟩
theorem mk_all (h : Heap) (p l : Addr) : Zst (mk5 h p l) (h.objs.size + 4) (h.objs.size + 2) (h.objs.size + 3) h.objs.size (h.objs.size + 1) p l 0 .none ∧ (mk4 h p l).objs.size = h.objs.size + 4 ∧ ∀ c o, h.get? c = some o → (mk5 h p l).get? c = some o := by
  have s1 : (mk1 h p).objs.size = h.objs.size + 1 := Heap.size_push ..
  have s2 : (mk2 h p l).objs.size = h.objs.size + 2 := by unfold mk2; rw [Heap.size_push, s1]
  have s3 : (mk3 h p l).objs.size = h.objs.size + 3 := by unfold mk3; rw [Heap.size_push, s2]
  have s4 : (mk4 h p l).objs.size = h.objs.size + 4 := by unfold mk4; rw [Heap.size_push, s3]
  have u45 : ∀ c o, (mk4 h p l).get? c = some o → (mk5 h p l).get? c = some o := fun c o e => Heap.get?_push_of_some _ e
  have u35 : ∀ c o, (mk3 h p l).get? c = some o → (mk5 h p l).get? c = some o := fun c o e => u45 c o (Heap.get?_push_of_some _ e)
  have u25 : ∀ c o, (mk2 h p l).get? c = some o → (mk5 h p l).get? c = some o := fun c o e => u35 c o (Heap.get?_push_of_some _ e)
  have u15 : ∀ c o, (mk1 h p).get? c = some o → (mk5 h p l).get? c = some o := fun c o e => u25 c o (Heap.get?_push_of_some _ e)
  refine ⟨⟨?_, ?_, ⟨Value.none, Value.none, ?_⟩, ?_, ?_⟩, s4, fun c o e => u15 c o (Heap.get?_push_of_some _ e)⟩
  · show (mk5 h p l).get? (h.objs.size + 4) = _
    rw [← s4, ← s2, ← s3]
    exact Heap.get?_push_size _ rfl
  · show (mk5 h p l).get? (h.objs.size + 2) = _
    rw [← s2, ← s1]
    exact u35 _ _ (Heap.get?_push_size _ rfl)
  · show (mk5 h p l).get? (h.objs.size + 3) = _
    rw [← s3]
    exact u45 _ _ (Heap.get?_push_size _ rfl)
  · exact ⟨_, u15 _ _ (Heap.get?_push_size _ rfl), rfl, rfl⟩
  · exact ⟨_, by rw [← s1]; exact u25 _ _ (Heap.get?_push_size _ rfl), rfl, rfl⟩
section
variable {prog : Program} {w : World} {A : Around} {E : Value → Shared → Prop} {s : Shared}
theorem calls {p l : Addr} {xs ys : Array Value} {Q : Value → Shared → Prop} (hp : s.heap.IsTuple p xs) (hl : s.heap.IsList l ys) (q : Q (.ref (s.heap.objs.size + 4)) { s with heap := mk5 s.heap p l }) :
    wpAny (model prog w) A (call (.type "zip") [.ref p, .ref l]) Q E s := by
  refine callType_new F.called_zip (by decide) (F.typeCall_zip_2 _ _) (F.newCall_zip_2 _ _) (fun obj => F.args_object_init_3 obj _ _) F.entry_zip_new (made p l xs ys) ⟨hp, hl, ?_⟩
  have hk := mk_all s.heap p l
  show _ ∧ _
  rw [hk.2.1]
  exact ⟨⟨_, hk.1.Z, rfl⟩, q⟩
end
/-- the tuple at a and the list at b, the items in new pairs -/
def ItM (K : PySem.W.Frag) (a b : Addr) : It :=
  ⟨fun i H => ∃ (xs ys : List V) (x y : V), SqT K H a xs ∧ SqL K H b ys ∧ xs[i]? = some x ∧ ys[i]? = some y,
    fun i H v H' => ∃ T x y, v = .ref T ∧ H T = none ∧ H' = upd H T (.tup [x, y]) ∧ (∀ xs, SqT K H a xs → xs[i]? = some x) ∧ ∀ ys, SqL K H b ys → ys[i]? = some y,
    fun i H => ∃ xs ys : List V, SqT K H a xs ∧ SqL K H b ys ∧ (xs.length ≤ i ∨ ys.length ≤ i)⟩
theorem turnM {P : Program} {w : World} {K : PySem.W.Frag} {elts : List Expr} {kk : Nat} {tpos : Pos} {a b z TI TO i1 i2 : Addr} (D : ZipApart z TI TO i1 i2 a b) :
    Turn P w K (.Tuple elts kk tpos) (ItM K a b) [z, TI, TO, i1, i2] z (fun i h => Zst h z TI TO i1 i2 a b i .none) where
  mem := List.mem_cons_self ..
  obj := fun i h S c hc => by
    obtain ⟨x, y, hO⟩ := S.O
    obtain ⟨o1, e1, _, d1⟩ := S.P
    obtain ⟨o2, e2, _, d2⟩ := S.L
    simp only [List.mem_cons, List.not_mem_nil, or_false] at hc
    rcases hc with rfl | rfl | rfl | rfl | rfl
    · exact ⟨_, S.Z, fun v q => nomatch q⟩
    · exact ⟨_, S.I, fun v q => nomatch q⟩
    · exact ⟨_, hO, fun v q => nomatch q⟩
    · exact ⟨o1, e1, fun v q => by rw [d1] at q; cases q⟩
    · exact ⟨o2, e2, fun v q => by rw [d2] at q; cases q⟩
  keep := fun i h h' S k => by
    obtain ⟨x, y, hO⟩ := S.O
    exact ⟨k z (by simp) _ S.Z, k TI (by simp) _ S.I, ⟨x, y, k TO (by simp) _ hO⟩, S.P.at fun o q => k i1 (by simp) o q, S.L.at fun o q => k i2 (by simp) o q⟩
  item := by
    intro X e1 e2 e3 hc i pins s σ H E I hf S hg
    subst e1 e2 e3
    obtain ⟨xs, ys, x, y, hqx, hqy, hx, hy⟩ := hg
    obtain ⟨its, rv, p, _⟩ := I.tuple hqx
    obtain ⟨its2, rv2, p2, _⟩ := I.list hqy
    obtain ⟨u, hu, ru⟩ := rv.get hx
    obtain ⟨u2, hu2, ru2⟩ := rv2.get hy
    have lz : z < s.heap.objs.size := Heap.lt_size S.Z
    have lt : ∀ c, c ∈ [z, TI, TO, i1, i2] → c < s.heap.objs.size := fun c hc => by
      obtain ⟨x, y, hO⟩ := S.O
      simp only [List.mem_cons, List.not_mem_nil, or_false] at hc
      rcases hc with rfl | rfl | rfl | rfl | rfl
      · exact lz
      · exact Heap.lt_size S.I
      · exact Heap.lt_size hO
      · obtain ⟨_, e, _⟩ := S.P; exact Heap.lt_size e
      · obtain ⟨_, e, _⟩ := S.L; exact Heap.lt_size e
    refine nxt D S p p2.isList (x := u) (y := u2) (by simpa using hu) (by simpa using hu2) fun h1 S1 hT _ hk => ⟨_, rfl, wpAny_letOwnedTupleGo_zip (s := { s with heap := h1 }) S1.Z fun h2 Z2 sb => ?_⟩
    have T2 : h2.get? s.heap.objs.size = some { cls := .type "tuple", data := .seq #[u, u2] } := (sb.2 _ (Nat.ne_of_gt lz)).trans hT
    have ok : ObjOk X.prog X.w (upd H s.heap.objs.size (.tup [x, y])) h2 s.heap.objs.size (.tup [x, y]) := ⟨(show 2 ≤ sizeLine by decide), [u, u2], .cons ru (.cons ru2 .nil), ⟨_, T2, rfl, _, rfl⟩⟩
    have I1 : Inv X pins σ (upd H s.heap.objs.size (.tup [x, y])) { s with heap := h2 } := I.turnedNew (t' := s.toks) (ch := [z, TI, TO, i1, i2]) (fun c o hb q => (sb.2 c (fun e => hb (by simp [e]))).trans (hk c o ⟨fun e => hb (by simp [e]), fun e => hb (by simp [e]), fun e => hb (by simp [e]), fun e => hb (by simp [e])⟩ q)) hf (Nat.le_refl _) ok
    obtain ⟨a0, b0, O1⟩ := S1.O
    refine ⟨.ref s.heap.objs.size, _, I1, rfl, ⟨_, x, y, rfl, I.hok.fresh (Nat.le_refl _), rfl, fun l hl => by rw [I.tuple_inj hl hqx]; exact hx, fun l hl => by rw [I.list_inj hl hqy]; exact hy⟩, ⟨Z2, (sb.2 _ D.TIz).trans S1.I, ⟨a0, b0, (sb.2 _ D.TOz).trans O1⟩, S1.P.at fun o q => (sb.2 _ D.i1z).trans q, S1.L.at fun o q => (sb.2 _ D.i2z).trans q⟩, fun c hc => ?_⟩
    rw [upd_ne (Nat.ne_of_lt (lt c hc))]
    exact (hf c hc).1
  done := by
    intro X e1 e2 e3 hc i pins s σ H E I hf S hg
    subst e1 e2 e3
    obtain ⟨xs, ys, hqx, hqy, hend⟩ := hg
    obtain ⟨its, rv, p, _⟩ := I.tuple hqx
    obtain ⟨its2, rv2, p2, _⟩ := I.list hqy
    have l1 := rv.length
    have l2 := rv2.length
    have he : its.toArray[i]? = none ∨ its2.toArray[i]? = none := hend.elim (fun q => .inl (by simp; omega)) (fun q => .inr (by simp; omega))
    exact nxtE (I.ok.hd hc) D S p p2.isList he fun h' hk => ⟨rfl, I.turnedL (t' := s.toks) (ch := [z, TI, TO, i1, i2]) (fun c o hb q => hk c o ⟨fun e => hb (by simp [e]), fun e => hb (by simp [e]), fun e => hb (by simp [e]), fun e => hb (by simp [e])⟩ q) hf⟩
  self := fun A i s Q E S h => wpAny_pyIter_zip S.Z h
def iZipM (K : PySem.W.Frag) (ta : TA) : TI := fun σ H R => ta σ H fun vs H1 => ∃ a b xs ys, vs = [.ref a, .ref b] ∧ SqT K H1 a xs ∧ SqL K H1 b ys ∧ R (ItM K a b) H1
theorem pi_zipM {X : Cx} {e e2 : Expr} {ta : TA} {p pos tpos : Pos} {elts : List Expr} {kk : Nat} (hg : Gl X "zip") (hm : X.mg "zip" = none) (ha : PA X [e, e2] ta)
    (hs : starEach [e, e2] X.env = (false, eval e X.env) :: starEach [e2] X.env := by rfl) (hpl : (backTo pos (starEach [e2] X.env)).any (·.1) = false := by rfl) :
    PI X (.Tuple elts kk tpos) (.Call (.Name "zip" p) [e, e2] [] pos) (iZipM X.K ta) := by
  refine ⟨fun pins s σ H R I h => Call_ (ld_blt I hg hm PyProof.Rows.boot_zip (PyProof.Rows.callWith_type1 (thn (ha.run pos pins s σ H _ I h) fun us s1 ⟨vs, H1, I1, r1, a, b, xs, ys, ex, hqx, hqy, q⟩ => ?_) hs hpl))⟩
  subst ex
  obtain ⟨ua, ub, rfl, ra, rb⟩ : ∃ ua ub, us = [ua, ub] ∧ RelV (.ref a) ua ∧ RelV (.ref b) ub := by
    cases r1 with
    | cons r rr =>
      cases rr with
      | cons r' rr => cases rr; exact ⟨_, _, rfl, r, r'⟩
  obtain rfl : ua = .ref a := ra
  obtain rfl : ub = .ref b := rb
  obtain ⟨its, rv, p1, _⟩ := I1.tuple hqx
  obtain ⟨its2, rv2, p2, _⟩ := I1.list hqy
  obtain ⟨S, _, hk⟩ := mk_all s1.heap a b
  refine calls p1 p2.isList (wpAny_pyIter_zip S.Z ?_)
  have I2 : Inv X pins σ H1 { s1 with heap := mk5 s1.heap a b } := I1.kept (t' := s1.toks) hk
  obtain ⟨o1, ho1, _⟩ := id p1
  refine ⟨s1.heap.objs.size + 4, [s1.heap.objs.size + 4, s1.heap.objs.size + 2, s1.heap.objs.size + 3, s1.heap.objs.size, s1.heap.objs.size + 1], _, _, H1, rfl, I2, turnM (PySem.W.ktu_apart s1.heap.objs.size a b (Heap.lt_size ho1) p2.lt), S, fun c hc => ?_, q⟩
  have hle : s1.heap.objs.size ≤ c := by
    simp only [List.mem_cons, List.not_mem_nil, or_false] at hc
    rcases hc with e | e | e | e | e <;> rw [e] <;> first | exact Nat.le_add_right _ _ | exact Nat.le_refl _
  exact I1.fpOk hle (I1.hok.fresh hle)
theorem walkM {K : PySem.W.Frag} {a b : Addr} {xs ys : List V} {n : Nat} (hn : n = min xs.length ys.length) : Walk (ItM K a b) n (fun H => SqT K H a xs ∧ SqL K H b ys) (YPair (fun i => xs[i]?) (fun i => ys[i]?)) := by
  subst hn
  refine ⟨fun i _ hi q => ?_, fun _ q => ⟨xs, ys, q.1, q.2, by omega⟩, fun i H v H' _ q ⟨T, x, z, h1, h2, h3, h4, h5⟩ => ⟨T, x, z, h1, h2, h3, h4 xs q.1, h5 ys q.2⟩⟩
  exact ⟨xs, ys, xs[i]'(by omega), ys[i]'(by omega), q.1, q.2, List.getElem?_eq_getElem _, List.getElem?_eq_getElem _⟩
end ZMix

namespace Wp
open PySem PySem.Spec PyProof.Rows L2 TyNe He

/-! ### tuples and tables of the module -/
/-- a tuple of the module -/
structure TupK (K : PySem.W.Frag) (a : Addr) (xs : List V) : Prop where
  ex : ∃ (o : Obj) (its : Array Value) (n : Nat), K.lookup a = some o ∧ o.cls = .type "tuple" ∧ o.data = .seq its n ∧ its.size ≤ sizeLine ∧ Vals xs its.toList
theorem TupK.sq {K : PySem.W.Frag} {a : Addr} {xs : List V} {H : Hp} (h : TupK K a xs) : SqT K H a xs := .inr h.ex
theorem TupK.mk' {K : PySem.W.Frag} {a : Addr} {xs : List V} {od : Option Addr} {its : Array Value} {n : Nat} {sl : Array (Option Value)} (h : K.lookup a = some ⟨.type "tuple", od, .seq its n, sl⟩) (hz : its.size ≤ 1000) (hv : Vals xs its.toList) : TupK K a xs :=
  ⟨_, its, n, h, rfl, rfl, Nat.le_trans hz (by decide), hv⟩
def tabG (kv : List (Str × V)) : Str → Option V := fun z => (kv.find? fun p => decide (p.1 = z)).map (·.2)
def rTab (A : Addr) (g : Str → Option V) : R2 := fun x y H Q => ∃ z v, x = .ref A ∧ y = .str z ∧ g z = some v ∧ Q v H
theorem ix_tab {X : Cx} {A : Addr} {g : Str → Option V} (M : MDict X.K X.w A g) : IxR X (rTab A g) := by
  intro e1 e2 pins s σ H x y v u Q I rx ry ⟨z, r, ex, ey, hg, q⟩ hs
  obtain ⟨es, n, D, hn⟩ := M.ex
  obtain ⟨t, h1, h2⟩ := hn z
  rw [hg] at h2
  cases t with
  | none => exact h2.elim
  | some t => exact ix_kdict e1 e2 pins s σ H x y v u Q I rx ry ⟨A, z, r, ex, ey, ⟨es, n, t, D.at_, D.lit, h1, h2⟩, q⟩ hs
/-- the entries of a table -/
def EntLit (P : Params) : List DictEntry → List (Str × V) → Prop
  | [], [] => True
  | e :: r, p :: s => (∃ t, e.key = .str p.1 t ∧ e.hash = PyData.keyHash P p.1 ∧ RelV p.2 e.val) ∧ EntLit P r s
  | _, _ => False
theorem EntLit.keys {P : Params} : ∀ {l : List DictEntry} {kv : List (Str × V)}, EntLit P l kv → PySem.W.KeysLit P l
  | [], [], _ => trivial
  | e :: r, p :: s, h => ⟨by obtain ⟨⟨t, h1, h2, _⟩, _⟩ := h; exact ⟨_, t, h1, h2⟩, EntLit.keys h.2⟩
  | [], _ :: _, h => h.elim
  | _ :: _, [], h => h.elim
theorem EntLit.find {P : Params} (z : Str) : ∀ {l : List DictEntry} {kv : List (Str × V)}, EntLit P l kv → RelO ((kv.find? fun p => decide (p.1 = z)).map (·.2)) ((l.find? (·.key.isStr z)).map (·.val)) ∧ l.any (·.refKey) = false
  | [], [], _ => ⟨trivial, rfl⟩
  | e :: r, p :: s, h => by
    obtain ⟨⟨t, h1, h2, h3⟩, h4⟩ := h
    obtain ⟨i1, i2⟩ := EntLit.find z h4
    have hr : e.refKey = false := by unfold DictEntry.refKey; rw [h1]
    refine ⟨?_, by rw [List.any_cons, hr, i2]; rfl⟩
    rw [List.find?_cons, List.find?_cons]
    have hs : e.key.isStr z = decide (p.1 = z) := by
      rw [h1]
      show (p.1 == z) = _
      by_cases q : p.1 = z
      · rw [q, decide_eq_true rfl]; exact beq_self_eq_true z
      · rw [decide_eq_false q]; exact beq_eq_false_iff_ne.mpr q
    rw [hs]
    cases decide (p.1 = z)
    · exact i1
    · exact h3
  | [], _ :: _, h => h.elim
  | _ :: _, [], h => h.elim
theorem mdictL {K : PySem.W.Frag} {w : World} {d : Addr} {es : Array DictEntry} {n : Nat} {kv : List (Str × V)} (hl : K.lookup d = some ⟨.type "dict", none, .dict es n, #[]⟩) (he : EntLit w.params es.toList kv) (low : (d == sysModules) = false) : MDict K w d (tabG kv) := by
  refine ⟨es, n, ⟨hl, he.keys, low⟩, fun z => ?_⟩
  obtain ⟨h1, h2⟩ := he.find z
  refine ⟨_, ?_, h1⟩
  unfold PySem.W.nsIn
  rw [hl]
  dsimp only
  cases es.toList.find? (·.key.isStr z) with
  | some e => rfl
  | none => rw [h2]; rfl
/-! ### texts -/
abbrev tJS (ts : List TE) : TE := fun σ H Q => tJs ts Str.empty σ H fun out H1 => Q (.str out) H1
abbrev qJoin (K : PySem.W.Frag) : V → List V → Hp → VK → Prop := fun x xs H Q => ∃ a p, ∃ ys : List Str, x = .str a ∧ xs = [.ref p] ∧ (SqL K H p (ys.map V.str) ∨ SqT K H p (ys.map V.str)) ∧ (ys.map (·.length)).sum + ys.length * a.length ≤ 16777216 ∧ Q (.str (Txt.join a ys)) H
abbrev qCount : V → List V → Hp → VK → Prop := fun x xs H Q => ∃ a b, x = .str a ∧ xs = [.str b] ∧ Q (.int (Txt.count a b)) H
abbrev qSplit : V → List V → Hp → VK → Prop := fun x xs H Q => ∃ a b, x = .str a ∧ xs = [.str b] ∧ (b.length == 0) = false ∧ a.length + 2 ≤ sizeLine ∧ rNewStrs (Txt.split a b) H Q
abbrev qStarts : V → List V → Hp → VK → Prop := fun x xs H Q => ∃ a b, x = .str a ∧ xs = [.str b] ∧ Q (.bl (Txt.startswith a b)) H
section
variable {K : PySem.W.Frag} {σ : L2.St} {H : Hp} {Q : VK} {te : TE} {ts : List TE}
theorem w_js (q : tJs ts Str.empty σ H fun out H1 => Q (.str out) H1) : tJS ts σ H Q := q
theorem w_jcons {acc : Str} {R : Str → Hp → Prop} (q : te σ H fun x H1 => ∃ y : Str, x = .str y ∧ (acc ++ y).length ≤ sizeLine ∧ tJs ts (acc ++ y) σ H1 R) : tJs (te :: ts) acc σ H R := q
theorem w_jnil {acc : Str} {R : Str → Hp → Prop} (q : R acc H) : tJs [] acc σ H R := q
theorem w_jy {acc y : Str} {R : Str → Hp → Prop} (h : (acc ++ y).length ≤ 100000) (q : tJs ts (acc ++ y) σ H R) : ∃ z : Str, V.str y = .str z ∧ (acc ++ z).length ≤ sizeLine ∧ tJs ts (acc ++ z) σ H R := ⟨y, rfl, sz h, q⟩
theorem w_fmt (q : te σ H fun x H1 => (∃ y : Str, x = .str y ∧ y.length ≤ sizeLine ∧ Q (.str y) H1) ∨ ∃ i : Int, x = .int i ∧ i.natAbs.log2 < 1920 ∧ Q (.str (toString i)) H1) : tFmt te σ H Q := q
theorem w_fmtS {y : Str} {A : Prop} {R : Str → Prop} (h : y.length ≤ 100000) (q : R y) : (∃ z : Str, V.str y = .str z ∧ z.length ≤ sizeLine ∧ R z) ∨ A := .inl ⟨y, rfl, sz h, q⟩
theorem log_small {i : Int} (h0 : 0 ≤ i) (h1 : i ≤ 100000000000000000000) : i.natAbs.log2 < 1920 := by
  have h2 : i.natAbs ≤ 100000000000000000000 := by omega
  have h3 : i.natAbs.log2 < 67 := by
    by_cases h : i.natAbs = 0
    · rw [h]; decide
    · exact (Nat.log2_lt h).mpr (Nat.lt_of_le_of_lt h2 (by decide))
  omega
theorem w_fmtI {i : Int} {A : Prop} {R : Int → Prop} (h0 : 0 ≤ i) (h1 : i ≤ 100000000000000000000) (q : R i) : A ∨ ∃ j : Int, V.int i = .int j ∧ j.natAbs.log2 < 1920 ∧ R j := .inr ⟨i, rfl, log_small h0 h1, q⟩
theorem int_len {i : Int} (h0 : 0 ≤ i) (h1 : i ≤ 100000000000000000000) : (Str.ofString (toString i)).length ≤ 70 := by
  have h2 : i.natAbs.log2 < 67 := by
    by_cases h : i.natAbs = 0
    · rw [h]; decide
    · exact (Nat.log2_lt h).mpr (Nat.lt_of_le_of_lt (show i.natAbs ≤ 100000000000000000000 by omega) (by decide))
  have e := int_text_length_le (k := 67) (by decide) h2
  rw [PySem.ofString_length]
  omega
theorem w_joinL {a : Str} {p : Addr} {ys : List Str} (h : SqL K H p (ys.map V.str)) (z : (ys.map (·.length)).sum + ys.length * a.length ≤ 100000) (q : Q (.str (Txt.join a ys)) H) : qJoin K (.str a) [.ref p] H Q := ⟨a, p, ys, rfl, rfl, .inl h, Nat.le_trans z (by decide), q⟩
theorem w_joinT {a : Str} {p : Addr} {ys : List Str} (h : SqT K H p (ys.map V.str)) (z : (ys.map (·.length)).sum + ys.length * a.length ≤ 100000) (q : Q (.str (Txt.join a ys)) H) : qJoin K (.str a) [.ref p] H Q := ⟨a, p, ys, rfl, rfl, .inr h, Nat.le_trans z (by decide), q⟩
theorem w_count {a b : Str} (q : Q (.int (Txt.count a b)) H) : qCount (.str a) [.str b] H Q := ⟨a, b, rfl, rfl, q⟩
theorem strKind_pos (a : Str) : 1 ≤ Builtin.Str.strKind a := by
  unfold Builtin.Str.strKind
  split
  · exact Nat.le_refl _
  · split <;> decide
theorem w_split {a b : Str} (h : (b.length == 0) = false) (z : a.length ≤ 100000) (q : ∀ p, H p = none → Q (.ref p) (upd H p (.lst ((Txt.split a b).map V.str)))) : qSplit (.str a) [.str b] H Q :=
  ⟨a, b, rfl, rfl, h, Nat.le_trans (Nat.add_le_add_right z 2) (by decide), q⟩
theorem w_tab {A : Addr} {g : Str → Option V} {z : Str} {v : V} (h : g z = some v) (q : Q v H) : rTab A g (.ref A) (.str z) H Q := ⟨z, v, rfl, rfl, h, q⟩
theorem w_catA {a b : Addr} {xs ys : List V} (h : SqT K H a xs) (h' : SqT K H b ys) (z : xs.length + ys.length ≤ 1000) (q : ∀ p H', Same H H' → SqT K H' p (xs ++ ys) → Q (.ref p) H') : rCatA K (.ref a) (.ref b) H Q := by
  refine ⟨a, b, xs, ys, rfl, rfl, h, h', Nat.le_trans z (by decide), fun e => ?_, fun _ e => ?_, fun _ _ p hp => ?_⟩
  · subst e
    exact q b H (Same.refl H) h'
  · subst e
    rw [List.append_nil] at q
    exact q a H (Same.refl H) h
  · exact q p _ (Same.upd (Same.refl H) hp) (SqT.of upd_same)
end
/-! ### new objects as heaps of their own; tests that are known -/
theorem Same.get {H H' : Hp} {a : Addr} {o : HO} (h : Same H H') (e : H a = some o) : H' a = some o := h _ _ e
section
variable {K : PySem.W.Frag} {σ : L2.St} {H : Hp} {Q : VK} {v : V} {tr : TA}
/-- a new object -/
def New (H : Hp) (o : HO) (R : Addr → Hp → Prop) : Prop := ∀ p, H p = none → R p (upd H p o)
theorem w_new {o : HO} {R : Addr → Hp → Prop} (q : ∀ p H2, H p = none → Same H H2 → H2 p = some o → R p H2) : New H o R := fun p hp => q p _ hp (Same.upd (Same.refl H) hp) upd_same
theorem newT {t : Addr} {o : HO} (ht : H t = none) : ∃ G, G = upd H t o ∧ Same H G ∧ G t = some o := ⟨_, rfl, Same.upd (Same.refl H) ht, upd_same⟩
theorem Same.sqT {H H' : Hp} {a : Addr} {xs : List V} (e : Same H H') (h : SqT K H a xs) : SqT K H' a xs := h.elim (fun r => .inl (r.elim (fun r => .inl (e _ _ r)) fun ⟨o, r⟩ => .inr ⟨o, e _ _ r⟩)) .inr
theorem w_zipM {ta : TA} {R : It → Hp → Prop} (q : ta σ H fun vs H1 => ∃ a b xs ys, vs = [.ref a, .ref b] ∧ SqT K H1 a xs ∧ SqL K H1 b ys ∧ R (ZMix.ItM K a b) H1) : ZMix.iZipM K ta σ H R := q
theorem w_tupV (q : tr σ H fun xs H1 => xs.length ≤ sizeLine ∧ New H1 (.tup xs) fun p H2 => Q (.ref p) H2) : tTup tr σ H Q := q
theorem w_lstV (q : tr σ H fun xs H1 => xs.length ≤ sizeLine ∧ New H1 (.lst xs) fun p H2 => Q (.ref p) H2) : tLst tr σ H Q := q
theorem w_appV {p : Addr} {xs : List V} (h : H p = some (.lst xs)) (z : xs.length ≤ 100000) (q : ∀ H2, Kp p H H2 → H2 p = some (.lst (xs ++ [v])) → Q .non H2) : rAppend (.ref p) [v] H Q :=
  ⟨p, xs, v, rfl, rfl, h, Nat.lt_of_le_of_lt z (by decide), q _ Kp.refl.updp upd_same⟩
theorem w_catV {l b : Addr} {xs zs : List V} (h : H l = some (.lst xs)) (h' : H b = some (.lst zs)) (z : xs.length + zs.length ≤ 1000000) (q : ∀ p H2, H p = none → Same H H2 → H2 p = some (.lst (xs ++ zs)) → Q (.ref p) H2) : rCat (.ref l) (.ref b) H Q :=
  ⟨l, b, xs, zs, rfl, rfl, h, h', Nat.le_trans z (by decide), fun p hp => q p _ hp (Same.upd (Same.refl H) hp) upd_same⟩
theorem w_listOfV {p : Addr} {ys : List V} (h : SqL K H p ys ∨ SqT K H p ys) (q : ∀ l H2, H l = none → Same H H2 → H2 l = some (.lst ys) → Q (.ref l) H2) : qListOf K [.ref p] H Q :=
  ⟨p, ys, rfl, h, fun l hl => q l _ hl (Same.upd (Same.refl H) hl) upd_same⟩
theorem w_slTV {a : Addr} {xs : List V} {lo hi : Option Int} (h : SqT K H a xs) (n : ¬ (HT.sIx xs.length 0 lo = 0 ∧ HT.sIx xs.length xs.length hi = xs.length)) (q : ∀ p H2, H p = none → Same H H2 → H2 p = some (.tup (cutV xs lo hi)) → Q (.ref p) H2) : rSlT K (.ref a) lo hi H Q :=
  ⟨a, xs, rfl, h, n, fun p hp => q p _ hp (Same.upd (Same.refl H) hp) upd_same⟩
theorem w_slLV {a : Addr} {xs : List V} {lo hi : Option Int} (h : SqL K H a xs) (q : ∀ p H2, H p = none → Same H H2 → H2 p = some (.lst (cutV xs lo hi)) → Q (.ref p) H2) : rSlL K (.ref a) lo hi H Q :=
  ⟨a, xs, rfl, h, fun p hp => q p _ hp (Same.upd (Same.refl H) hp) upd_same⟩
theorem w_splitV {a b : Str} (h : (b.length == 0) = false) (z : a.length ≤ 100000) (q : ∀ p H2, H p = none → Same H H2 → H2 p = some (.lst ((Txt.split a b).map V.str)) → Q (.ref p) H2) : qSplit (.str a) [.str b] H Q :=
  ⟨a, b, rfl, rfl, h, Nat.le_trans (Nat.add_le_add_right z 2) (by decide), fun p hp => q p _ hp (Same.upd (Same.refl H) hp) upd_same⟩
theorem w_inTb {p : Addr} {xs : List V} {b : Bool} (h : SqT K H p xs) (f : flatV v = true) (fs : xs.all flatV = true) (e : inV v xs = b) (q : Q (.bl b) H) : rIn K false v (.ref p) H Q := w_inT h f fs (by rw [e]; exact q)
theorem w_inLb {p : Addr} {xs : List V} {b : Bool} (h : SqL K H p xs) (f : flatV v = true) (fs : xs.all flatV = true) (e : inV v xs = b) (q : Q (.bl b) H) : rIn K false v (.ref p) H Q := w_inL h f fs (by rw [e]; exact q)
theorem w_dec1 {c A B : Prop} [Decidable c] (h : c) (q : A) : if decide c = true then A else B := by rw [if_pos (decide_eq_true h)]; exact q
theorem w_dec0 {c A B : Prop} [Decidable c] (h : ¬ c) (q : B) : if decide c = true then A else B := by rw [if_neg (by rw [decide_eq_true_iff]; exact h)]; exact q
end
/-! ### join -/
theorem join_nil (a : Str) : Txt.join a [] = Str.empty := by rfl
theorem join_eq (a : Str) (ys : List Str) : Txt.join a ys = Str.join a ys := StrLaws.glued_eq_join a ys
theorem join_len (a : Str) (ys : List Str) : (Txt.join a ys).length ≤ (ys.map (·.length)).sum + ys.length * a.length := by
  rw [join_eq]
  exact StrLaws.join_length_le a ys
theorem sum_le {α : Type} (f : α → Nat) (m : Nat) : ∀ {l : List α}, (∀ x ∈ l, f x ≤ m) → (l.map f).sum ≤ l.length * m
  | [], _ => Nat.zero_le _
  | x :: l, h => by
    rw [List.map_cons, List.sum_cons, List.length_cons, Nat.succ_mul]
    have := sum_le f m (l := l) fun y hy => h y (List.mem_cons_of_mem _ hy)
    have := h x (List.mem_cons_self ..)
    omega
/-! ### lines of a text -/
theorem split_len {a b : Str} (hb : b.length = 1) (hk : ¬ (Builtin.Str.strKind a < Builtin.Str.strKind b)) : ((Txt.split a b).length : Int) = Txt.count a b + 1 := by
  unfold Txt.split Txt.count
  by_cases h : a.length < b.length
  · have h0 : a.length = 0 := by omega
    rw [if_pos (by rw [decide_eq_true h]; rfl)]
    have e : a = ⟨#[]⟩ := by
      obtain ⟨c⟩ := a
      have : c.size = 0 := h0
      rw [Array.size_eq_zero_iff] at this
      rw [this]
    subst e
    have : Builtin.Str.occurrences ⟨#[]⟩ b 0 (⟨#[]⟩ : Str).length ((⟨#[]⟩ : Str).length + 1) = [] := by
      unfold Builtin.Str.occurrences
      show (Id.run do _) = _
      simp [Str.length, hb]
      have h1 : b.cps.size = 1 := hb
      have h2 : b.cps ≠ #[] := fun e => by rw [e] at h1; exact nomatch h1
      simp [h2]
    rw [this]
    rfl
  · rw [if_neg (by rw [decide_eq_false h, decide_eq_false hk]; decide)]
    by_cases h2 : (Builtin.Str.occurrences a b 0 a.length (a.length + 1)).isEmpty = true
    · rw [if_pos h2, List.isEmpty_iff.mp h2]
      rfl
    · rw [if_neg h2]
      unfold Builtin.Str.partsBetween
      simp only [List.length_map, List.length_zip, List.length_cons, List.length_append, List.length_map, List.length_nil]
      omega
theorem split_lines (a : Str) : ((Txt.split a (Str.ofString "\n")).length : Int) = Txt.count a (Str.ofString "\n") + 1 := split_len rfl fun h => by
  have h1 := strKind_pos a
  have h2 : Builtin.Str.strKind (Str.ofString "\n") = 1 := by decide +kernel
  omega
theorem count_le (a : Str) : 0 ≤ Txt.count a (Str.ofString "\n") ∧ Txt.count a (Str.ofString "\n") ≤ a.length + 1 := by
  have h1 := split_lines a
  have h2 := PyProof.Rows.split_le a (Str.ofString "\n")
  refine ⟨by unfold Txt.count; exact Int.natCast_nonneg _, by omega⟩
end Wp

namespace T
open PySem PySem.Spec PyProof.Rows L2 TyNe Wp
local macro_rules | `(tactic| walk_at "ne") => `(tactic| first
  | assumption
  | (refine Ne.symm ?_; assumption)
  | exact ne_of_none (by assumption) (by assumption)
  | exact (ne_of_none (by assumption) (by assumption)).symm
  | exact Stm.ne (by assumption) (by assumption)
  | exact (Stm.ne (by assumption) (by assumption)).symm)
local macro_rules | `(tactic| walk_at "hp") => `(tactic| first
  | assumption
  | exact upd_same
  | (rw [upd_ne (by walk_at "ne")]; walk_at "hp")
  | (refine Same.get (by assumption) ?_; walk_at "hp")
  | (refine Kp.get (by assumption) ?_ ?_ <;> first | (walk_at "hp"; done) | (walk_at "ne"; done)))
local macro_rules | `(tactic| walk_at "sq") => `(tactic| first
  | assumption
  | exact TupK.sq (by assumption)
  | exact SqL.of (by walk_at "hp")
  | exact SqT.of (by walk_at "hp"))
local macro_rules | `(tactic| walk_at "ar") => `(tactic| first
  | assumption | rfl | omega | decide)
/-- one step of a reading -/
local macro_rules | `(tactic| walk_at "w1") => `(tactic| first
  | with_reducible refine w_seq ?_
  | with_reducible refine w_asg ?_
  | ((with_reducible show tVar _ _ _ _); refine w_var rfl ?_)
  | with_reducible refine w_c ?_
  | with_reducible refine w_name ?_
  | with_reducible refine w_op ?_
  | with_reducible refine w_un ?_
  | with_reducible refine w_cons ?_
  | with_reducible refine w_nil ?_
  | with_reducible refine w_call ?_
  | with_reducible refine w_cb ?_
  | with_reducible refine w_ret ?_
  | with_reducible refine w_retN ?_
  | with_reducible refine w_ifS ?_
  | with_reducible refine w_test ?_
  | with_reducible refine w_B ?_
  | with_reducible refine w_exb ?_
  | with_reducible refine w_exi ?_
  | with_reducible refine w_next ?_
  | with_reducible refine w_drop ?_
  | with_reducible refine w_and ?_
  | with_reducible refine w_or ?_
  | with_reducible refine w_not ?_
  | with_reducible refine w_andV ?_
  | with_reducible refine w_orV ?_
  | with_reducible refine w_notV ?_
  | with_reducible refine w_if ?_
  | with_reducible refine w_chain ?_
  | with_reducible refine w_sub ?_
  | with_reducible refine w_tup ?_
  | with_reducible refine w_lst ?_
  | with_reducible refine w_sl ?_
  | with_reducible refine w_noPart ?_
  | with_reducible refine w_part ?_
  | with_reducible refine w_I0 ?_
  | ((with_reducible refine w_I ?c ?_); (case c => first | exact .inr (by decide) | exact .inl (by decide) | exact (show (0 : Int) < _ by omega) | exact cmul_l (by omega) (by omega) | exact cmul_r (by omega) (by omega) | exact And.intro (by omega) (by omega) | exact And.intro (by decide) (And.intro (by decide) (by decide))))
  | with_reducible refine w_U ?_
  | with_reducible refine w_eqI ?_
  | with_reducible refine w_neI ?_
  | with_reducible refine w_eqS ?_
  | with_reducible refine w_neS ?_
  | with_reducible refine w_eqB ?_
  | with_reducible refine w_inSign ?_
  | with_reducible refine w_ninSign ?_
  | with_reducible refine w_isBl ?_
  | with_reducible refine w_int1 ?_
  | with_reducible refine w_int1b ?_
  | with_reducible refine w_max2 ?_
  | with_reducible refine w_bm ?_
  | with_reducible refine w_lc ?_
  | with_reducible refine w_iList ?_
  | with_reducible refine w_iTup ?_
  | with_reducible refine w_iStr ?_
  | with_reducible refine w_exs ?_
  | with_reducible refine w_isN ?_
  | with_reducible refine w_notN ?_
  | ((with_reducible show tyV _ "str" (.str _) _ ∧ _); refine And.intro rfl ?_)
  | ((with_reducible show tyV _ "list" (.ref _) _ ∧ _); refine w_tyL (by walk_at "hp") ?_)
  | with_reducible refine w_min2 ?_
  | ((with_reducible show rIxL _ (.ref _) (.int _) _ _); refine w_ixL (by walk_at "sq") (by first | exact rfl | exact atI_nat (j := 0) rfl | exact atI_nat (j := 1) rfl | exact atI_nat (j := 2) rfl) ?_)
  | ((with_reducible show rIxT _ (.ref _) (.int _) _ _); refine w_ixT (by walk_at "sq") (by first | exact rfl | exact atI_nat (j := 0) rfl | exact atI_nat (j := 1) rfl | exact atI_nat (j := 2) rfl) ?_)
  | ((with_reducible show rSetL (.ref _) (.int _) _ _ _); refine w_setL (by walk_at "hp") (by exact rfl) ?_)
  | ((with_reducible show qLenSeq _ [.ref _] _ _); first | refine w_lenL (by walk_at "sq") ?_ | refine w_lenT (by walk_at "sq") ?_)
  | with_reducible refine w_nf ?_
  | with_reducible refine w_nt ?_
  | with_reducible refine iteT ?_
  | with_reducible refine iteF ?_
  | ((with_reducible refine w_len0 ?h ?_); (case h => exact sz (by simp))))
local macro_rules | `(tactic| walk_at "w") => `(tactic| repeat (walk_at "w1"))
local macro_rules | `(tactic| walk_at "if") => `(tactic| first
  | (with_reducible refine w_ite ?_ ?_) | (with_reducible refine w_iteN ?_ ?_) | (with_reducible refine w_iteb ?_ ?_))
/-- the same, new objects as heaps of their own -/
local macro_rules | `(tactic| walk_at "v1") => `(tactic| first
  | with_reducible refine w_tupV ?_
  | with_reducible refine w_lstV ?_
  | with_reducible refine w_jcons ?_
  | with_reducible refine w_jnil ?_
  | with_reducible refine w_fmt ?_
  | with_reducible refine w_js ?_
  | with_reducible refine w_zipM ?_
  | ((with_reducible refine w_dec1 (by decide) ?_))
  | ((with_reducible refine w_dec0 (by decide) ?_))
  | ((with_reducible show qJoin _ (.str _) [.ref _] _ _); first | refine w_joinL (by walk_at "sq") ?_ ?_ | refine w_joinT (by walk_at "sq") ?_ ?_)
  | with_reducible refine w_count ?_
  | ((with_reducible show rIn _ _ (.str _) (.ref _) _ _); first | refine w_inTb (b := true) (by walk_at "sq") rfl rfl (by decide +kernel) ?_ | refine w_inTb (b := false) (by walk_at "sq") rfl rfl (by decide +kernel) ?_ | refine w_inLb (b := true) (by walk_at "sq") rfl rfl (by decide +kernel) ?_ | refine w_inLb (b := false) (by walk_at "sq") rfl rfl (by decide +kernel) ?_)
  | walk_at "w1")
local macro_rules | `(tactic| walk_at "v") => `(tactic| repeat (walk_at "v1"))
local macro_rules | `(tactic| walk_at "dn") => `(tactic| first
  | assumption
  | (refine Dn.same ?_ (by assumption); walk_at "dn")
  | (refine Dn.kp ?_ (by assumption); walk_at "dn")
  | (refine Dn.any ?_; walk_at "dn"))
local macro_rules | `(tactic| walk_at "ln") => `(tactic| first
  | decide
  | omega
  | (simp only [List.length_append, List.length_map, List.length_cons, List.length_nil]; omega))
/-- the same, new objects without names, sums of texts, numbers as texts, append -/
local macro_rules | `(tactic| walk_at "z1") => `(tactic| first
  | ((with_reducible refine w_new ?_); intro _ _ _ _ _)
  | ((with_reducible show rAppend (.ref _) [_] _ _); refine w_appV (by walk_at "hp") (by walk_at "ln") ?_; intro _ _ _)
  | ((with_reducible show qAddS (.str _) (.str _) _ _); refine w_addS (sz (by simp only [Str.length_append]; omega)) ?_)
  | ((with_reducible show qStrInt [.int _] _ _); refine w_strInt (by omega) (by omega) ?_)
  | walk_at "v1")
local macro_rules | `(tactic| walk_at "z") => `(tactic| repeat (walk_at "z1"))
/-- statements alone, up to the first expression -/
local macro_rules | `(tactic| walk_at "s") => `(tactic| repeat (first
  | with_reducible refine w_seq ?_
  | with_reducible refine w_asg ?_
  | with_reducible refine w_name ?_
  | with_reducible refine w_next ?_
  | with_reducible refine w_c ?_
  | with_reducible refine w_ret ?_
  | with_reducible refine w_drop ?_
  | with_reducible refine w_ifS ?_
  | with_reducible refine w_test ?_))
/-- the same, and not into a test -/
local macro_rules | `(tactic| walk_at "b") => `(tactic| repeat (first
  | with_reducible refine w_seq ?_
  | with_reducible refine w_asg ?_
  | with_reducible refine w_name ?_
  | with_reducible refine w_next ?_
  | with_reducible refine w_c ?_
  | with_reducible refine w_ret ?_
  | with_reducible refine w_drop ?_))

abbrev v_WIDTH : V := .int 60
abbrev v_BAR : V := .str "|"
abbrev v_PERIOD : V := .str "."
def IsM_HEAD (K : PySem.W.Frag) (A : Addr) : Prop := TupK K A [.str "From", .str "Stamp", .str "Seen", .str "Kind"]
def IsM_BEHIND (K : PySem.W.Frag) (kv : List (Str × V)) : Prop := ∃ a0 a1 a2 a3 a4 a5 a6 a7 a8 a9 a10, kv = [(("found" : Str), V.ref a0), (("say" : Str), V.ref a1), (("reply" : Str), V.ref a2), (("edit" : Str), V.ref a3), (("recall" : Str), V.ref a4), (("mark" : Str), V.ref a5), (("title" : Str), V.ref a6), (("add" : Str), V.ref a7), (("cut" : Str), V.ref a8), (("hand" : Str), V.ref a9), (("seen" : Str), V.ref a10)] ∧ TupK K a0 [.str "Title", .str "Members"] ∧ TupK K a1 [.str "Lines"] ∧ TupK K a2 [.str "Ref", .str "Lines"] ∧ TupK K a3 [.str "Ref", .str "Lines"] ∧ TupK K a4 [.str "Ref"] ∧ TupK K a5 [.str "Ref", .str "Word"] ∧ TupK K a6 [.str "Title"] ∧ TupK K a7 [.str "Name"] ∧ TupK K a8 [.str "Name"] ∧ TupK K a9 [.str "Name"] ∧ TupK K a10 []
/-- what is known of the class Letter at C -/
structure IsC_Letter (K : PySem.W.Frag) (C : Addr) : Prop where
  cl : Cls K C
  n_author : NoAttr K C "author"
  n_number : NoAttr K C "number"
  n_stamp : NoAttr K C "stamp"
  n_seen : NoAttr K C "seen"
  n_body : NoAttr K C "body"
  n_counts : NoAttr K C "_counts"
/-! ### the defs of the stream of draws -/
def spCell (K : PySem.W.Frag) : Sp := fun vs H Q _ => ∃ (a : Addr) (ns : List Int) (k : Int), vs = [.ref a, .int k] ∧ SqL K H a (ns.map V.int) ∧ 0 ≤ k ∧ ∀ z, Q (.int z) H
def spStream (K : PySem.W.Frag) : Sp := fun vs H Q _ => ∃ (c k : Int), vs = [.int c, .int k] ∧ ∀ p H', H p = none → Same H H' → Stm H' p → Q (.ref p) H'
def spNext (K : PySem.W.Frag) : Sp := fun vs H Q _ => ∃ (p : Addr) (n : Int), vs = [.ref p, .int n] ∧ Stm H p ∧ 0 < n ∧ n < 1073741824 ∧ ∀ v H', Kp p H H' → Stm H' p → 0 ≤ v → v < n → Q (.int v) H'
def spFlag (K : PySem.W.Frag) : Sp := fun vs H Q _ => ∃ (a b : Bool), vs = [.bl a, .bl b] ∧ Q (.bl (decide (a = b))) H
section
variable {K : PySem.W.Frag} {vs : List V} {H : Hp} {Q : VK} {E : XK}
/-- _law_cell: slots 0:script 1:k -/
def t__law_cell (K : PySem.W.Frag) : TS := (tSeq (tIfS (tTest (tOp qLt (tVar 1) (tCB (qLenSeq K) (tCons (tVar 0) tNil)))) (tRet (tOp (rIxL K) (tVar 0) (tVar 1))) tNext)
  (tRet (tC (.int 0))))
theorem l__law_cell (h : spCell K vs H Q E) : vs.length = 2 := by obtain ⟨a, ns, k, rfl, _⟩ := h; rfl
theorem r__law_cell (h : spCell K vs H Q E) : t__law_cell K { nx := fun _ H' => Q .non H', rt := Q } (start ["script", "k"] vs) H := by
  obtain ⟨a, ns, k, rfl, hS, h0, q⟩ := h
  unfold t__law_cell
  walk_at "w"
  refine w_ite (fun hc => ?_) (fun hc => ?_)
  · walk_at "w"
    rw [List.length_map] at hc
    have hk : k.toNat < ns.length := by omega
    refine w_ixL hS (atI_of (v := .int ns[k.toNat]) h0 ?_) (q _)
    rw [List.getElem?_map, List.getElem?_eq_getElem hk]
    rfl
  · walk_at "w"
    exact q _
/-- _law_stream: slots 0:cell 1:k 2:digits -/
def t__law_stream (K : PySem.W.Frag) : TS := (tSeq (tAsg (tC (.int 0)) (gName 2))
  (tSeq (tIfS (tTest (tOp qGe (tVar 0) (tOp qPow (tC (.int 10)) (tC (.int 18))))) (tAsg (tVar 0) (gName 2)) tNext)
  (tRet (tLst (tCons (tVar 2) (tCons (tOp qMod (tCB qInt1 (tCons (tOp qAdd (tOp qAdd (tOp qMul (tVar 0) (tC (.int 48271))) (tOp qMul (tVar 1) (tC (.int 69621)))) (tC (.int 77))) tNil)) (tC (.int 2147483647))) tNil))))))
theorem l__law_stream (h : spStream K vs H Q E) : vs.length = 2 := by obtain ⟨c, k, rfl, _⟩ := h; rfl
theorem r__law_stream (h : spStream K vs H Q E) : t__law_stream K { nx := fun _ H' => Q .non H', rt := Q } (start ["cell", "k", "digits"] vs) H := by
  obtain ⟨c, k, rfl, q⟩ := h
  unfold t__law_stream
  walk_at "w"
  refine w_ite (fun hc => ?_) (fun hc => ?_)
  · walk_at "w"
    intro p hp
    refine q p _ hp (Same.upd (Same.refl H) hp) ⟨_, _, upd_same, ?_, Int.emod_nonneg _ (by decide)⟩
    have e : (10 : Int) ^ (18 : Int).toNat = 1000000000000000000 := by decide
    omega
  · walk_at "w"
    intro p hp
    exact q p _ hp (Same.upd (Same.refl H) hp) ⟨_, _, upd_same, by decide, Int.emod_nonneg _ (by decide)⟩
/-- _law_next: slots 0:stream 1:size 2:drawn -/
def t__law_next (K : PySem.W.Frag) : TS := (tSeq (tIfS (tTest (tOp qGt (tOp (rIxL K) (tVar 0) (tC (.int 0))) (tC (.int 0)))) (tSeq (tAsg (tOp qMod (tCB qInt1 (tCons (tOp (rIxL K) (tVar 0) (tC (.int 0))) tNil)) (tVar 1)) (gName 2))
  (tSeq (tAsg (tOp qFdiv (tOp (rIxL K) (tVar 0) (tC (.int 0))) (tVar 1)) (gSub (tVar 0) (tC (.int 0)) rSetL))
  (tRet (tVar 2)))) tNext)
  (tSeq (tAsg (tOp qMod (tCB qInt1 (tCons (tOp qAdd (tOp qMul (tOp (rIxL K) (tVar 0) (tC (.int 1))) (tC (.int 48271))) (tC (.int 12820163))) tNil)) (tC (.int 2147483647))) (gSub (tVar 0) (tC (.int 1)) rSetL))
  (tRet (tOp qMod (tCB qInt1 (tCons (tOp qFdiv (tOp qMod (tCB qInt1 (tCons (tOp qAdd (tOp qMul (tOp (rIxL K) (tVar 0) (tC (.int 1))) (tC (.int 16807))) (tC (.int 5))) tNil)) (tC (.int 2147483399))) (tC (.int 3))) tNil)) (tVar 1)))))
theorem l__law_next (h : spNext K vs H Q E) : vs.length = 2 := by obtain ⟨c, k, rfl, _⟩ := h; rfl
theorem r__law_next (h : spNext K vs H Q E) : t__law_next K { nx := fun _ H' => Q .non H', rt := Q } (start ["stream", "size", "drawn"] vs) H := by
  obtain ⟨p, n, rfl, ⟨a, b, hp, h0, h1⟩, hn, hm, q⟩ := h
  unfold t__law_next
  walk_at "w"
  refine w_ite (fun hc => ?_) (fun hc => ?_)
  · walk_at "w"
    exact q _ _ (Kp.updp Kp.refl) ⟨_, _, upd_same, Int.ediv_nonneg h0 (by omega), h1⟩ (Int.emod_nonneg _ (Int.ne_of_gt hn)) (Int.emod_lt_of_pos _ hn)
  · walk_at "w"
    exact q _ _ (Kp.updp Kp.refl) ⟨_, _, upd_same, h0, Int.emod_nonneg _ (by decide)⟩ (Int.emod_nonneg _ (Int.ne_of_gt hn)) (Int.emod_lt_of_pos _ hn)
end

/-! ### draws inside expressions -/
section
variable {K : PySem.W.Frag} {σ : L2.St} {H : Hp} {p : Addr} {P : PyData → Prop} {R : List PyData → Prop} {ta : TA}
theorem evs_next {i : Nat} {n : Int} (hi : σ[i]? = some (some (.ref p))) (h0 : 0 < n) (h1 : n < 1073741824) : EvS p (tCall (spNext K) [] C8.E0 (tCons (tVar i) (tCons (tC (.int n)) tNil))) σ H (fun d => ∃ v : Int, d = .int v ∧ 0 ≤ v ∧ v < n) := fun H1 k s Q q =>
  ⟨.ref p, hi, p, n, rfl, s, h0, h1, fun v H2 k2 s2 a b => q (.int v) (.int v) H2 k2 s2 ⟨v, rfl, a, b⟩ (.int v)⟩
/-- (a, b, ..)[draw] -/
theorem evs_pickT {i : Nat} {n : Int} (ha : EvSs p ta σ H R) (hi : σ[i]? = some (some (.ref p))) (h0 : 0 < n) (h1 : n ≤ 1000) (hR : ∀ ds, R ds → (ds.length : Int) = n ∧ ∀ d ∈ ds, P d) :
    EvS p (tOp (rIxT K) (tTup ta) (tCall (spNext K) [] C8.E0 (tCons (tVar i) (tCons (tC (.int n)) tNil)))) σ H P := fun H1 k s Q q =>
  evs_tup (P := fun d => ∃ ds, d = .tuple ds ∧ R ds) ha (fun ds r => ⟨by have := (hR ds r).1; omega, ds, rfl, r⟩) H1 k s _ fun v d H2 k2 s2 hd dn => by
    obtain ⟨ds, rfl, r⟩ := hd
    cases dn with
    | @tup a xs _ hap h hs =>
      refine evs_next hi h0 (by omega) H2 (k.trans k2) s2 _ fun v d H3 k3 s3 hv dv => ?_
      obtain ⟨j, rfl, j0, j1⟩ := hv
      cases dv
      have hl := hs.len
      have hn := (hR ds r).1
      have hj : j.toNat < xs.length := by omega
      obtain ⟨d, hd, dn⟩ := hs.get (List.getElem?_eq_getElem hj)
      refine w_ixT (SqT.of (k3 _ _ hap h)) (atI_of j0 (List.getElem?_eq_getElem hj)) (q _ d H3 (k2.trans k3) s3 ((hR ds r).2 d (List.mem_of_getElem? hd)) (dn.kp k3))
/-- [a, b, ..][draw] -/
theorem evs_pickL {i : Nat} {n : Int} (ha : EvSs p ta σ H R) (hi : σ[i]? = some (some (.ref p))) (h0 : 0 < n) (h1 : n ≤ 1000) (hR : ∀ ds, R ds → (ds.length : Int) = n ∧ ∀ d ∈ ds, P d) :
    EvS p (tOp (rIxL K) (tLst ta) (tCall (spNext K) [] C8.E0 (tCons (tVar i) (tCons (tC (.int n)) tNil)))) σ H P := fun H1 k s Q q =>
  evs_lst (P := fun d => ∃ ds, d = .list ds ∧ R ds) ha (fun ds r => ⟨by have := (hR ds r).1; omega, ds, rfl, r⟩) H1 k s _ fun v d H2 k2 s2 hd dn => by
    obtain ⟨ds, rfl, r⟩ := hd
    cases dn with
    | @lst a xs _ hap h hs =>
      refine evs_next hi h0 (by omega) H2 (k.trans k2) s2 _ fun v d H3 k3 s3 hv dv => ?_
      obtain ⟨j, rfl, j0, j1⟩ := hv
      cases dv
      have hl := hs.len
      have hn := (hR ds r).1
      have hj : j.toNat < xs.length := by omega
      obtain ⟨d, hd, dn⟩ := hs.get (List.getElem?_eq_getElem hj)
      refine w_ixL (SqL.of (k3 _ _ hap h)) (atI_of j0 (List.getElem?_eq_getElem hj)) (q _ d H3 (k2.trans k3) s3 ((hR ds r).2 d (List.mem_of_getElem? hd)) (dn.kp k3))
/-- all of the parts, and how many -/
def Are (P : PyData → Prop) (n : Nat) (ds : List PyData) : Prop := ds.length = n ∧ ∀ d ∈ ds, P d
theorem are_nil : EvSs p tNil σ H (Are P 0) := evss_nil ⟨rfl, fun _ h => nomatch h⟩
theorem are_cons {te : TE} {n : Nat} (h : EvS p te σ H P) (hs : EvSs p ta σ H (Are P n)) : EvSs p (tCons te ta) σ H (Are P (n + 1)) :=
  evss_cons h hs fun d r hd hr => ⟨congrArg (· + 1) hr.1, fun x hx => (List.mem_cons.mp hx).elim (fun e => e ▸ hd) (hr.2 x)⟩
theorem are_pick {n : Nat} {m : Int} (e : (n : Int) = m) : ∀ ds, Are P n ds → (ds.length : Int) = m ∧ ∀ d ∈ ds, P d := fun ds h => ⟨by rw [h.1]; exact e, h.2⟩
/-- a number drawn -/
abbrev isInt (lo hi : Int) : PyData → Prop := fun d => ∃ v : Int, d = .int v ∧ lo ≤ v ∧ v ≤ hi
theorem evs_intIn {i lo hi : Int} (h1 : lo ≤ i) (h2 : i ≤ hi) : EvS p (tC (.int i)) σ H (isInt lo hi) := evs_int ⟨i, rfl, h1, h2⟩
theorem evs_nextIn {i : Nat} {n lo hi : Int} (hi' : σ[i]? = some (some (.ref p))) (h0 : 0 < n) (h1 : n < 1073741824) (hl : lo ≤ 0) (hh : n - 1 ≤ hi) : EvS p (tCall (spNext K) [] C8.E0 (tCons (tVar i) (tCons (tC (.int n)) tNil))) σ H (isInt lo hi) :=
  (evs_next hi' h0 h1).weak fun d ⟨v, e, a, b⟩ => ⟨v, e, by omega, by omega⟩
/-- 'abc'[draw] -/
theorem w_pickS {i : Nat} {n : Int} {z : Str} {Q : VK} (hs : Stm H p) (hi : σ[i]? = some (some (.ref p))) (h0 : 0 < n) (hz : (z.length : Int) = n) (h1 : n ≤ 1000) (q : ∀ c H2, c ∈ z.cps.toList → Kp p H H2 → Stm H2 p → Q (.str ⟨#[c]⟩) H2) :
    (tOp rIxS (tC (.str z)) (tCall (spNext K) [] C8.E0 (tCons (tVar i) (tCons (tC (.int n)) tNil)))) σ H Q := by
  refine (evs_next (K := K) (H := H) hi h0 (by omega)).use hs fun v d H2 k2 s2 hv dv => ?_
  obtain ⟨j, rfl, j0, j1⟩ := hv
  cases dv
  have hl : z.length = z.cps.toList.length := by simp [Str.length]
  have hj : j.toNat < z.cps.toList.length := by omega
  exact w_ixS (Nat.le_trans (show z.length ≤ 1000 by omega) (by decide)) (atI_of j0 (List.getElem?_eq_getElem hj)) (q _ H2 (List.getElem_mem hj) k2 s2)
theorem evss_eq {te : TE} {d : PyData} {r : List PyData} (h : EvS p te σ H (· = d)) (hs : EvSs p ta σ H (· = r)) : EvSs p (tCons te ta) σ H (· = d :: r) := evss_cons h hs fun _ _ a b => by rw [a, b]
theorem evss_eq0 : EvSs p tNil σ H (· = []) := evss_nil rfl
theorem evs_tupE {ds : List PyData} (h : EvSs p ta σ H (· = ds)) (hp : P (.tuple ds)) (hl : ds.length ≤ 100000 := by simp) : EvS p (tTup ta) σ H P := evs_tup h fun _ e => e ▸ ⟨hl, hp⟩
theorem evs_lstE {ds : List PyData} (h : EvSs p ta σ H (· = ds)) (hp : P (.list ds)) (hl : ds.length ≤ 100000 := by simp) : EvS p (tLst ta) σ H P := evs_lst h fun _ e => e ▸ ⟨hl, hp⟩
end

/-! ### names and things -/
def LOW : Str := "abcdefghijklmnopqrstuvwxyz"
def DIG : Str := "0123456789"
/-- a name's sgns -/
def nameS (z : Str) : Bool := decide (1 ≤ z.length ∧ z.length ≤ 12) && (match z.cps.toList with | [] => false | c :: _ => decide (c ∈ LOW.cps.toList)) && z.cps.toList.all fun c => decide (c ∈ LOW.cps.toList) || decide (c ∈ DIG.cps.toList)
def isNameD : PyData → Bool
  | .str z => nameS z
  | _ => false
def isPairD : PyData → Bool
  | .tuple ds => decide (ds.length = 2)
  | _ => false
def isRoomD : PyData → Bool
  | .tuple [a, b] => isNameD a && isNameD b
  | _ => false
/-- a text on the way is no longer than this -/
def smallB : PyData → Bool
  | .str z => decide (z.length ≤ 1000)
  | .list ds => decide (ds.length ≤ 1000)
  | .tuple ds => decide (ds.length ≤ 1000)
  | _ => true
abbrev small (d : PyData) : Prop := smallB d = true
theorem small.str {z : Str} (h : small (.str z)) : z.length ≤ 1000 := of_decide_eq_true h
def spName (K : PySem.W.Frag) : Sp := fun vs H Q _ => ∃ v d, vs = [v] ∧ Dn Any H v d ∧ small d ∧ ∀ H', Same H H' → Q (.bl (isNameD d)) H'
def spLawName (K : PySem.W.Frag) : Sp := fun vs H Q _ => ∃ v d, vs = [v] ∧ Dn Any H v d ∧ small d ∧ Q (.bl (isNameD d)) H
def spPair (K : PySem.W.Frag) : Sp := fun vs H Q _ => ∃ v d, vs = [v] ∧ Dn Any H v d ∧ Q (.bl (isPairD d)) H
def allSmallB : PyData → Bool
  | .tuple ds => ds.all smallB
  | _ => true
abbrev allSmall (d : PyData) : Prop := allSmallB d = true
def spRoom (K : PySem.W.Frag) : Sp := fun vs H Q _ => ∃ v d, vs = [v] ∧ Dn Any H v d ∧ allSmall d ∧ ∀ H', Same H H' → Q (.bl (isRoomD d)) H'
section
variable {K : PySem.W.Frag} {vs : List V} {H : Hp} {Q : VK} {E : XK}
theorem str_len (z : Str) : z.length = z.cps.toList.length := by simp [Str.length]
theorem atI_zero {z : Str} {c : Nat} {r : List Nat} (e : z.cps.toList = c :: r) : atI z.cps.toList 0 = some c := atI_of (by decide) (by rw [e]; rfl)
theorem nameS_iff {z : Str} (h : 1 ≤ z.length ∧ z.length ≤ 12) : nameS z = true ↔ ∀ (k c : Nat), z.cps.toList[k]? = some c → c ∈ LOW.cps.toList ∨ (k ≠ 0 ∧ c ∈ DIG.cps.toList) := by
  unfold nameS
  rw [decide_eq_true h, Bool.true_and]
  have hl : 1 ≤ z.cps.toList.length := by
    rw [← str_len]
    exact h.1
  generalize z.cps.toList = l at *
  cases l with
  | nil => exact absurd hl (by decide)
  | cons c r =>
    rw [Bool.and_eq_true, decide_eq_true_eq, List.all_eq_true]
    refine ⟨fun ⟨h1, h2⟩ k d e => ?_, fun g => ⟨?_, fun d hd => ?_⟩⟩
    · have hm := h2 d (List.mem_of_getElem? e)
      rw [Bool.or_eq_true, decide_eq_true_eq, decide_eq_true_eq] at hm
      cases k with
      | zero =>
        have e' := Option.some.inj e
        rw [← e']
        exact .inl h1
      | succ k =>
        rcases hm with hm | hm
        · exact .inl hm
        · exact .inr ⟨Nat.succ_ne_zero k, hm⟩
    · rcases g 0 c rfl with g | g
      · exact g
      · exact (g.1 rfl).elim
    · obtain ⟨k, e⟩ := List.getElem?_of_mem hd
      rw [Bool.or_eq_true, decide_eq_true_eq, decide_eq_true_eq]
      rcases g k d e with g | g
      · exact .inl g
      · exact .inr g.2
end

/-! ### numbers, titles, texts, refs -/
def isNumD : PyData → Bool
  | .int i => decide (1 ≤ i ∧ i ≤ 1000000000000000000)
  | _ => false
/-- from the space to ~ -/
def prB (c : Nat) : Bool := decide (32 ≤ c) && decide (c ≤ 126)
def titleS (z : Str) : Bool := decide (z.length ≤ 60) && z.cps.toList.all prB
def textS (z : Str) : Bool := decide (1 ≤ z.length ∧ z.length ≤ 400) && z.cps.toList.all fun c => decide (c = 10) || prB c
def isTitleD : PyData → Bool
  | .str z => titleS z
  | _ => false
def isTextD : PyData → Bool
  | .str z => textS z
  | _ => false
def isRefD : PyData → Bool
  | .tuple [a, b] => isNameD a && isNumD b
  | _ => false
/-- asked of any thing: yes or no, nothing changed -/
def spAsk0 (f : PyData → Bool) : Sp := fun vs H Q _ => ∃ v d, vs = [v] ∧ Dn Any H v d ∧ small d ∧ Q (.bl (f d)) H
/-- .. with new objects on the way -/
def spAsk (f : PyData → Bool) : Sp := fun vs H Q _ => ∃ v d, vs = [v] ∧ Dn Any H v d ∧ small d ∧ allSmall d ∧ ∀ H', Same H H' → Q (.bl (f d)) H'
def spNumber (K : PySem.W.Frag) : Sp := spAsk0 isNumD
def spLawNumber (K : PySem.W.Frag) : Sp := spAsk0 isNumD
def spTitle (K : PySem.W.Frag) : Sp := spAsk isTitleD
def spText (K : PySem.W.Frag) : Sp := spAsk isTextD
def spRef (K : PySem.W.Frag) : Sp := spAsk isRefD
def spLawLine (K : PySem.W.Frag) : Sp := spAsk isTitleD
def spLawText (K : PySem.W.Frag) : Sp := spAsk isTextD
def spLawRef (K : PySem.W.Frag) : Sp := spAsk isRefD
def spPrinted (K : PySem.W.Frag) : Sp := fun vs H Q _ => ∃ c : Nat, vs = [.str ⟨#[c]⟩] ∧ Q (.bl (prB c)) H
section
variable {K : PySem.W.Frag} {vs : List V} {H : Hp} {Q : VK} {E : XK}
theorem ask0_len {f : PyData → Bool} (h : spAsk0 f vs H Q E) : vs.length = 1 := by obtain ⟨v, d, rfl, _⟩ := h; rfl
theorem ask_len {f : PyData → Bool} (h : spAsk f vs H Q E) : vs.length = 1 := by obtain ⟨v, d, rfl, _⟩ := h; rfl
theorem lt1 (c d : Nat) : decide ([c] < [d]) = decide (c < d) := by
  rw [decide_eq_decide, List.cons_lt_cons_iff]
  exact ⟨fun h => h.elim id fun h => absurd h.2 (List.not_lt_nil _), .inl⟩
theorem code_space : (Str.ofString " ").cps.toList = [32] := by decide
theorem code_tilde : (Str.ofString "~").cps.toList = [126] := by decide
theorem code_one (c : Nat) : (⟨#[c]⟩ : Str).cps.toList = [c] := rfl
theorem not_lt1 (c d : Nat) : (!decide ([c] < [d])) = decide (d ≤ c) := by
  rw [lt1]
  by_cases h : c < d
  · rw [decide_eq_true h, decide_eq_false (by omega)]; rfl
  · rw [decide_eq_false h, decide_eq_true (by omega)]; rfl
theorem w_leS {i j : Str} (q : Q (.bl (!decide (j.cps.toList < i.cps.toList))) H) : qLeS (.str i) (.str j) H Q := ⟨i, j, rfl, rfl, q⟩
theorem w_ltS {i j : Str} (q : Q (.bl (decide (i.cps.toList < j.cps.toList))) H) : qLtS (.str i) (.str j) H Q := ⟨i, j, rfl, rfl, q⟩
theorem w_gtS {i j : Str} (q : Q (.bl (decide (j.cps.toList < i.cps.toList))) H) : qGtS (.str i) (.str j) H Q := ⟨i, j, rfl, rfl, q⟩
/-- a data's text, number .. by its type -/
theorem of_str {d : PyData} (h : tyN d = "str") : ∃ z, d = .str z := by
  cases d <;> first | exact ⟨_, rfl⟩ | (simp only [tyN] at h; exact absurd h (by decide))
theorem of_int {d : PyData} (h : tyN d = "int") : ∃ z, d = .int z := by
  cases d <;> first | exact ⟨_, rfl⟩ | (simp only [tyN] at h; exact absurd h (by decide))
theorem of_bool {d : PyData} (h : tyN d = "bool") : ∃ z, d = .bool z := by
  cases d <;> first | exact ⟨_, rfl⟩ | (simp only [tyN] at h; exact absurd h (by decide))
theorem of_tup {d : PyData} (h : tyN d = "tuple") : ∃ z, d = .tuple z := by
  cases d <;> first | exact ⟨_, rfl⟩ | (simp only [tyN] at h; exact absurd h (by decide))
theorem no_str {d : PyData} (f : PyData → Bool) (hf : ∀ d, (∀ z, d ≠ .str z) → f d = false) (h : ¬ tyN d = "str") : f d = false := hf d fun z e => h (by rw [e]; rfl)
theorem title_no : ∀ d, (∀ z, d ≠ .str z) → isTitleD d = false := fun d h => by
  cases d <;> first | rfl | exact (h _ rfl).elim
theorem text_no : ∀ d, (∀ z, d ≠ .str z) → isTextD d = false := fun d h => by
  cases d <;> first | rfl | exact (h _ rfl).elim
theorem w_lenF {a : Addr} {xs : List V} (h : H a = some (.lst xs)) (q : Q (.int xs.length) H) : qLenSeq K [.ref a] H Q := w_lenL (SqL.of h) q
theorem filt_len (l : List Nat) (p : Nat → Bool) : (((l.map fun c => V.str ⟨#[c]⟩).filter fun x => match x with | .str y => p (y.cps.getD 0 0) | _ => false).length = 0) ↔ ∀ c ∈ l, p c = false := by
  rw [List.filter_map, List.length_map]
  rw [List.length_eq_zero_iff, List.filter_eq_nil_iff]
  exact ⟨fun h c hc => by
    have := h c hc
    simpa using this, fun h c hc => by
    have := h c hc
    simpa using this⟩
end

/-- things that the laws draw: short, no rooms, their parts short -/
def goodT (d : PyData) : Prop := small d ∧ allSmall d ∧ isRoomD d = false
instance (d : PyData) : Decidable (goodT d) := by unfold goodT; infer_instance
def spOdd (K : PySem.W.Frag) : Sp := fun vs H Q _ => ∃ p, vs = [.ref p] ∧ Stm H p ∧ ∀ v d H', Kp p H H' → Stm H' p → goodT d → Dn (Off p) H' v d → Q v H'
def spThing (K : PySem.W.Frag) : Sp := spOdd K
def spWord (K : PySem.W.Frag) : Sp := fun vs H Q _ => ∃ p, vs = [.ref p] ∧ Stm H p ∧ ∀ z H', Kp p H H' → Stm H' p → z.length ≤ 100 → Q (.str z) H'
section
variable {K : PySem.W.Frag} {vs : List V} {H : Hp} {Q : VK} {E : XK}
theorem cutS_length (z : Str) (lo hi : Option Int) : (cutS z lo hi).length ≤ z.length := by
  have h : (cutS z lo hi).cps.toList = ((z.cps.toList.drop (HT.sIx z.length 0 lo)).take (HT.sIx z.length z.length hi - HT.sIx z.length 0 lo)) := rfl
  rw [str_len, str_len, h, List.length_take, List.length_drop]
  omega
theorem cutS_to {z : Str} {i : Int} (h : 0 ≤ i) : (cutS z none (some i)).cps.toList = z.cps.toList.take i.toNat := by
  obtain ⟨j, rfl⟩ := Int.eq_ofNat_of_zero_le h
  show (z.cps.toList.drop (HT.sIx z.length 0 none)).take (HT.sIx z.length z.length (some (j : Int)) - HT.sIx z.length 0 none) = _
  rw [HT.sIx_none, HT.sIx_nat, Nat.sub_zero, List.drop_zero, Int.toNat_natCast, str_len]
  by_cases hj : j ≤ z.cps.toList.length
  · rw [Nat.min_eq_left hj]
  · rw [Nat.min_eq_right (by omega), List.take_of_length_le (Nat.le_refl _), List.take_of_length_le (by omega)]
theorem cutS_from {z : Str} {i : Int} (h : 0 ≤ i) : (cutS z (some i) none).cps.toList = z.cps.toList.drop i.toNat := by
  obtain ⟨j, rfl⟩ := Int.eq_ofNat_of_zero_le h
  show (z.cps.toList.drop (HT.sIx z.length 0 (some (j : Int)))).take (HT.sIx z.length z.length none - HT.sIx z.length 0 (some (j : Int))) = _
  rw [HT.sIx_none, HT.sIx_nat, Int.toNat_natCast, str_len]
  by_cases hj : j ≤ z.cps.toList.length
  · rw [Nat.min_eq_left hj]
    exact List.take_of_length_le (by rw [List.length_drop]; omega)
  · rw [Nat.min_eq_right (by omega), List.drop_of_length_le (Nat.le_refl _), List.drop_of_length_le (by omega), List.take_nil]
theorem cutS_to_len {z : Str} {i : Int} (h : 0 ≤ i) : ((cutS z none (some i)).length : Int) ≤ i := by
  rw [str_len, cutS_to h, List.length_take]
  omega
theorem cutS_from_len {z : Str} {i : Int} (h : 0 ≤ i) : (cutS z (some i) none).length = z.length - i.toNat := by
  rw [str_len, cutS_from h, List.length_drop, str_len]
end

/-! ### numbers and lines that are drawn -/
def spDrawNumber (K : PySem.W.Frag) : Sp := fun vs H Q _ => ∃ p, vs = [.ref p] ∧ Stm H p ∧ ∀ n H', Kp p H H' → Stm H' p → 1 ≤ n → n ≤ 1000000000000000000 → Q (.int n) H'
/-- printed, and no percent sign -/
def lineC (c : Nat) : Bool := prB c && !decide (c = 37)
def spDrawLine (K : PySem.W.Frag) : Sp := fun vs H Q _ => ∃ (p : Addr) (n : Int), vs = [.ref p, .int n] ∧ Stm H p ∧ 0 ≤ n ∧ n ≤ 1000 ∧ ∀ z H', Kp p H H' → Stm H' p → (z.length : Int) = n → z.cps.toList.all lineC = true → Q (.str z) H'
section
variable {K : PySem.W.Frag} {vs : List V} {H : Hp} {Q : VK} {E : XK}
theorem e18 : (10 : Int) ^ (18 : Int).toNat = 1000000000000000000 := by decide
theorem e9 : (10 : Int) ^ (9 : Int).toNat = 1000000000 := by decide
theorem tl_append (a b : Str) : (a ++ b).cps.toList = a.cps.toList ++ b.cps.toList := TL.tl_append a b
/-- _law_number: slots 0:stream 1:kind -/
def t__law_number (K : PySem.W.Frag) : TS := (tSeq (tAsg (tCall (spNext K) [] C8.E0 (tCons (tVar 0) (tCons (tC (.int 6)) tNil))) (gName 1))
  (tSeq (tIfS (tTest (tOp rEq (tVar 1) (tC (.int 0)))) (tRet (tC (.int 1))) tNext)
  (tSeq (tIfS (tTest (tOp rEq (tVar 1) (tC (.int 1)))) (tRet (tOp qSub (tOp qPow (tC (.int 10)) (tC (.int 18))) (tCall (spNext K) [] C8.E0 (tCons (tVar 0) (tCons (tC (.int 3)) tNil))))) tNext)
  (tSeq (tIfS (tTest (tOp rEq (tVar 1) (tC (.int 2)))) (tRet (tOp qAdd (tOp qAdd (tC (.int 1)) (tOp qMul (tCall (spNext K) [] C8.E0 (tCons (tVar 0) (tCons (tOp qPow (tC (.int 10)) (tC (.int 9))) tNil))) (tOp qPow (tC (.int 10)) (tC (.int 9))))) (tCall (spNext K) [] C8.E0 (tCons (tVar 0) (tCons (tOp qPow (tC (.int 10)) (tC (.int 9))) tNil))))) tNext)
  (tRet (tOp qAdd (tC (.int 1)) (tCall (spNext K) [] C8.E0 (tCons (tVar 0) (tCons (tC (.int 30)) tNil)))))))))
theorem l__law_number (h : spDrawNumber K vs H Q E) : vs.length = 1 := by obtain ⟨p, rfl, _⟩ := h; rfl
theorem r__law_number (h : spDrawNumber K vs H Q E) : t__law_number K { nx := fun _ H' => Q .non H', rt := Q } (start ["stream", "kind"] vs) H := by
  obtain ⟨p, rfl, hs, q⟩ := h
  unfold t__law_number
  walk_at "w"
  refine ⟨p, 6, rfl, hs, by decide, by decide, fun k H1 k1 s1 a0 a1 => ?_⟩
  walk_at "w"
  walk_at "if" <;> intro c0
  · walk_at "w"
    exact q 1 H1 k1 s1 (by decide) (by decide)
  walk_at "w"
  walk_at "if" <;> intro c1
  · walk_at "w"
    rw [e18]
    refine ⟨p, 3, rfl, s1, by decide, by decide, fun v H2 k2 s2 v0 v1 => ?_⟩
    walk_at "w"
    exact q _ H2 (k1.trans k2) s2 (by omega) (by omega)
  walk_at "w"
  walk_at "if" <;> intro c2
  · walk_at "w"
    rw [e9]
    refine ⟨p, _, rfl, s1, by decide, by decide, fun v H2 k2 s2 v0 v1 => ?_⟩
    walk_at "w"
    rw [e9]
    refine ⟨p, _, rfl, s2, by decide, by decide, fun u H3 k3 s3 u0 u1 => ?_⟩
    walk_at "w"
    exact q _ H3 ((k1.trans k2).trans k3) s3 (by omega) (by omega)
  · walk_at "w"
    refine ⟨p, 30, rfl, s1, by decide, by decide, fun v H2 k2 s2 v0 v1 => ?_⟩
    walk_at "w"
    exact q _ H2 (k1.trans k2) s2 (by omega) (by omega)
/-- _law_line: slots 0:stream 1:size 2:chars 3:start 4:step 5:gap 6:line 7:k 8:char -/
def t__law_line (K : PySem.W.Frag) : TS := (tSeq (tAsg (tC (.str " !\"#$&'()*+,-./0123456789:;<=>?\x40ABCDEFGHIJKLMNOPQRSTUVWXYZ[\\]^_`")) (gName 2))
  (tSeq (tAsg (tOp qAddS (tVar 2) (tC (.str "abcdefghijklmnopqrstuvwxyz{|}~"))) (gName 2))
  (tSeq (tAsg (tCall (spNext K) [] C8.E0 (tCons (tVar 0) (tCons (tC (.int 94)) tNil))) (gName 3))
  (tSeq (tAsg (tCall (spNext K) [] C8.E0 (tCons (tVar 0) (tCons (tC (.int 94)) tNil))) (gName 4))
  (tSeq (tAsg (tOp qAdd (tC (.int 2)) (tCall (spNext K) [] C8.E0 (tCons (tVar 0) (tCons (tC (.int 80)) tNil)))) (gName 5))
  (tSeq (tAsg (tC (.str "")) (gName 6))
  (tSeq (tFor (iRng1 (tCons (tVar 1) tNil)) (gName 7) (tSeq (tAsg (tOp rIxS (tVar 2) (tOp qMod (tCB qInt1 (tCons (tOp qAdd (tVar 3) (tOp qMul (tVar 4) (tVar 7))) tNil)) (tC (.int 94)))) (gName 8))
  (tSeq (tIfS (tTest (tOp qLt (tVar 7) (tC (.int 20)))) (tAsg (tOp rIxS (tVar 2) (tCall (spNext K) [] C8.E0 (tCons (tVar 0) (tCons (tC (.int 94)) tNil)))) (gName 8)) tNext)
  (tSeq (tIfS (tTest (tOp rEq (tOp qMod (tCB qInt1 (tCons (tVar 7) tNil)) (tVar 5)) (tOp qSub (tVar 5) (tC (.int 1))))) (tAsg (tC (.str " ")) (gName 8)) tNext)
  (tAsg (tOp qAddS (tVar 6) (tVar 8)) (gName 6))))))
  (tRet (tVar 6)))))))))
theorem l__law_line (h : spDrawLine K vs H Q E) : vs.length = 2 := by obtain ⟨p, n, rfl, _⟩ := h; rfl
theorem r__law_line (h : spDrawLine K vs H Q E) : t__law_line K { nx := fun _ H' => Q .non H', rt := Q } (start ["stream", "size", "chars", "start", "step", "gap", "line", "k", "char"] vs) H := by
  obtain ⟨p, n, rfl, hs, n0, n1, q⟩ := h
  unfold t__law_line
  walk_at "s"
  walk_at "w"
  refine w_addS (by decide) ?_
  have hl : (Str.ofString " !\"#$&'()*+,-./0123456789:;<=>?\x40ABCDEFGHIJKLMNOPQRSTUVWXYZ[\\]^_`" ++ Str.ofString "abcdefghijklmnopqrstuvwxyz{|}~").length = 94 := by decide
  have hc : (Str.ofString " !\"#$&'()*+,-./0123456789:;<=>?\x40ABCDEFGHIJKLMNOPQRSTUVWXYZ[\\]^_`" ++ Str.ofString "abcdefghijklmnopqrstuvwxyz{|}~").cps.toList.all lineC = true := by decide
  generalize Str.ofString " !\"#$&'()*+,-./0123456789:;<=>?\x40ABCDEFGHIJKLMNOPQRSTUVWXYZ[\\]^_`" ++ Str.ofString "abcdefghijklmnopqrstuvwxyz{|}~" = Z at hl hc
  have hl' : Z.cps.toList.length = 94 := by rw [← str_len]; exact hl
  have pick : ∀ i : Int, 0 ≤ i → i < 94 → ∃ c, atI Z.cps.toList i = some c ∧ lineC c = true := fun i i0 i1 => by
    have hj : i.toNat < Z.cps.toList.length := by omega
    exact ⟨_, atI_of i0 (List.getElem?_eq_getElem hj), List.all_eq_true.mp hc _ (List.getElem_mem hj)⟩
  have sz : Z.length ≤ sizeLine := by rw [hl]; decide
  walk_at "w"
  refine ⟨p, 94, rfl, hs, by decide, by decide, fun a H1 k1 s1 a0 a1 => ?_⟩
  walk_at "w"
  refine ⟨p, 94, rfl, s1, by decide, by decide, fun b H2 k2 s2 b0 b1 => ?_⟩
  walk_at "w"
  refine ⟨p, 80, rfl, s2, by decide, by decide, fun g H3 k3 s3 g0 g1 => ?_⟩
  walk_at "w"
  refine w_for (w_iRng1 ?_)
  walk_at "w"
  refine w_rng (by omega) (by omega) (fun i σ H' => ∃ y z y', σ = [some (.ref p), some (.int n), some (.str Z), some (.int a), some (.int b), some (.int (2 + g)), some (.str z), y, y'] ∧ z.length = i ∧ z.cps.toList.all lineC = true ∧ Kp p H H' ∧ Stm H' p) ⟨none, "", none, rfl, rfl, rfl, (k1.trans k2).trans k3, s3⟩ (fun i σ H' hi pv => ?_) (fun σ H' pv => ?_)
  · obtain ⟨y, z, y', rfl, hz, hzc, k, s⟩ := pv
    walk_at "w"
    obtain ⟨c, hc1, hc2⟩ := pick ((a + b * (i : Int)) % 94) (Int.emod_nonneg _ (by decide)) (Int.emod_lt_of_pos _ (by decide))
    refine w_ixS sz hc1 ?_
    walk_at "b"
    refine w_ifCut (Mid := fun σ' H'' => ∃ c, σ' = [some (.ref p), some (.int n), some (.str Z), some (.int a), some (.int b), some (.int (2 + g)), some (.str z), some (.int (i : Int)), some (.str ⟨#[c]⟩)] ∧ lineC c = true ∧ Kp p H H'' ∧ Stm H'' p) (fun σ' H'' mv => ?_) (fun R r => ?_)
    · obtain ⟨c, rfl, hc2, k, s⟩ := mv
      walk_at "b"
      refine w_ifCut (Mid := fun σ' H'' => ∃ c, σ' = [some (.ref p), some (.int n), some (.str Z), some (.int a), some (.int b), some (.int (2 + g)), some (.str z), some (.int (i : Int)), some (.str ⟨#[c]⟩)] ∧ lineC c = true ∧ Kp p H H'' ∧ Stm H'' p) (fun σ' H'' mv => ?_) (fun R r => ?_)
      · obtain ⟨c, rfl, hc2, k, s⟩ := mv
        walk_at "w"
        refine w_addS (Nat.le_trans (show z.length + 1 ≤ 1001 by omega) (by decide)) ?_
        walk_at "w"
        refine ⟨_, _, _, rfl, ?_, ?_, k, s⟩
        · rw [Str.length_append, hz]
          rfl
        · rw [tl_append, List.all_append, hzc]
          show lineC c && true = true
          rw [hc2]
          rfl
      · walk_at "w"
        walk_at "if" <;> intro h2
        · walk_at "w"
          exact r _ _ ⟨32, rfl, by decide, k, s⟩
        · walk_at "w"
          exact r _ _ ⟨c, rfl, hc2, k, s⟩
    · walk_at "w"
      walk_at "if" <;> intro h1
      · walk_at "w"
        refine ⟨p, 94, rfl, s, by decide, by decide, fun v H4 k4 s4 v0 v1 => ?_⟩
        obtain ⟨c, hc1, hc2⟩ := pick v v0 v1
        refine w_ixS sz hc1 ?_
        walk_at "w"
        exact r _ _ ⟨c, rfl, hc2, k.trans k4, s4⟩
      · walk_at "w"
        exact r _ _ ⟨c, rfl, hc2, k, s⟩
  · obtain ⟨y, z, y', rfl, hz, hzc, k, s⟩ := pv
    walk_at "w"
    exact q z H' k s (by omega) hzc
end

/-! ### names, titles, texts that are drawn -/
def spDrawName (K : PySem.W.Frag) : Sp := fun vs H Q _ => ∃ p, vs = [.ref p] ∧ Stm H p ∧ ∀ z H', Kp p H H' → Stm H' p → nameS z = true → Q (.str z) H'
/-- by ascending signs, none twice -/
def Asc (ys : List Str) : Prop := ys.Pairwise fun a b => a.cps.toList < b.cps.toList
def spDrawNames (K : PySem.W.Frag) : Sp := fun vs H Q _ => ∃ (p : Addr) (n : Int), vs = [.ref p, .int n] ∧ Stm H p ∧ 0 ≤ n ∧ n ≤ 15 ∧ ∀ a ys H', H a = none → Kp p H H' → Stm H' p → H' a = some (.lst (ys.map V.str)) → (ys.length : Int) ≤ n → (∀ y ∈ ys, nameS y = true) → Asc ys → Q (.ref a) H'
def spDrawTitle (K : PySem.W.Frag) : Sp := fun vs H Q _ => ∃ p, vs = [.ref p] ∧ Stm H p ∧ ∀ z H', Kp p H H' → Stm H' p → z.length ≤ 60 → z.cps.toList.all lineC = true → Q (.str z) H'
def spDrawText (K : PySem.W.Frag) : Sp := fun vs H Q _ => ∃ p, vs = [.ref p] ∧ Stm H p ∧ ∀ z H', Kp p H H' → Stm H' p → 1 ≤ z.length → z.length ≤ 400 → (z.cps.toList.all fun c => decide (c = 10) || lineC c) = true → Q (.str z) H'
section
variable {K : PySem.W.Frag} {vs : List V} {H : Hp} {Q : VK} {E : XK}
abbrev isNm : PyData → Prop := fun d => ∃ z, d = .str z ∧ nameS z = true
theorem lt_tri : ∀ a b : List Nat, a < b ∨ a = b ∨ b < a
  | [], [] => .inr (.inl rfl)
  | [], _ :: _ => .inl (List.nil_lt_cons _ _)
  | _ :: _, [] => .inr (.inr (List.nil_lt_cons _ _))
  | x :: a, y :: b => by
    rw [List.cons_lt_cons_iff, List.cons_lt_cons_iff]
    rcases Nat.lt_trichotomy x y with h | h | h
    · exact .inl (.inl h)
    · subst h
      rcases lt_tri a b with h | h | h
      · exact .inl (.inr ⟨rfl, h⟩)
      · exact .inr (.inl (by rw [h]))
      · exact .inr (.inr (.inr ⟨rfl, h⟩))
    · exact .inr (.inr (.inl h))
theorem lt_ltCps : ∀ a b : List Nat, Spec.ltCps a b = decide (a < b)
  | [], [] => rfl
  | [], _ :: _ => rfl
  | _ :: _, [] => rfl
  | x :: a, y :: b => by
    show (decide (x < y) || ((x == y) && Spec.ltCps a b)) = _
    rw [lt_ltCps a b, Bool.eq_iff_iff]
    simp only [Bool.or_eq_true, decide_eq_true_eq, Bool.and_eq_true, beq_iff_eq, List.cons_lt_cons_iff]
theorem asc_of_rising : ∀ (ys : List Str) (x : Str), risingS x ys = true → (x :: ys).Nodup → Asc (x :: ys)
  | [], x, _, _ => List.pairwise_singleton _ _
  | y :: r, x, h, nd => by
    have h' : (!Spec.ltCps y.cps.toList x.cps.toList && risingS y r) = true := h
    rw [Bool.and_eq_true, Bool.not_eq_true', lt_ltCps, decide_eq_false_iff_not] at h'
    have nd' := List.nodup_cons.mp nd
    have ih := asc_of_rising r y h'.2 nd'.2
    have xy : x.cps.toList < y.cps.toList := by
      rcases lt_tri x.cps.toList y.cps.toList with g | g | g
      · exact g
      · exact (nd'.1 (by
          have e : x = y := TL.ext_tl g
          rw [e]
          exact List.mem_cons_self ..)).elim
      · exact (h'.1 g).elim
    refine List.pairwise_cons.mpr ⟨fun z hz => ?_, ih⟩
    rcases List.mem_cons.mp hz with rfl | hz
    · exact xy
    · exact List.lt_trans xy ((List.pairwise_cons.mp ih).1 z hz)
theorem asc_of_sorted {ys : List Str} (h : sortedS ys = true) (nd : ys.Nodup) : Asc ys := by
  cases ys with
  | nil => exact List.Pairwise.nil
  | cons x r => exact asc_of_rising r x h nd
theorem nameS_of {z : Str} {c : Nat} {r : List Nat} (e : z.cps.toList = c :: r) (hl : z.length ≤ 12) (h1 : c ∈ LOW.cps.toList) (h2 : (z.cps.toList.all fun c => decide (c ∈ LOW.cps.toList) || decide (c ∈ DIG.cps.toList)) = true) : nameS z = true := by
  have hp : 1 ≤ z.length := by rw [str_len, e]; exact Nat.succ_le_succ (Nat.zero_le _)
  unfold nameS
  rw [decide_eq_true (show 1 ≤ z.length ∧ z.length ≤ 12 from ⟨hp, hl⟩), h2, e, Bool.true_and, Bool.and_true]
  exact decide_eq_true h1
/-- _law_name: slots 0:stream 1:letters 2:kind 3:size 4:name 5:k -/
def t__law_name (K : PySem.W.Frag) : TS := (tSeq (tAsg (tC (.str "abcdefghijklmnopqrstuvwxyz0123456789")) (gName 1))
  (tSeq (tAsg (tCall (spNext K) [] C8.E0 (tCons (tVar 0) (tCons (tC (.int 4)) tNil))) (gName 2))
  (tSeq (tIfS (tTest (tOp rEq (tVar 2) (tC (.int 0)))) (tRet (tOp (rIxT K) (tTup (tCons (tC (.str "a")) (tCons (tC (.str "anna")) (tCons (tC (.str "anna2")) (tCons (tC (.str "ann")) (tCons (tC (.str "bert")) (tCons (tC (.str "z9")) tNil))))))) (tCall (spNext K) [] C8.E0 (tCons (tVar 0) (tCons (tC (.int 6)) tNil))))) tNext)
  (tSeq (tAsg (tOp (rIxT K) (tTup (tCons (tC (.int 0)) (tCons (tC (.int 11)) (tCons (tCall (spNext K) [] C8.E0 (tCons (tVar 0) (tCons (tC (.int 12)) tNil))) tNil)))) (tOp qSub (tVar 2) (tC (.int 1)))) (gName 3))
  (tSeq (tAsg (tOp rIxS (tVar 1) (tCall (spNext K) [] C8.E0 (tCons (tVar 0) (tCons (tC (.int 26)) tNil)))) (gName 4))
  (tSeq (tFor (iRng1 (tCons (tVar 3) tNil)) (gName 5) (tAsg (tOp qAddS (tVar 4) (tOp rIxS (tVar 1) (tCall (spNext K) [] C8.E0 (tCons (tVar 0) (tCons (tC (.int 36)) tNil))))) (gName 4)))
  (tRet (tVar 4))))))))
theorem l__law_name (h : spDrawName K vs H Q E) : vs.length = 1 := by obtain ⟨p, rfl, _⟩ := h; rfl
theorem r__law_name (h : spDrawName K vs H Q E) : t__law_name K { nx := fun _ H' => Q .non H', rt := Q } (start ["stream", "letters", "kind", "size", "name", "k"] vs) H := by
  obtain ⟨p, rfl, hs, q⟩ := h
  unfold t__law_name
  walk_at "b"
  walk_at "w"
  refine ⟨p, 4, rfl, hs, by decide, by decide, fun kd H1 k1 s1 a0 a1 => ?_⟩
  walk_at "b"
  refine w_ifS ?_
  walk_at "w"
  walk_at "if" <;> intro c0
  · walk_at "b"
    refine (evs_pickT (P := isNm) (are_cons (evs_str ⟨_, rfl, by decide⟩) (are_cons (evs_str ⟨_, rfl, by decide⟩) (are_cons (evs_str ⟨_, rfl, by decide⟩) (are_cons (evs_str ⟨_, rfl, by decide⟩) (are_cons (evs_str ⟨_, rfl, by decide⟩) (are_cons (evs_str ⟨_, rfl, by decide⟩) are_nil)))))) rfl (by decide) (by decide) (are_pick rfl)).use s1 fun v d H2 k2 s2 hd dn => ?_
    obtain ⟨z, rfl, hz⟩ := hd
    cases dn
    exact q z H2 (k1.trans k2) s2 hz
  · walk_at "b"
    refine w_op ?_
    refine (evs_tup (P := fun d => ∃ ds, d = .tuple ds ∧ Are (isInt 0 11) 3 ds) (R := Are (isInt 0 11) 3) (are_cons (evs_intIn (by decide) (by decide)) (are_cons (evs_intIn (by decide) (by decide)) (are_cons (evs_nextIn rfl (by decide) (by decide) (by decide) (by decide)) are_nil)))
      (fun ds h => ⟨by rw [h.1]; decide, ds, rfl, h⟩)).use s1 fun v d H2 k2 s2 hd dn => ?_
    obtain ⟨ds, rfl, hds⟩ := hd
    cases dn with
    | @tup t xs _ ht hx hxs =>
      walk_at "w"
      have hl := hxs.len.trans hds.1
      have hj : (kd - 1).toNat < xs.length := by omega
      obtain ⟨d, hd, dn⟩ := hxs.get (List.getElem?_eq_getElem hj)
      obtain ⟨n, rfl, n0, n1⟩ := hds.2 d (List.mem_of_getElem? hd)
      generalize hxe : xs[(kd - 1).toNat] = x0 at dn
      cases dn
      refine w_ixT (v := .int n) (SqT.of hx) (atI_of (by omega) (by rw [List.getElem?_eq_getElem hj, hxe])) ?_
      walk_at "b"
      have lt : (Str.ofString "abcdefghijklmnopqrstuvwxyz0123456789").cps.toList.take 26 = LOW.cps.toList := by decide
      have la : ((Str.ofString "abcdefghijklmnopqrstuvwxyz0123456789").cps.toList.all fun c => decide (c ∈ LOW.cps.toList) || decide (c ∈ DIG.cps.toList)) = true := by decide
      have ll : (Str.ofString "abcdefghijklmnopqrstuvwxyz0123456789").cps.toList.length = 36 := by decide
      have ls : (Str.ofString "abcdefghijklmnopqrstuvwxyz0123456789").length ≤ sizeLine := by decide
      generalize Str.ofString "abcdefghijklmnopqrstuvwxyz0123456789" = L at lt la ll ls
      walk_at "w"
      refine ⟨p, 26, rfl, s2, by decide, by decide, fun a H3 k3 s3 a0 a1 => ?_⟩
      have hc : a.toNat < L.cps.toList.length := by omega
      have hc1 : L.cps.toList[a.toNat] ∈ LOW.cps.toList := by
        rw [← lt]
        exact List.mem_take_iff_getElem.mpr ⟨a.toNat, by omega, rfl⟩
      refine w_ixS ls (atI_of a0 (List.getElem?_eq_getElem hc)) ?_
      generalize L.cps.toList[a.toNat] = c at hc1
      have kk := (k1.trans k2).trans k3
      walk_at "b"
      refine w_for (w_iRng1 ?_)
      walk_at "w"
      refine w_rng (by omega) (by omega) (fun i σ H' => ∃ z r y, σ = [some (.ref p), some (.str L), some (.int kd), some (.int n), some (.str z), y] ∧ z.cps.toList = c :: r ∧ r.length = i ∧ (z.cps.toList.all fun c => decide (c ∈ LOW.cps.toList) || decide (c ∈ DIG.cps.toList)) = true ∧ Kp p H H' ∧ Stm H' p)
        ⟨_, [], _, rfl, rfl, rfl, by rw [code_one, List.all_cons, List.all_nil, Bool.and_true, decide_eq_true hc1, Bool.true_or], kk, s3⟩ (fun i σ H' hi pv => ?_) (fun σ H' pv => ?_)
      · obtain ⟨z, r, y, rfl, hz, hr, hall, k, s⟩ := pv
        walk_at "w"
        refine ⟨p, 36, rfl, s, by decide, by decide, fun b H4 k4 s4 b0 b1 => ?_⟩
        have hb : b.toNat < L.cps.toList.length := by omega
        refine w_ixS ls (atI_of b0 (List.getElem?_eq_getElem hb)) ?_
        have hb1 := List.all_eq_true.mp la _ (List.getElem_mem hb)
        generalize L.cps.toList[b.toNat] = e at hb1
        have hzl : z.length = i + 1 := by rw [str_len, hz, List.length_cons, hr]
        refine w_addS (Nat.le_trans (show z.length + 1 ≤ 1000 by omega) (by decide)) ?_
        walk_at "w"
        refine ⟨_, r ++ [e], _, rfl, ?_, ?_, ?_, k.trans k4, s4⟩
        · rw [tl_append, hz]
          rfl
        · rw [List.length_append, hr]
          rfl
        · rw [tl_append, List.all_append, hall, Bool.true_and, code_one, List.all_cons, List.all_nil, Bool.and_true]
          exact hb1
      · obtain ⟨z, r, y, rfl, hz, hr, hall, k, s⟩ := pv
        walk_at "w"
        have hzl : z.length = r.length + 1 := by rw [str_len, hz, List.length_cons]
        exact q z H' k s (nameS_of hz (by omega) hc1 hall)
/-- _law_names: slots 0:stream 1:most 2:start 3:char 4:names 5:k 6:name -/
def t__law_names (K : PySem.W.Frag) : TS := (tSeq (tIfS (tAnd (tTest (tOp qGt (tVar 1) (tC (.int 12)))) (tTest (tOp rEq (tCall (spNext K) [] C8.E0 (tCons (tVar 0) (tCons (tC (.int 4)) tNil))) (tC (.int 0))))) (tSeq (tAsg (tCall (spNext K) [] C8.E0 (tCons (tVar 0) (tCons (tC (.int 3)) tNil))) (gName 2))
  (tRet (tLc (iStr (tSl rSlS (tC (.str "abcdefghijklmnop")) (tPart (tVar 2)) (tPart (tOp qSub (tOp qAdd (tVar 2) (tVar 1)) (tCall (spNext K) [] C8.E0 (tCons (tVar 0) (tCons (tC (.int 2)) tNil))))))) (gName 3) tYes (tOp qAddS (tC (.str "p")) (tVar 3)) [3]))) tNext)
  (tSeq (tAsg (tLst tNil) (gName 4))
  (tSeq (tFor (iRng1 (tCons (tCall (spNext K) [] C8.E0 (tCons (tVar 0) (tCons (tOp qAdd (tVar 1) (tC (.int 1))) tNil))) tNil)) (gName 5) (tSeq (tAsg (tCall (spDrawName K) [] C8.E0 (tCons (tVar 0) tNil)) (gName 6))
  (tIfS (tTest (tOp (rIn K true) (tVar 6) (tVar 4))) (tDrop (tBM K "list" rAppend (tVar 4) (tCons (tVar 6) tNil))) tNext)))
  (tRet (tCB (rSortedS K) (tCons (tVar 4) tNil))))))
theorem l__law_names (h : spDrawNames K vs H Q E) : vs.length = 2 := by obtain ⟨p, n, rfl, _⟩ := h; rfl
def PQ : List Nat := (Str.ofString "abcdefghijklmnop").cps.toList
theorem pq_asc : PQ.Pairwise (· < ·) := by decide
theorem pq_names : (PQ.all fun c => nameS (Str.ofString "p" ++ (⟨#[c]⟩ : Str))) = true := by decide
theorem p_lt {a b : Nat} (h : a < b) : (Str.ofString "p" ++ (⟨#[a]⟩ : Str)).cps.toList < (Str.ofString "p" ++ (⟨#[b]⟩ : Str)).cps.toList := by
  rw [tl_append, tl_append, code_one, code_one]
  have e : (Str.ofString "p").cps.toList = [112] := by decide
  rw [e]
  exact List.cons_lt_cons_iff.mpr (.inr ⟨rfl, List.cons_lt_cons_iff.mpr (.inl h)⟩)
theorem r__law_names (h : spDrawNames K vs H Q E) : t__law_names K { nx := fun _ H' => Q .non H', rt := Q } (start ["stream", "most", "start", "char", "names", "k", "name"] vs) H := by
  obtain ⟨p, n, rfl, hs, n0, n1, q⟩ := h
  unfold t__law_names
  walk_at "b"
  -- the list that a loop fills
  have loop : ∀ H1, Kp p H H1 → Stm H1 p → (tSeq (tAsg (tLst tNil) (gName 4))
      (tSeq (tFor (iRng1 (tCons (tCall (spNext K) [] C8.E0 (tCons (tVar 0) (tCons (tOp qAdd (tVar 1) (tC (.int 1))) tNil))) tNil)) (gName 5) (tSeq (tAsg (tCall (spDrawName K) [] C8.E0 (tCons (tVar 0) tNil)) (gName 6))
      (tIfS (tTest (tOp (rIn K true) (tVar 6) (tVar 4))) (tDrop (tBM K "list" rAppend (tVar 4) (tCons (tVar 6) tNil))) tNext)))
      (tRet (tCB (rSortedS K) (tCons (tVar 4) tNil))))) { nx := fun _ H' => Q .non H', rt := Q } [some (.ref p), some (.int n), none, none, none, none, none] H1 := fun H1 k1 s1 => by
    walk_at "w"
    intro l hl
    have lp : l ≠ p := Stm.ne s1 hl
    have hlH : H l = none := k1.free lp hl
    walk_at "b"
    refine w_for (w_iRng1 ?_)
    walk_at "w"
    refine ⟨p, _, rfl, s1.up hl, by omega, by omega, fun m H2 k2 s2 m0 m1 => ?_⟩
    walk_at "w"
    have k12 : Kp p H H2 := (k1.upd hlH).trans k2
    have hl2 : H2 l = some (.lst []) := k2 _ _ lp upd_same
    refine w_rng (by omega) (by omega) (fun i σ H' => ∃ y5 y6 ys, σ = [some (.ref p), some (.int n), none, none, some (.ref l), y5, y6] ∧ Kp p H H' ∧ Stm H' p ∧ H' l = some (.lst (ys.map V.str)) ∧ ys.length ≤ i ∧ ys.Nodup ∧ ∀ y ∈ ys, nameS y = true) ⟨none, none, [], rfl, k12, s2, hl2, Nat.le_refl _, List.nodup_nil, fun _ h => nomatch h⟩ (fun i σ H' hi pv => ?_) (fun σ H' pv => ?_)
    · obtain ⟨y5, y6, ys, rfl, k, s, hL, hn, nd, hall⟩ := pv
      walk_at "w"
      refine ⟨p, rfl, s, fun z H3 k3 s3 hz => ?_⟩
      have hL3 : H3 l = some (.lst (ys.map V.str)) := k3 _ _ lp hL
      walk_at "w"
      refine w_inL (SqL.of hL3) rfl (flat_strs ys) ?_
      rw [inV_strs]
      show ∃ k, V.bl (!decide (z ∈ ys)) = .bl k ∧ _
      refine w_exb ?_
      walk_at "if" <;> intro hm
      · walk_at "w"
        refine w_app hL3 (by rw [List.length_map]; exact Nat.lt_of_le_of_lt (show ys.length ≤ 100 by omega) (by decide)) ?_
        refine ⟨_, _, ys ++ [z], rfl, (k.trans k3).upd hlH, ?_, ?_, ?_, ?_, ?_⟩
        · obtain ⟨x, y, e, r⟩ := s3
          exact ⟨x, y, by rw [upd_ne (Ne.symm lp)]; exact e, r⟩
        · rw [upd_same, List.map_append]
          rfl
        · rw [List.length_append]
          exact Nat.succ_le_succ hn
        · exact List.nodup_append.mpr ⟨nd, List.nodup_cons.mpr ⟨fun h => (nomatch h), List.nodup_nil⟩, fun a ha b hb => by
            rw [List.mem_singleton.mp hb]
            exact fun e => hm (e ▸ ha)⟩
        · intro y hy
          rcases List.mem_append.mp hy with hy | hy
          · exact hall y hy
          · rw [List.mem_singleton.mp hy]
            exact hz
      · walk_at "w"
        exact ⟨_, _, ys, rfl, k.trans k3, s3, hL3, Nat.le_succ_of_le hn, nd, hall⟩
    · obtain ⟨y5, y6, ys, rfl, k, s, hL, hn, nd, hall⟩ := pv
      walk_at "w"
      refine ⟨l, ys, rfl, SqL.of hL, by omega, fun zs t pm so ht => ?_⟩
      have tp : t ≠ p := Stm.ne s ht
      exact q t zs _ (k.free tp ht) (k.upd (k.free tp ht)) (s.up ht) upd_same (by
        have := pm.length_eq
        omega) (fun y hy => hall y (pm.mem_iff.mp hy)) (asc_of_sorted so (pm.nodup_iff.mpr nd))
  refine w_ifS ?_
  walk_at "w"
  walk_at "if" <;> intro hm
  · walk_at "w"
    refine ⟨p, 4, rfl, hs, by decide, by decide, fun a H1 k1 s1 a0 a1 => ?_⟩
    walk_at "w"
    walk_at "if" <;> intro ha
    · walk_at "b"
      walk_at "w"
      refine ⟨p, 3, rfl, s1, by decide, by decide, fun st H2 k2 s2 b0 b1 => ?_⟩
      walk_at "w"
      refine ⟨p, 2, rfl, s2, by decide, by decide, fun c H3 k3 s3 c0 c1 => ?_⟩
      walk_at "w"
      refine w_slS (by decide) ?_
      walk_at "w"
      generalize hZ : cutS (Str.ofString "abcdefghijklmnop") (some st) (some (st + n - c)) = Z
      have hz : Z.length ≤ 16 := by
        rw [← hZ]
        exact Nat.le_trans (cutS_length _ _ _) (by decide)
      obtain ⟨s', rfl⟩ := Int.eq_ofNat_of_zero_le b0
      obtain ⟨e', he'⟩ := Int.eq_ofNat_of_zero_le (show 0 ≤ (s' : Int) + n - c by omega)
      have hzl : Z.cps.toList = (PQ.drop (min s' 16)).take (min e' 16 - min s' 16) := by
        rw [← hZ, he']
        show (PQ.drop (HT.sIx 16 0 (some (s' : Int)))).take (HT.sIx 16 16 (some (e' : Int)) - HT.sIx 16 0 (some (s' : Int))) = _
        rw [HT.sIx_nat, HT.sIx_nat]
      have hlen : (Z.length : Int) ≤ n := by
        rw [str_len, hzl, List.length_take]
        omega
      refine lcStr (z := Z) (Nat.le_trans hz (by decide)) (fun x => match x with | .str y => .str (Str.ofString "p" ++ (⟨#[y.cps.getD 0 0]⟩ : Str)) | _ => .non) (fun _ => true) (fun x => rfl) (fun x _ H1 _ R r => by exact r H1 (Same.refl H1)) (fun x hx _ H1 _ R r => ?_) (fun D H4 hD s hl => ?_)
      · obtain ⟨c', _, rfl⟩ := List.mem_map.mp hx
        walk_at "w"
        exact w_addS (by show 1 + 1 ≤ sizeLine; decide) (r H1 (Same.refl H1))
      · have kk := (k1.trans k2).trans k3
        have dp : D ≠ p := Stm.ne s3 hD
        refine q D (Z.cps.toList.map fun c => Str.ofString "p" ++ (⟨#[c]⟩ : Str)) H4 (kk.free dp hD) (kk.trans (Same.kp s)) (s3.same s) ?_ ?_ ?_ ?_
        · rw [hl]
          congr 1
          congr 1
          unfold sgns
          rw [List.filter_eq_self.mpr (fun _ _ => rfl), List.map_map, List.map_map]
          rfl
        · rw [List.length_map, ← str_len]
          exact hlen
        · intro y hy
          obtain ⟨c', hc', rfl⟩ := List.mem_map.mp hy
          rw [hzl] at hc'
          exact List.all_eq_true.mp pq_names c' (List.mem_of_mem_drop (List.mem_of_mem_take hc'))
        · rw [hzl]
          exact List.pairwise_map.mpr (((pq_asc.drop).take).imp fun h => p_lt h)
    · walk_at "b"
      exact loop H1 k1 s1
  · walk_at "b"
    exact loop H Kp.refl hs
/-- _law_title: slots 0:stream 1:size -/
def t__law_title (K : PySem.W.Frag) : TS := (tSeq (tAsg (tOp (rIxT K) (tTup (tCons (tC (.int 0)) (tCons (tC (.int 60)) (tCons (tCall (spNext K) [] C8.E0 (tCons (tVar 0) (tCons (tC (.int 61)) tNil))) (tCons (tCall (spNext K) [] C8.E0 (tCons (tVar 0) (tCons (tC (.int 10)) tNil))) tNil))))) (tCall (spNext K) [] C8.E0 (tCons (tVar 0) (tCons (tC (.int 4)) tNil)))) (gName 1))
  (tRet (tCall (spDrawLine K) [] C8.E0 (tCons (tVar 0) (tCons (tVar 1) tNil)))))
theorem l__law_title (h : spDrawTitle K vs H Q E) : vs.length = 1 := by obtain ⟨p, rfl, _⟩ := h; rfl
theorem r__law_title (h : spDrawTitle K vs H Q E) : t__law_title K { nx := fun _ H' => Q .non H', rt := Q } (start ["stream", "size"] vs) H := by
  obtain ⟨p, rfl, hs, q⟩ := h
  unfold t__law_title
  walk_at "b"
  refine (evs_pickT (P := isInt 0 60) (are_cons (evs_intIn (by decide) (by decide)) (are_cons (evs_intIn (by decide) (by decide)) (are_cons (evs_nextIn rfl (by decide) (by decide) (by decide) (by decide)) (are_cons (evs_nextIn rfl (by decide) (by decide) (by decide) (by decide)) are_nil)))) rfl (by decide) (by decide) (are_pick rfl)).use hs fun v d H1 k1 s1 hd dn => ?_
  obtain ⟨n, rfl, n0, n1⟩ := hd
  cases dn
  walk_at "w"
  exact ⟨p, n, rfl, s1, n0, by omega, fun z H2 k2 s2 hz hc => q z H2 (k1.trans k2) s2 (by omega) hc⟩
/-- _law_text: slots 0:stream 1:size 2:line 3:gap 4:shift 5:text 6:k -/
def t__law_text (K : PySem.W.Frag) : TS := (tSeq (tAsg (tOp (rIxT K) (tTup (tCons (tC (.int 1)) (tCons (tOp qSub (tC (.int 400)) (tCall (spNext K) [] C8.E0 (tCons (tVar 0) (tCons (tC (.int 3)) tNil)))) (tCons (tOp qAdd (tC (.int 1)) (tCall (spNext K) [] C8.E0 (tCons (tVar 0) (tCons (tC (.int 100)) tNil)))) (tCons (tOp qAdd (tC (.int 1)) (tCall (spNext K) [] C8.E0 (tCons (tVar 0) (tCons (tC (.int 12)) tNil)))) tNil))))) (tCall (spNext K) [] C8.E0 (tCons (tVar 0) (tCons (tC (.int 4)) tNil)))) (gName 1))
  (tSeq (tAsg (tCall (spDrawLine K) [] C8.E0 (tCons (tVar 0) (tCons (tVar 1) tNil))) (gName 2))
  (tSeq (tAsg (tOp (rIxT K) (tTup (tCons (tC (.int 1)) (tCons (tC (.int 2)) (tCons (tOp qAdd (tC (.int 3)) (tCall (spNext K) [] C8.E0 (tCons (tVar 0) (tCons (tC (.int 60)) tNil)))) (tCons (tC (.int 1000)) (tCons (tC (.int 1000)) (tCons (tC (.int 1000)) tNil))))))) (tCall (spNext K) [] C8.E0 (tCons (tVar 0) (tCons (tC (.int 6)) tNil)))) (gName 3))
  (tSeq (tAsg (tCall (spNext K) [] C8.E0 (tCons (tVar 0) (tCons (tC (.int 3)) tNil))) (gName 4))
  (tSeq (tAsg (tC (.str "")) (gName 5))
  (tSeq (tFor (iRng1 (tCons (tVar 1) tNil)) (gName 6) (tIfS (tTest (tOp rEq (tOp qMod (tCB qInt1 (tCons (tOp qAdd (tVar 6) (tVar 4)) tNil)) (tVar 3)) (tC (.int 0)))) (tAsg (tOp qAddS (tVar 5) (tC (.str "\n"))) (gName 5)) (tAsg (tOp qAddS (tVar 5) (tOp rIxS (tVar 2) (tVar 6))) (gName 5))))
  (tRet (tVar 5))))))))
theorem l__law_text (h : spDrawText K vs H Q E) : vs.length = 1 := by obtain ⟨p, rfl, _⟩ := h; rfl
theorem evs_add1 {σ : L2.St} {H : Hp} {p : Addr} {i : Nat} {b n lo hi : Int} (hi' : σ[i]? = some (some (.ref p))) (h0 : 0 < n) (h1 : n < 1073741824) (hl : lo ≤ b) (hh : b + n - 1 ≤ hi) :
    EvS p (tOp qAdd (tC (.int b)) (tCall (spNext K) [] C8.E0 (tCons (tVar i) (tCons (tC (.int n)) tNil)))) σ H (isInt lo hi) := fun H1 k s Q q =>
  evs_next hi' h0 h1 H1 k s _ fun v d H2 k2 s2 hd dn => by
    obtain ⟨x, rfl, x0, x1⟩ := hd
    cases dn
    exact w_I0 (q _ _ H2 k2 s2 ⟨_, rfl, by omega, by omega⟩ (.int _))
theorem evs_sub1 {σ : L2.St} {H : Hp} {p : Addr} {i : Nat} {b n lo hi : Int} (hi' : σ[i]? = some (some (.ref p))) (h0 : 0 < n) (h1 : n < 1073741824) (hl : lo ≤ b - n + 1) (hh : b ≤ hi) :
    EvS p (tOp qSub (tC (.int b)) (tCall (spNext K) [] C8.E0 (tCons (tVar i) (tCons (tC (.int n)) tNil)))) σ H (isInt lo hi) := fun H1 k s Q q =>
  evs_next hi' h0 h1 H1 k s _ fun v d H2 k2 s2 hd dn => by
    obtain ⟨x, rfl, x0, x1⟩ := hd
    cases dn
    exact w_I0 (q _ _ H2 k2 s2 ⟨_, rfl, by omega, by omega⟩ (.int _))
theorem r__law_text (h : spDrawText K vs H Q E) : t__law_text K { nx := fun _ H' => Q .non H', rt := Q } (start ["stream", "size", "line", "gap", "shift", "text", "k"] vs) H := by
  obtain ⟨p, rfl, hs, q⟩ := h
  unfold t__law_text
  walk_at "b"
  refine (evs_pickT (P := isInt 1 400) (are_cons (evs_intIn (by decide) (by decide)) (are_cons (evs_sub1 rfl (by decide) (by decide) (by decide) (by decide)) (are_cons (evs_add1 rfl (by decide) (by decide) (by decide) (by decide)) (are_cons (evs_add1 rfl (by decide) (by decide) (by decide) (by decide)) are_nil)))) rfl (by decide) (by decide) (are_pick rfl)).use hs fun v d H1 k1 s1 hd dn => ?_
  obtain ⟨n, rfl, n0, n1⟩ := hd
  cases dn
  walk_at "w"
  refine ⟨p, n, rfl, s1, by omega, by omega, fun z H2 k2 s2 hz hc => ?_⟩
  walk_at "b"
  refine (evs_pickT (P := isInt 1 1000) (are_cons (evs_intIn (by decide) (by decide)) (are_cons (evs_intIn (by decide) (by decide)) (are_cons (evs_add1 rfl (by decide) (by decide) (by decide) (by decide)) (are_cons (evs_intIn (by decide) (by decide)) (are_cons (evs_intIn (by decide) (by decide)) (are_cons (evs_intIn (by decide) (by decide)) are_nil)))))) rfl (by decide) (by decide) (are_pick rfl)).use s2 fun v d H3 k3 s3 hd dn => ?_
  obtain ⟨g, rfl, g0, g1⟩ := hd
  cases dn
  walk_at "w"
  refine ⟨p, 3, rfl, s3, by decide, by decide, fun sh H4 k4 s4 b0 b1 => ?_⟩
  have kk := ((k1.trans k2).trans k3).trans k4
  walk_at "b"
  refine w_for (w_iRng1 ?_)
  walk_at "w"
  refine w_rng (by omega) (by omega) (fun i σ H' => ∃ t y, σ = [some (.ref p), some (.int n), some (.str z), some (.int g), some (.int sh), some (.str t), y] ∧ t.length = i ∧ (t.cps.toList.all fun c => decide (c = 10) || lineC c) = true ∧ H' = H4) ⟨"", _, rfl, rfl, rfl, rfl⟩ (fun i σ H' hi pv => ?_) (fun σ H' pv => ?_)
  · obtain ⟨t, y, rfl, ht, hall, rfl⟩ := pv
    walk_at "w"
    walk_at "if" <;> intro hg
    · walk_at "w"
      refine w_addS (Nat.le_trans (show t.length + 1 ≤ 1000 by omega) (by decide)) ?_
      walk_at "w"
      refine ⟨_, _, rfl, ?_, ?_, rfl⟩
      · rw [Str.length_append, ht]
        rfl
      · rw [tl_append, List.all_append, hall]
        decide
    · walk_at "w"
      have hj : i < z.cps.toList.length := by rw [← str_len]; omega
      refine w_ixS (Nat.le_trans (show z.length ≤ 1000 by omega) (by decide)) (atI_nat (List.getElem?_eq_getElem hj)) ?_
      have hc1 := List.all_eq_true.mp hc _ (List.getElem_mem hj)
      generalize z.cps.toList[i] = c at hc1
      refine w_addS (Nat.le_trans (show t.length + 1 ≤ 1000 by omega) (by decide)) ?_
      walk_at "w"
      refine ⟨_, _, rfl, ?_, ?_, rfl⟩
      · rw [Str.length_append, ht]
        rfl
      · rw [tl_append, List.all_append, hall, Bool.true_and, code_one, List.all_cons, List.all_nil, Bool.and_true, hc1, Bool.or_true]
  · obtain ⟨t, y, rfl, ht, hall, rfl⟩ := pv
    walk_at "w"
    exact q t _ kk s4 (by omega) (by omega) hall
end

/-! ### bodies -/
inductive Bd where
  | found (t : Str) (ms : List Str) | say (t : Str) | reply (a : Str) (n : Int) (t : Str) | edit (a : Str) (n : Int) (t : Str) | recall (a : Str) (n : Int) | mark (a : Str) (n : Int) (w : Str)
  | title (t : Str) | add (w : Str) | cut (w : Str) | hand (w : Str) | seen
def refD (a : Str) (n : Int) : PyData := .tuple [.str a, .int n]
def Bd.toD : Bd → PyData
  | .found t ms => .tuple [.str "found", .str t, .tuple (ms.map .str)]
  | .say t => .tuple [.str "say", .str t]
  | .reply a n t => .tuple [.str "reply", refD a n, .str t]
  | .edit a n t => .tuple [.str "edit", refD a n, .str t]
  | .recall a n => .tuple [.str "recall", refD a n]
  | .mark a n w => .tuple [.str "mark", refD a n, .str w]
  | .title t => .tuple [.str "title", .str t]
  | .add w => .tuple [.str "add", .str w]
  | .cut w => .tuple [.str "cut", .str w]
  | .hand w => .tuple [.str "hand", .str w]
  | .seen => .tuple [.str "seen"]
def Tx (t : Str) : Prop := 1 ≤ t.length ∧ t.length ≤ 400 ∧ (t.cps.toList.all fun c => decide (c = 10) || lineC c) = true
def Ti (t : Str) : Prop := t.length ≤ 60 ∧ t.cps.toList.all lineC = true
def Nm (w : Str) : Prop := nameS w = true
def Nu (n : Int) : Prop := 1 ≤ n ∧ n ≤ 1000000000000000000
def Bd.good (author : Str) : Bd → Prop
  | .found t ms => Ti t ∧ ms.length ≤ 15 ∧ (∀ m ∈ ms, Nm m) ∧ Asc ms ∧ author ∉ ms
  | .say t => Tx t
  | .reply a n t => Nm a ∧ Nu n ∧ Tx t
  | .edit a n t => Nm a ∧ Nu n ∧ Tx t
  | .recall a n => Nm a ∧ Nu n
  | .mark a n w => Nm a ∧ Nu n ∧ Nm w
  | .title t => Ti t
  | .add w => Nm w
  | .cut w => Nm w
  | .hand w => Nm w
  | .seen => True
def spDrawBody (K : PySem.W.Frag) : Sp := fun vs H Q _ => ∃ (p : Addr) (author : Str), vs = [.ref p, .str author] ∧ Stm H p ∧ ∀ v b H', Kp p H H' → Stm H' p → Bd.good author b → Dn (Off p) H' v b.toD → Q v H'
section
variable {K : PySem.W.Frag} {vs : List V} {H : Hp} {Q : VK} {E : XK} {σ : L2.St} {p : Addr}
theorem evss1 {te : TE} {A : PyData → Prop} {R : List PyData → Prop} (h : EvS p te σ H A) (k : ∀ a, A a → R [a]) : EvSs p (tCons te tNil) σ H R := evss_cons h (R := (· = [])) (evss_nil rfl) fun a r ha hr => hr ▸ k a ha
theorem evss2 {te te2 : TE} {A B : PyData → Prop} {R : List PyData → Prop} (h : EvS p te σ H A) (h2 : EvS p te2 σ H B) (k : ∀ a b, A a → B b → R [a, b]) : EvSs p (tCons te (tCons te2 tNil)) σ H R :=
  evss_cons h (R := fun r => ∃ b, r = [b] ∧ B b) (evss1 h2 fun b hb => ⟨b, rfl, hb⟩) fun a r ha ⟨b, e, hb⟩ => e ▸ k a b ha hb
theorem evss3 {te te2 te3 : TE} {A B C : PyData → Prop} {R : List PyData → Prop} (h : EvS p te σ H A) (h2 : EvS p te2 σ H B) (h3 : EvS p te3 σ H C) (k : ∀ a b c, A a → B b → C c → R [a, b, c]) : EvSs p (tCons te (tCons te2 (tCons te3 tNil))) σ H R :=
  evss_cons h (R := fun r => ∃ b c, r = [b, c] ∧ B b ∧ C c) (evss2 h2 h3 fun b c hb hc => ⟨b, c, rfl, hb, hc⟩) fun a r ha ⟨b, c, e, hb, hc⟩ => e ▸ k a b c ha hb hc
abbrev isTx : PyData → Prop := fun d => ∃ t, d = .str t ∧ Tx t
abbrev isTi : PyData → Prop := fun d => ∃ t, d = .str t ∧ Ti t
abbrev isNu : PyData → Prop := fun d => ∃ n, d = .int n ∧ Nu n
theorem evs_drawText {i : Nat} (hi : σ[i]? = some (some (.ref p))) : EvS p (tCall (spDrawText K) [] C8.E0 (tCons (tVar i) tNil)) σ H isTx := fun H1 k s Q q => ⟨.ref p, hi, p, rfl, s, fun z H2 k2 s2 a b c => q _ _ H2 k2 s2 ⟨z, rfl, a, b, c⟩ (.str z)⟩
theorem evs_drawTitle {i : Nat} (hi : σ[i]? = some (some (.ref p))) : EvS p (tCall (spDrawTitle K) [] C8.E0 (tCons (tVar i) tNil)) σ H isTi := fun H1 k s Q q => ⟨.ref p, hi, p, rfl, s, fun z H2 k2 s2 a b => q _ _ H2 k2 s2 ⟨z, rfl, a, b⟩ (.str z)⟩
theorem evs_drawName {i : Nat} (hi : σ[i]? = some (some (.ref p))) : EvS p (tCall (spDrawName K) [] C8.E0 (tCons (tVar i) tNil)) σ H isNm := fun H1 k s Q q => ⟨.ref p, hi, p, rfl, s, fun z H2 k2 s2 a => q _ _ H2 k2 s2 ⟨z, rfl, a⟩ (.str z)⟩
theorem evs_drawNumber {i : Nat} (hi : σ[i]? = some (some (.ref p))) : EvS p (tCall (spDrawNumber K) [] C8.E0 (tCons (tVar i) tNil)) σ H isNu := fun H1 k s Q q => ⟨.ref p, hi, p, rfl, s, fun z H2 k2 s2 a b => q _ _ H2 k2 s2 ⟨z, rfl, a, b⟩ (.int z)⟩
/-- (a, b, ..)[i], i a number that is reckoned -/
theorem evs_ixT {ta : TA} {ti : TE} {j : Int} {P : PyData → Prop} {R : List PyData → Prop} (ha : EvSs p ta σ H R) (hi : ∀ H1 (Q : VK), Q (.int j) H1 → ti σ H1 Q) (j0 : 0 ≤ j) (hl : ∀ ds, R ds → ds.length ≤ 1000) (hR : ∀ ds, R ds → ∃ d, ds[j.toNat]? = some d ∧ P d) :
    EvS p (tOp (rIxT K) (tTup ta) ti) σ H P := fun H1 k s Q q =>
  evs_tup (P := fun d => ∃ ds, d = .tuple ds ∧ R ds) ha (fun ds r => ⟨by have := hl ds r; omega, ds, rfl, r⟩) H1 k s _ fun v d H2 k2 s2 hd dn => by
    obtain ⟨ds, rfl, r⟩ := hd
    cases dn with
    | @tup a xs _ hap h hs =>
      refine hi H2 _ ?_
      obtain ⟨d, hd, hP⟩ := hR ds r
      have hlen := hs.len
      have hj : j.toNat < xs.length := by
        have := (List.getElem?_eq_some_iff.mp hd).1
        omega
      obtain ⟨d', hd', dn⟩ := hs.get (List.getElem?_eq_getElem hj)
      rw [hd] at hd'
      cases hd'
      exact w_ixT (SqT.of h) (atI_of j0 (List.getElem?_eq_getElem hj)) (q _ d H2 k2 s2 hP dn)
/-- _law_body: slots 0:stream 1:author 2:kind 3:title 4:name 5:ref -/
def t__law_body (K : PySem.W.Frag) : TS := (tSeq (tAsg (tCall (spNext K) [] C8.E0 (tCons (tVar 0) (tCons (tC (.int 11)) tNil))) (gName 2))
  (tSeq (tIfS (tTest (tOp rEq (tVar 2) (tC (.int 0)))) (tSeq (tAsg (tCall (spDrawTitle K) [] C8.E0 (tCons (tVar 0) tNil)) (gName 3))
  (tRet (tTup (tCons (tC (.str "found")) (tCons (tVar 3) (tCons (tCB (qTupleOf K) (tCons (tLc (iList K (tCall (spDrawNames K) [] C8.E0 (tCons (tVar 0) (tCons (tC (.int 15)) tNil)))) (gName 4) (tTest (tOp rNe (tVar 4) (tVar 1))) (tVar 4) [4]) tNil)) tNil)))))) tNext)
  (tSeq (tIfS (tTest (tOp rEq (tVar 2) (tC (.int 1)))) (tRet (tTup (tCons (tC (.str "say")) (tCons (tCall (spDrawText K) [] C8.E0 (tCons (tVar 0) tNil)) tNil)))) tNext)
  (tSeq (tIfS (tTest (tOp rEq (tVar 2) (tC (.int 6)))) (tRet (tTup (tCons (tC (.str "title")) (tCons (tCall (spDrawTitle K) [] C8.E0 (tCons (tVar 0) tNil)) tNil)))) tNext)
  (tSeq (tIfS (tTest (tOp rEq (tVar 2) (tC (.int 10)))) (tRet (tTup (tCons (tC (.str "seen")) tNil))) tNext)
  (tSeq (tAsg (tCall (spDrawName K) [] C8.E0 (tCons (tVar 0) tNil)) (gName 4))
  (tSeq (tIfS (tTest (tOp qGt (tVar 2) (tC (.int 6)))) (tRet (tTup (tCons (tOp (rIxT K) (tTup (tCons (tC (.str "add")) (tCons (tC (.str "cut")) (tCons (tC (.str "hand")) tNil)))) (tOp qSub (tVar 2) (tC (.int 7)))) (tCons (tVar 4) tNil)))) tNext)
  (tSeq (tAsg (tTup (tCons (tCall (spDrawName K) [] C8.E0 (tCons (tVar 0) tNil)) (tCons (tCall (spDrawNumber K) [] C8.E0 (tCons (tVar 0) tNil)) tNil))) (gName 5))
  (tSeq (tIfS (tTest (tOp rEq (tVar 2) (tC (.int 4)))) (tRet (tTup (tCons (tC (.str "recall")) (tCons (tVar 5) tNil)))) tNext)
  (tSeq (tIfS (tTest (tOp rEq (tVar 2) (tC (.int 5)))) (tRet (tTup (tCons (tC (.str "mark")) (tCons (tVar 5) (tCons (tVar 4) tNil))))) tNext)
  (tRet (tTup (tCons (tOp (rIxT K) (tTup (tCons (tC (.str "reply")) (tCons (tC (.str "edit")) tNil))) (tOp qSub (tVar 2) (tC (.int 2)))) (tCons (tVar 5) (tCons (tCall (spDrawText K) [] C8.E0 (tCons (tVar 0) tNil)) tNil)))))))))))))))
theorem l__law_body (h : spDrawBody K vs H Q E) : vs.length = 2 := by obtain ⟨p, n, rfl, _⟩ := h; rfl
theorem dnall_strs {ok : Addr → Prop} {H : Hp} : ∀ ms : List Str, DnAll ok H (ms.map V.str) (ms.map PyData.str)
  | [] => .nil
  | m :: ms => .cons (.str m) (dnall_strs ms)
theorem r__law_body (h : spDrawBody K vs H Q E) : t__law_body K { nx := fun _ H' => Q .non H', rt := Q } (start ["stream", "author", "kind", "title", "name", "ref"] vs) H := by
  obtain ⟨p, author, rfl, hs, q⟩ := h
  unfold t__law_body
  walk_at "w"
  refine ⟨p, 11, rfl, hs, by decide, by decide, fun kd H1 k1 s1 a0 a1 => ?_⟩
  walk_at "w"
  walk_at "if" <;> intro c0
  · walk_at "w"
    refine ⟨p, rfl, s1, fun t H2 k2 s2 t0 t1 => ?_⟩
    walk_at "w"
    refine ⟨p, 15, rfl, s2, by decide, by decide, fun a ys H3 ha k3 s3 hy yl yn ya => ?_⟩
    have ap : a ≠ p := Stm.ne s2 ha
    refine lcL (its := ys.map V.str) (fun H4 s => SqL.of (s _ _ hy)) (by rw [List.length_map]; exact Nat.lt_of_le_of_lt (show ys.length ≤ 15 by omega) (by decide)) (fun x => x) (fun x => match x with | .str y => decide (y ≠ author) | _ => false) (fun x => by exact rfl) (fun x hx H4 _ R r => ?_) (fun x hx _ H4 _ R r => ?_) (fun D H4 hD s hl => ?_)
    · obtain ⟨y, hy', rfl⟩ := List.mem_map.mp hx
      walk_at "w"
      exact r H4 (Same.refl H4)
    · walk_at "w"
      exact r H4 (Same.refl H4)
    · have dp : D ≠ p := Stm.ne s3 hD
      have k4 : Kp p H H4 := ((k1.trans k2).trans k3).trans (Same.kp s)
      have s4 := s3.same s
      refine w_nil ?_
      refine w_tupleOfL (SqL.of hl) fun t' ht' => ?_
      have tp : t' ≠ p := Stm.ne s4 ht'
      walk_at "w"
      intro r hr
      have rp : r ≠ p := Stm.ne (s4.up ht') hr
      have e : (((ys.map V.str).filter fun x => match x with | .str y => decide (y ≠ author) | _ => false).map fun x => x) = (ys.filter fun y => decide (y ≠ author)).map V.str := by
        rw [List.map_id', List.filter_map]
        rfl
      have rt : t' ≠ r := fun e => by
        rw [e] at ht'
        rw [← e, upd_same] at hr
        cases hr
      refine q _ (.found t (ys.filter fun y => decide (y ≠ author))) _ ((k4.upd (k4.free tp ht')).upd ((k4.upd (o := .tup _) (k4.free tp ht')).free rp hr)) ((s4.up ht').up hr) ?_ ?_
      · refine ⟨⟨t0, t1⟩, ?_, ?_, ?_, ?_⟩
        · have := List.length_filter_le (fun y => decide (y ≠ author)) ys
          omega
        · intro m hm
          exact yn m (List.mem_filter.mp hm).1
        · exact ya.filter _
        · intro hm
          exact of_decide_eq_true (List.mem_filter.mp hm).2 rfl
      · refine .tup rp upd_same (.cons (.str _) (.cons (.str _) (.cons (.tup tp (xs := (ys.filter fun y => decide (y ≠ author)).map V.str) ?_ (dnall_strs _)) .nil)))
        rw [upd_ne rt, upd_same, e]
  walk_at "w"
  walk_at "if" <;> intro c1
  · walk_at "b"
    refine (evs_tup (P := fun d => ∃ b, d = Bd.toD b ∧ b.good author) (R := fun ds => ds.length ≤ 5 ∧ ∃ b, .tuple ds = Bd.toD b ∧ b.good author) (evss2 (A := (· = .str "say")) (B := isTx) (evs_str rfl) (evs_drawText rfl) ?_) (fun ds h => ⟨Nat.le_trans h.1 (by decide), h.2⟩)).use s1 fun v d H2 k2 s2 hd dn => ?_
    · rintro a b rfl ⟨t, rfl, ht⟩
      exact ⟨by simp, .say t, rfl, ht⟩
    · obtain ⟨b, rfl, hb⟩ := hd
      exact q v b H2 (k1.trans k2) s2 hb dn
  walk_at "w"
  walk_at "if" <;> intro c6
  · walk_at "b"
    refine (evs_tup (P := fun d => ∃ b, d = Bd.toD b ∧ b.good author) (R := fun ds => ds.length ≤ 5 ∧ ∃ b, .tuple ds = Bd.toD b ∧ b.good author) (evss2 (A := (· = .str "title")) (B := isTi) (evs_str rfl) (evs_drawTitle rfl) ?_) (fun ds h => ⟨Nat.le_trans h.1 (by decide), h.2⟩)).use s1 fun v d H2 k2 s2 hd dn => ?_
    · rintro a b rfl ⟨t, rfl, ht⟩
      exact ⟨by simp, .title t, rfl, ht⟩
    · obtain ⟨b, rfl, hb⟩ := hd
      exact q v b H2 (k1.trans k2) s2 hb dn
  walk_at "w"
  walk_at "if" <;> intro c10
  · walk_at "b"
    refine (evs_tup (P := fun d => ∃ b, d = Bd.toD b ∧ b.good author) (R := fun ds => ds.length ≤ 5 ∧ ∃ b, .tuple ds = Bd.toD b ∧ b.good author) (evss1 (A := (· = .str "seen")) (evs_str rfl) ?_) (fun ds h => ⟨Nat.le_trans h.1 (by decide), h.2⟩)).use s1 fun v d H2 k2 s2 hd dn => ?_
    · rintro a rfl
      exact ⟨by decide, .seen, rfl, trivial⟩
    · obtain ⟨b, rfl, hb⟩ := hd
      exact q v b H2 (k1.trans k2) s2 hb dn
  walk_at "w"
  refine ⟨p, rfl, s1, fun w H2 k2 s2 hw => ?_⟩
  have kk := k1.trans k2
  walk_at "b"
  refine w_ifS ?_
  walk_at "w"
  walk_at "if" <;> intro c7
  · walk_at "b"
    refine (evs_tup (P := fun d => ∃ b, d = Bd.toD b ∧ b.good author) (R := fun ds => ds.length ≤ 5 ∧ ∃ b, .tuple ds = Bd.toD b ∧ b.good author)
      (evss2 (A := fun d => d = .str "add" ∨ d = .str "cut" ∨ d = .str "hand") (B := (· = .str w)) (evs_ixT (j := kd - 7) (R := (· = [.str "add", .str "cut", .str "hand"])) (evss_eq (evs_str rfl) (evss_eq (evs_str rfl) (evss_eq (evs_str rfl) evss_eq0))) (fun H1 Q q => ?i) (by omega) (by rintro ds rfl; decide) ?j) (evs_var rfl (.str w) rfl) ?k) (fun ds h => ⟨Nat.le_trans h.1 (by decide), h.2⟩)).use s2 fun v d H3 k3 s3 hd dn => ?_
    case i =>
      walk_at "w"
      exact q
    case j =>
      rintro ds rfl
      have hj : (kd - 7).toNat = 0 ∨ (kd - 7).toNat = 1 ∨ (kd - 7).toNat = 2 := by omega
      rcases hj with e | e | e
      · exact ⟨_, by rw [e]; rfl, .inl rfl⟩
      · exact ⟨_, by rw [e]; rfl, .inr (.inl rfl)⟩
      · exact ⟨_, by rw [e]; rfl, .inr (.inr rfl)⟩
    case k =>
      rintro a b (rfl | rfl | rfl) rfl
      · exact ⟨by simp, .add w, rfl, hw⟩
      · exact ⟨by simp, .cut w, rfl, hw⟩
      · exact ⟨by simp, .hand w, rfl, hw⟩
    obtain ⟨b, rfl, hb⟩ := hd
    exact q v b H3 (kk.trans k3) s3 hb dn
  walk_at "b"
  refine (evs_tup (P := fun d => ∃ a n, d = refD a n ∧ Nm a ∧ Nu n) (R := fun ds => ∃ a n, ds = [.str a, .int n] ∧ Nm a ∧ Nu n) (evss2 (A := isNm) (B := isNu) (evs_drawName rfl) (evs_drawNumber rfl) (by
    rintro a b ⟨x, rfl, hx⟩ ⟨n, rfl, hn⟩
    exact ⟨x, n, rfl, hx, hn⟩)) (by
    rintro ds ⟨a, n, rfl, h⟩
    exact ⟨by simp, a, n, rfl, h⟩)).use s2 fun v d H3 k3 s3 hd dn => ?_
  obtain ⟨ra, rn, rfl, hra, hrn⟩ := hd
  have kk3 := kk.trans k3
  walk_at "b"
  refine w_ifS ?_
  walk_at "w"
  walk_at "if" <;> intro c4
  · walk_at "b"
    refine (evs_tup (P := fun d => ∃ b, d = Bd.toD b ∧ b.good author) (R := fun ds => ds.length ≤ 5 ∧ ∃ b, .tuple ds = Bd.toD b ∧ b.good author) (evss2 (A := (· = .str "recall")) (B := (· = refD ra rn)) (evs_str rfl) (evs_var rfl dn rfl) ?_) (fun ds h => ⟨Nat.le_trans h.1 (by decide), h.2⟩)).use s3 fun v d H4 k4 s4 hd dn => ?_
    · rintro a b rfl rfl
      exact ⟨by simp, .recall ra rn, rfl, hra, hrn⟩
    · obtain ⟨b, rfl, hb⟩ := hd
      exact q v b H4 (kk3.trans k4) s4 hb dn
  walk_at "w"
  walk_at "if" <;> intro c5
  · walk_at "b"
    refine (evs_tup (P := fun d => ∃ b, d = Bd.toD b ∧ b.good author) (R := fun ds => ds.length ≤ 5 ∧ ∃ b, .tuple ds = Bd.toD b ∧ b.good author) (evss3 (A := (· = .str "mark")) (B := (· = refD ra rn)) (C := (· = .str w)) (evs_str rfl) (evs_var rfl dn rfl) (evs_var rfl (.str w) rfl) ?_) (fun ds h => ⟨Nat.le_trans h.1 (by decide), h.2⟩)).use s3 fun v d H4 k4 s4 hd dn => ?_
    · rintro a b c rfl rfl rfl
      exact ⟨by simp, .mark ra rn w, rfl, hra, hrn, hw⟩
    · obtain ⟨b, rfl, hb⟩ := hd
      exact q v b H4 (kk3.trans k4) s4 hb dn
  walk_at "b"
  refine (evs_tup (P := fun d => ∃ b, d = Bd.toD b ∧ b.good author) (R := fun ds => ds.length ≤ 5 ∧ ∃ b, .tuple ds = Bd.toD b ∧ b.good author)
    (evss3 (A := fun d => d = .str "reply" ∨ d = .str "edit") (B := (· = refD ra rn)) (C := isTx) (evs_ixT (j := kd - 2) (R := (· = [.str "reply", .str "edit"])) (evss_eq (evs_str rfl) (evss_eq (evs_str rfl) evss_eq0)) (fun H1 Q q => ?i) (by omega) (by rintro ds rfl; decide) ?j) (evs_var rfl dn rfl) (evs_drawText rfl) ?k) (fun ds h => ⟨Nat.le_trans h.1 (by decide), h.2⟩)).use s3 fun v d H4 k4 s4 hd dn => ?_
  case i =>
    walk_at "w"
    exact q
  case j =>
    rintro ds rfl
    have hj : (kd - 2).toNat = 0 ∨ (kd - 2).toNat = 1 := by omega
    rcases hj with e | e
    · exact ⟨_, by rw [e]; rfl, .inl rfl⟩
    · exact ⟨_, by rw [e]; rfl, .inr rfl⟩
  case k =>
    rintro a b c (rfl | rfl) rfl ⟨t, rfl, ht⟩
    · exact ⟨by simp, .reply ra rn t, rfl, hra, hrn, ht⟩
    · exact ⟨by simp, .edit ra rn t, rfl, hra, hrn, ht⟩
  obtain ⟨b, rfl, hb⟩ := hd
  exact q v b H4 (kk3.trans k4) s4 hb dn
end

/-! ### what a body has -/
def Bd.kind : Bd → Str
  | .found _ _ => "found" | .say _ => "say" | .reply _ _ _ => "reply" | .edit _ _ _ => "edit" | .recall _ _ => "recall" | .mark _ _ _ => "mark" | .title _ => "title" | .add _ => "add" | .cut _ => "cut" | .hand _ => "hand" | .seen => "seen"
def Bd.target : Bd → PyData
  | .reply a n _ => refD a n | .edit a n _ => refD a n | .recall a n => refD a n | .mark a n _ => refD a n | _ => .none
def Bd.text : Bd → PyData
  | .say t => .str t | .reply _ _ t => .str t | .edit _ _ t => .str t | _ => .none
def Bd.isAct : Bd → Bool
  | .add _ => true | .cut _ => true | .hand _ => true | _ => false
def Bd.hasT : Bd → Bool
  | .reply _ _ _ => true | .edit _ _ _ => true | .recall _ _ => true | .mark _ _ _ => true | _ => false
def Bd.two : Bd → Bool
  | .reply _ _ _ => true | .edit _ _ _ => true | _ => false
def Bd.isSay : Bd → Bool
  | .say _ => true | _ => false
def Bd.rest (b : Bd) : List PyData := match b.toD with
  | .tuple (_ :: r) => r
  | _ => []
theorem Bd.toD_eq (b : Bd) : b.toD = .tuple (.str b.kind :: b.rest) := by cases b <;> rfl
def spAct (K : PySem.W.Frag) : Sp := fun vs H Q _ => ∃ v b, vs = [v] ∧ Dn Any H v (Bd.toD b) ∧ ∀ H', Same H H' → Q (.bl b.isAct) H'
def spTarget (K : PySem.W.Frag) : Sp := fun vs H Q _ => ∃ v b, vs = [v] ∧ Dn Any H v (Bd.toD b) ∧ ∀ w H', Same H H' → Dn Any H' w b.target → Q w H'
def spTextOf (K : PySem.W.Frag) : Sp := fun vs H Q _ => ∃ v b, vs = [v] ∧ Dn Any H v (Bd.toD b) ∧ ∀ w H', Same H H' → Dn Any H' w b.text → Q w H'
section
variable {K : PySem.W.Frag} {vs : List V} {H : Hp} {Q : VK} {E : XK}
theorem dnall_at {ok : Addr → Prop} {H : Hp} : ∀ {vs : List V} {ds : List PyData} {i : Nat} {d : PyData}, DnAll ok H vs ds → ds[i]? = some d → ∃ v, vs[i]? = some v ∧ Dn ok H v d
  | _, _, _, _, .nil, e => by simp at e
  | _, _, 0, _, .cons h _, e => by
    have e' := Option.some.inj e
    subst e'
    exact ⟨_, rfl, h⟩
  | _, _, i + 1, v, .cons _ hs, e => dnall_at (i := i) hs e
theorem body_at {ok : Addr → Prop} {v : V} {b : Bd} (h : Dn ok H v b.toD) : ∃ a xs, v = .ref a ∧ ok a ∧ H a = some (.tup (.str b.kind :: xs)) ∧ DnAll ok H xs b.rest := by
  rw [Bd.toD_eq] at h
  cases h with
  | tup ha h hs =>
    cases hs with
    | cons h1 hs =>
      cases h1
      exact ⟨_, _, rfl, ha, h, hs⟩
theorem kind_hasT (b : Bd) : inV (.str b.kind) [.str "reply", .str "edit", .str "recall", .str "mark"] = b.hasT := by cases b <;> (simp only [Bd.kind, Bd.hasT, Bd.two, Bd.isAct, Bd.isSay]; decide +kernel)
theorem kind_two (b : Bd) : inV (.str b.kind) [.str "reply", .str "edit"] = b.two := by cases b <;> (simp only [Bd.kind, Bd.hasT, Bd.two, Bd.isAct, Bd.isSay]; decide +kernel)
theorem kind_act (b : Bd) : inV (.str b.kind) [.str "add", .str "cut", .str "hand"] = b.isAct := by cases b <;> (simp only [Bd.kind, Bd.hasT, Bd.two, Bd.isAct, Bd.isSay]; decide +kernel)
theorem kind_say (b : Bd) : decide (b.kind = Str.ofString "say") = b.isSay := by cases b <;> first | exact decide_eq_true rfl | exact decide_eq_false (by simp only [Bd.kind]; decide)
/-- text_of: slots 0:body -/
def t_text_of (K : PySem.W.Frag) : TS := (tSeq (tIfS (tTest (tOp rEq (tOp (rIxT K) (tVar 0) (tC (.int 0))) (tC (.str "say")))) (tRet (tOp (rIxT K) (tVar 0) (tC (.int 1)))) tNext)
  (tSeq (tIfS (tTest (tOp (rIn K false) (tOp (rIxT K) (tVar 0) (tC (.int 0))) (tTup (tCons (tC (.str "reply")) (tCons (tC (.str "edit")) tNil))))) (tRet (tOp (rIxT K) (tVar 0) (tC (.int 2)))) tNext)
  (tRet (tC .non))))
theorem l_text_of (h : spTextOf K vs H Q E) : vs.length = 1 := by obtain ⟨v, d, rfl, _⟩ := h; rfl
theorem r_text_of (h : spTextOf K vs H Q E) : t_text_of K { nx := fun _ H' => Q .non H', rt := Q } (start ["body"] vs) H := by
  obtain ⟨v, b, rfl, hd, q⟩ := h
  obtain ⟨a, xs, rfl, _, ha, hs⟩ := body_at hd
  unfold t_text_of
  walk_at "w"
  rw [kind_say]
  walk_at "if" <;> intro hb
  · have e : b.rest[0]? = some b.text := by cases b <;> first | rfl | exact nomatch hb
    obtain ⟨w, hw, dw⟩ := dnall_at hs e
    walk_at "b"
    refine w_op (w_var rfl (w_c ?_))
    refine w_ixT (SqT.of ha) (atI_nat (j := 1) (by rw [List.getElem?_cons_succ]; exact hw)) ?_
    exact q w _ (Same.refl H) dw
  · walk_at "w"
    intro t ht
    have s1 := Same.upd (o := .tup [.str "reply", .str "edit"]) (Same.refl H) ht
    refine w_inT (SqT.of upd_same) rfl rfl ?_
    refine w_exb ?_
    show if inV (.str b.kind) [.str "reply", .str "edit"] = true then _ else _
    rw [kind_two]
    walk_at "if" <;> intro hb2
    · have e : b.rest[1]? = some b.text := by cases b <;> first | rfl | exact nomatch hb2
      obtain ⟨w, hw, dw⟩ := dnall_at hs e
      walk_at "b"
      refine w_op (w_var rfl (w_c ?_))
      refine w_ixT (SqT.of (s1 _ _ ha)) (atI_nat (j := 2) (by rw [List.getElem?_cons_succ]; exact hw)) ?_
      exact q w _ s1 (dw.same s1)
    · walk_at "w"
      have e : b.text = .none := by cases b <;> first | rfl | exact absurd hb (by decide) | exact absurd hb2 (by decide) | (simp [Bd.isSay] at hb; done) | (simp [Bd.two] at hb2; done)
      exact q _ _ s1 (e ▸ .non)
end

/-! ### == of data -/
mutual
def noDict : PyData → Bool
  | .dict _ => false
  | .list ds => noDicts ds
  | .tuple ds => noDicts ds
  | _ => true
def noDicts : List PyData → Bool
  | [] => true
  | d :: ds => noDict d && noDicts ds
end
section
variable {K : PySem.W.Frag} {ok : Addr → Prop} {H : Hp} {Q : VK}
mutual
theorem dn_dp {v : V} {d : PyData} (n : noDict d = true) : Dn ok H v d → Dp K H v d
  | .non => .non
  | .bl b => .bl b
  | .int i => .int i
  | .str x => .str x
  | .lst _ h hs => .lst (SqL.of h) (dnall_dp n hs)
  | .tup _ h hs => .tup (SqT.of h) (dnall_dp n hs)
  | .dic _ h => absurd n (by simp [noDict])
theorem dnall_dp {vs : List V} {ds : List PyData} (n : noDicts ds = true) : DnAll ok H vs ds → DpAll K H vs ds
  | .nil => .nil
  | .cons h hs => .cons (dn_dp (Bool.and_eq_true_iff.mp n).1 h) (dnall_dp (Bool.and_eq_true_iff.mp n).2 hs)
end
mutual
theorem noDict_of_lay : ∀ {d : PyData}, d.canLay0 = true → noDict d = true
  | .none, _ => rfl
  | .bool _, _ => rfl
  | .int _, _ => rfl
  | .str _, _ => rfl
  | .list ds, h => noDicts_of_lay (ds := ds) (by rw [PyData.canLay0] at h; exact h)
  | .tuple ds, h => noDicts_of_lay (ds := ds) (by rw [PyData.canLay0] at h; exact h)
  | .dict _, h => by rw [PyData.canLay0] at h; exact nomatch h
theorem noDicts_of_lay : ∀ {ds : List PyData}, PyData.canLayAll0 ds = true → noDicts ds = true
  | [], _ => rfl
  | d :: ds, h => by
    rw [PyData.canLayAll0, Bool.and_eq_true] at h
    show (noDict d && noDicts ds) = true
    rw [noDict_of_lay h.1, noDicts_of_lay h.2]
    rfl
end
theorem w_eqD {x y : V} {d e : PyData} {ok2 : Addr → Prop} (h : Dn ok H x d) (h2 : Dn ok2 H y e) (s : SeqAt.shaped d = true) (s2 : SeqAt.shaped e = true) (q : Q (.bl (PyData.eqv d e)) H) : rEqD K x y H Q :=
  ⟨d, e, dn_dp (noDict_of_lay (SeqAt.canLay_of_shaped s)) h, dn_dp (noDict_of_lay (SeqAt.canLay_of_shaped s2)) h2, s, s2, q⟩
theorem w_neD {x y : V} {d e : PyData} {ok2 : Addr → Prop} (h : Dn ok H x d) (h2 : Dn ok2 H y e) (s : SeqAt.shaped d = true) (s2 : SeqAt.shaped e = true) (q : Q (.bl (!PyData.eqv d e)) H) : rNeD K x y H Q :=
  ⟨d, e, dn_dp (noDict_of_lay (SeqAt.canLay_of_shaped s)) h, dn_dp (noDict_of_lay (SeqAt.canLay_of_shaped s2)) h2, s, s2, q⟩
theorem w_eqDs {x y : V} {d : PyData} {ok2 : Addr → Prop} (h : Dn ok H x d) (h2 : Dn ok2 H y d) (s : SeqAt.shaped d = true) (q : Q (.bl true) H) : rEqD K x y H Q :=
  w_eqD h h2 s s (by rw [SeqAt.eqv_refl d (SeqAt.canLay_of_shaped s)]; exact q)
theorem w_neDs {x y : V} {d : PyData} {ok2 : Addr → Prop} (h : Dn ok H x d) (h2 : Dn ok2 H y d) (s : SeqAt.shaped d = true) (q : Q (.bl false) H) : rNeD K x y H Q :=
  w_neD h h2 s s (by rw [SeqAt.eqv_refl d (SeqAt.canLay_of_shaped s)]; exact q)
/-- signs that are ASCII -/
def ascii (z : Str) : Bool := z.cps.toList.all fun c => decide (c < 1114112)
theorem strOk_of {z : Str} (h : ascii z = true) : PyData.strOk z = true := by
  unfold PyData.strOk
  rw [← Array.all_toList]
  exact h
theorem shaped_str {z : Str} (h : ascii z = true) : SeqAt.shaped (.str z) = true := by
  unfold SeqAt.shaped
  rw [PyData.canLay0, strOk_of h]
  rfl
theorem lineC_ascii {z : Str} (h : z.cps.toList.all lineC = true) : ascii z = true := by
  unfold ascii
  rw [List.all_eq_true] at h ⊢
  intro c hc
  have := h c hc
  unfold lineC prB at this
  simp only [Bool.and_eq_true, decide_eq_true_eq] at this
  exact decide_eq_true (by omega)
theorem text_ascii {z : Str} (h : (z.cps.toList.all fun c => decide (c = 10) || lineC c) = true) : ascii z = true := by
  unfold ascii
  rw [List.all_eq_true] at h ⊢
  intro c hc
  have := h c hc
  unfold lineC prB at this
  simp only [Bool.and_eq_true, decide_eq_true_eq, Bool.or_eq_true] at this
  exact decide_eq_true (by omega)
theorem name_ascii {z : Str} (h : nameS z = true) : ascii z = true := by
  unfold ascii
  unfold nameS at h
  rw [Bool.and_eq_true] at h
  rw [List.all_eq_true] at h ⊢
  intro c hc
  have := h.2 c hc
  rw [Bool.or_eq_true, decide_eq_true_eq, decide_eq_true_eq] at this
  have l1 : ∀ c ∈ LOW.cps.toList, c < 1114112 := by decide
  have l2 : ∀ c ∈ DIG.cps.toList, c < 1114112 := by decide
  exact decide_eq_true (this.elim (l1 c) (l2 c))
theorem shaped_ref {a : Str} {n : Int} (h : nameS a = true) : SeqAt.shaped (refD a n) = true := by
  unfold SeqAt.shaped refD
  rw [PyData.canLay0, PyData.canLayAll0, PyData.canLayAll0, PyData.canLayAll0, PyData.canLay0, PyData.canLay0, strOk_of (name_ascii h)]
  rfl
end

/-! ### data that may be compared -/
/-- its texts are texts, no dicts, no deeper than k -/
def Lay (k : Nat) (d : PyData) : Prop := d.canLay0 = true ∧ d.depth ≤ k
theorem Lay.shaped {k : Nat} {d : PyData} (h : Lay k d) (hk : k ≤ 64 := by decide) : SeqAt.shaped d = true := by
  unfold SeqAt.shaped
  rw [h.1, decide_eq_true (Nat.le_trans h.2 hk)]
  rfl
theorem Lay.up {j k : Nat} {d : PyData} (h : Lay j d) (hk : j ≤ k := by decide) : Lay k d := ⟨h.1, Nat.le_trans h.2 hk⟩
theorem lay_int {k : Nat} {i : Int} : Lay k (.int i) := ⟨by rw [PyData.canLay0], by rw [PyData.depth]; exact Nat.zero_le _⟩
theorem lay_str {k : Nat} {z : Str} (h : ascii z = true) : Lay k (.str z) := ⟨by rw [PyData.canLay0, strOk_of h], by rw [PyData.depth]; exact Nat.zero_le _⟩
theorem lay_all : ∀ {k : Nat} {ds : List PyData}, (∀ d ∈ ds, Lay k d) → PyData.canLayAll0 ds = true ∧ PyData.depthAll ds ≤ k
  | k, [], _ => ⟨by rw [PyData.canLayAll0], by rw [PyData.depthAll]; exact Nat.zero_le _⟩
  | k, d :: ds, h => by
    have h1 := h d (List.mem_cons_self ..)
    have h2 := lay_all fun e he => h e (List.mem_cons_of_mem _ he)
    refine ⟨by rw [PyData.canLayAll0, h1.1, h2.1]; rfl, ?_⟩
    rw [PyData.depthAll]
    exact Nat.max_le.mpr ⟨h1.2, h2.2⟩
theorem lay_tup {k : Nat} {ds : List PyData} (h : ∀ d ∈ ds, Lay k d) : Lay (k + 1) (.tuple ds) :=
  ⟨by rw [PyData.canLay0]; exact (lay_all h).1, by rw [PyData.depth]; exact Nat.succ_le_succ (lay_all h).2⟩
theorem lay_name {k : Nat} {z : Str} (h : Nm z) : Lay k (.str z) := lay_str (name_ascii h)
theorem lay_ref {k : Nat} {a : Str} {n : Int} (h : Nm a) : Lay (k + 1) (refD a n) := lay_tup fun d hd => by
  rcases List.mem_cons.mp hd with rfl | hd
  · exact lay_name h
  · rw [List.mem_singleton.mp hd]
    exact lay_int
theorem lay1 {k : Nat} {a : PyData} (h : Lay k a) : Lay (k + 1) (.tuple [a]) := lay_tup fun d hd => by
  rw [List.mem_singleton.mp hd]
  exact h
theorem lay2 {k : Nat} {a b : PyData} (h : Lay k a) (h2 : Lay k b) : Lay (k + 1) (.tuple [a, b]) := lay_tup fun d hd => by
  rcases List.mem_cons.mp hd with rfl | hd
  · exact h
  · rw [List.mem_singleton.mp hd]
    exact h2
theorem lay3 {k : Nat} {a b c : PyData} (h : Lay k a) (h2 : Lay k b) (h3 : Lay k c) : Lay (k + 1) (.tuple [a, b, c]) := lay_tup fun d hd => by
  rcases List.mem_cons.mp hd with rfl | hd
  · exact h
  rcases List.mem_cons.mp hd with rfl | hd
  · exact h2
  · rw [List.mem_singleton.mp hd]
    exact h3
theorem lay5 {k : Nat} {a b c e f : PyData} (h : Lay k a) (h2 : Lay k b) (h3 : Lay k c) (h4 : Lay k e) (h5 : Lay k f) : Lay (k + 1) (.tuple [a, b, c, e, f]) := lay_tup fun d hd => by
  rcases List.mem_cons.mp hd with rfl | hd
  · exact h
  rcases List.mem_cons.mp hd with rfl | hd
  · exact h2
  rcases List.mem_cons.mp hd with rfl | hd
  · exact h3
  rcases List.mem_cons.mp hd with rfl | hd
  · exact h4
  · rw [List.mem_singleton.mp hd]
    exact h5
theorem lay_kind {k : Nat} (b : Bd) : Lay k (.str b.kind) := lay_str (by cases b <;> (simp only [Bd.kind]; decide))
theorem lay_body {a : Str} : ∀ {b : Bd}, Bd.good a b → Lay 2 b.toD
  | .found t ms, h => lay3 (lay_kind (.found t ms)) (lay_str (lineC_ascii h.1.2)) (lay_tup fun d hd => by
      obtain ⟨m, hm, rfl⟩ := List.mem_map.mp hd
      exact lay_name (h.2.2.1 m hm))
  | .say t, h => (lay2 (k := 1) (lay_kind (.say t)) (lay_str (text_ascii h.2.2)))
  | .reply a n t, h => lay3 (lay_kind (.reply a n t)) (lay_ref h.1) (lay_str (text_ascii h.2.2.2.2))
  | .edit a n t, h => lay3 (lay_kind (.edit a n t)) (lay_ref h.1) (lay_str (text_ascii h.2.2.2.2))
  | .recall a n, h => lay2 (lay_kind (.recall a n)) (lay_ref h.1)
  | .mark a n w, h => lay3 (lay_kind (.mark a n w)) (lay_ref h.1) (lay_name h.2.2)
  | .title t, h => lay2 (k := 1) (lay_kind (.title t)) (lay_str (lineC_ascii h.2))
  | .add w, h => lay2 (k := 1) (lay_kind (.add w)) (lay_name h)
  | .cut w, h => lay2 (k := 1) (lay_kind (.cut w)) (lay_name h)
  | .hand w, h => lay2 (k := 1) (lay_kind (.hand w)) (lay_name h)
  | .seen, _ => lay1 (k := 1) (lay_kind .seen)

/-! ### letters -/
def lfs (a : Str) (n s : Int) (sv bv : V) (d : Addr) : List (Str × V) := [("author", .str a), ("number", .int n), ("stamp", .int s), ("seen", sv), ("body", bv), ("_counts", .ref d)]
abbrev csV (ps : List (Str × Int)) : List (L2.Key × V) := ps.map fun p => (Sum.inr p.1, V.int p.2)
def LetterAt (C : Addr) (H : Hp) (x : Addr) (a : Str) (n s : Int) (ps : List (Str × Int)) (sv bv : V) : Prop := ∃ dx d, H x = some (.ins C dx (lfs a n s sv bv d)) ∧ H d = some (.dK (csV ps))
def pairD (p : Str × Int) : PyData := .tuple [.str p.1, .int p.2]
def seenD (ps : List (Str × Int)) : PyData := .tuple (ps.map pairD)
def cnt (ps : List (Str × Int)) (m : Str) : Int := match ps.find? (fun p => decide (p.1 = m)) with | some p => p.2 | none => 0
section
variable {K : PySem.W.Frag} {C : Addr} {H H' : Hp} {x : Addr} {a : Str} {n s : Int} {ps : List (Str × Int)} {sv bv : V} {d : Addr}
theorem lfs_author : (lfs a n s sv bv d).lookup ("author" : Str) = some (.str a) := by rfl
theorem lfs_number : (lfs a n s sv bv d).lookup ("number" : Str) = some (.int n) := by rfl
theorem lfs_stamp : (lfs a n s sv bv d).lookup ("stamp" : Str) = some (.int s) := by rfl
theorem lfs_seen : (lfs a n s sv bv d).lookup ("seen" : Str) = some sv := by rfl
theorem lfs_body : (lfs a n s sv bv d).lookup ("body" : Str) = some bv := by rfl
theorem lfs_counts : (lfs a n s sv bv d).lookup ("_counts" : Str) = some (.ref d) := by rfl
theorem lfs_count : (lfs a n s sv bv d).lookup ("count" : Str) = none := by rfl
theorem lfs_hasSeen : (lfs a n s sv bv d).lookup ("has_seen" : Str) = none := by rfl
theorem lfs_value : (lfs a n s sv bv d).lookup ("value" : Str) = none := by rfl
theorem lfs_put : putF "_counts" (.ref d) (putF "body" bv (putF "seen" sv (putF "stamp" (.int s) (putF "number" (.int n) (putF "author" (.str a) []))))) = lfs a n s sv bv d := by rfl
theorem LetterAt.same (h : LetterAt C H x a n s ps sv bv) (k : Same H H') : LetterAt C H' x a n s ps sv bv := by
  obtain ⟨dx, d, h1, h2⟩ := h
  exact ⟨dx, d, k _ _ h1, k _ _ h2⟩
theorem LetterAt.kp {p : Addr} (h : LetterAt C H x a n s ps sv bv) (st : Stm H p) (k : Kp p H H') : LetterAt C H' x a n s ps sv bv := by
  obtain ⟨dx, d, h1, h2⟩ := h
  obtain ⟨i, j, hp, _⟩ := st
  refine ⟨dx, d, k _ _ (fun e => ?_) h1, k _ _ (fun e => ?_) h2⟩
  · subst e
    rw [hp] at h1
    cases h1
  · subst e
    rw [hp] at h2
    cases h2
theorem csV_app (a b : List (Str × Int)) : csV (a ++ b) = csV a ++ csV b := List.map_append
theorem valV_cs (m : Str) : ∀ ps : List (Str × Int), valV (csV ps) (Sum.inr m) = (ps.find? fun p => decide (p.1 = m)).map fun p => V.int p.2
  | [] => rfl
  | p :: ps => by
    by_cases e : p.1 = m
    · rw [List.find?_cons, decide_eq_true e]
      exact valV_pos (congrArg Sum.inr e)
    · rw [List.find?_cons, decide_eq_false e]
      exact (valV_neg (fun z => e (Sum.inr.inj z))).trans (valV_cs m ps)
theorem getD_cnt (m : Str) : (valV (csV ps) (Sum.inr m)).getD (.int 0) = .int (cnt ps m) := by
  rw [valV_cs]
  unfold cnt
  cases ps.find? (fun p => decide (p.1 = m)) <;> rfl
theorem pairs_at {ok : Addr → Prop} : ∀ {ps : List (Str × Int)} {vs : List V}, DnAll ok H vs (ps.map pairD) → ∀ (i : Nat) (v : V), vs[i]? = some v → ∃ (p : Str × Int) (t : Addr), ps[i]? = some p ∧ v = .ref t ∧ H t = some (.tup [.str p.1, .int p.2])
  | [], _, h, i, v, e => by
    cases h
    exact nomatch e
  | p :: ps, _, h, i, v, e => by
    cases h with
    | cons h hs =>
      cases i with
      | zero =>
        cases Option.some.inj e
        cases h with
        | tup _ ht hx =>
          cases hx with
          | cons h1 hx =>
            cases h1
            cases hx with
            | cons h2 hx =>
              cases h2
              cases hx
              exact ⟨p, _, rfl, rfl, ht⟩
      | succ i =>
        obtain ⟨p, t, e1, e2, e3⟩ := pairs_at hs i v e
        exact ⟨p, t, e1, e2, e3⟩
end
def spInit (K : PySem.W.Frag) (C : Addr) : Sp := fun vs H Q _ => ∃ (x dx : Addr) (a : Str) (n s : Int) (ps : List (Str × Int)) (sv bv : V), vs = [.ref x, .str a, .int n, .int s, sv, bv] ∧ H x = some (.ins C dx []) ∧ Dn (Off x) H sv (seenD ps) ∧ (ps.map (·.1)).Nodup ∧ ps.length ≤ 1000 ∧
  ∀ H', Kp x H H' → LetterAt C H' x a n s ps sv bv → Q .non H'
def spRefP (K : PySem.W.Frag) (C : Addr) : Sp := fun vs H Q _ => ∃ (x : Addr) (a : Str) (n s : Int) (ps : List (Str × Int)) (sv bv : V), vs = [.ref x] ∧ LetterAt C H x a n s ps sv bv ∧ ∀ t, H t = none → Q (.ref t) (upd H t (.tup [.str a, .int n]))
def spKeyP (K : PySem.W.Frag) (C : Addr) : Sp := fun vs H Q _ => ∃ (x : Addr) (a : Str) (n s : Int) (ps : List (Str × Int)) (sv bv : V), vs = [.ref x] ∧ LetterAt C H x a n s ps sv bv ∧ ∀ t, H t = none → Q (.ref t) (upd H t (.tup [.int s, .str a]))
def spValue (K : PySem.W.Frag) (C : Addr) : Sp := fun vs H Q _ => ∃ (x : Addr) (a : Str) (n s : Int) (ps : List (Str × Int)) (sv bv : V), vs = [.ref x] ∧ LetterAt C H x a n s ps sv bv ∧ ∀ t, H t = none → Q (.ref t) (upd H t (.tup [.str a, .int n, .int s, sv, bv]))
def spCount (K : PySem.W.Frag) (C : Addr) : Sp := fun vs H Q _ => ∃ (x : Addr) (m a : Str) (n s : Int) (ps : List (Str × Int)) (sv bv : V), vs = [.ref x, .str m] ∧ LetterAt C H x a n s ps sv bv ∧ Q (.int (cnt ps m)) H
def spHasSeen (K : PySem.W.Frag) (C : Addr) : Sp := fun vs H Q _ => ∃ (x r : Addr) (m a : Str) (k n s : Int) (ps : List (Str × Int)) (sv bv : V), vs = [.ref x, .ref r] ∧ LetterAt C H x a n s ps sv bv ∧ H r = some (.tup [.str m, .int k]) ∧ Q (.bl (decide (k ≤ cnt ps m))) H
section
variable {K : PySem.W.Frag} {C : Addr} {vs : List V} {H : Hp} {Q : VK} {E : XK}
theorem w_fldV {i : Nat} {σ : L2.St} {f : Str} {x dx : Addr} {fs : List (Str × V)} {v : V} (hi : σ[i]? = some (some (.ref x))) (h : H x = some (.ins C dx fs)) (c : Cls K C) (nn : NoAttr K C f) (l : fs.lookup f = some v) (q : Q v H) : tFld K (tVar i) f σ H Q :=
  ⟨_, hi, x, C, dx, fs, v, rfl, h, c, nn, l, q⟩
theorem w_methV {i : Nat} {σ : L2.St} {m : Str} {x dx : Addr} {fs : List (Str × V)} {sp : Sp} {dvs : List V} {E : XK} {t : TA} (hi : σ[i]? = some (some (.ref x))) (h : H x = some (.ins C dx fs)) (l : fs.lookup m = none) (q : t σ H fun vs H2 => sp (.ref x :: (vs ++ dvs)) H2 Q E) : tMeth C m sp dvs E (tVar i) t σ H Q :=
  ⟨_, hi, x, dx, fs, rfl, h, l, q⟩
theorem w_propV {i : Nat} {σ : L2.St} {x dx : Addr} {fs : List (Str × V)} {sp : Sp} {dvs : List V} {E : XK} (hi : σ[i]? = some (some (.ref x))) (h : H x = some (.ins C dx fs)) (q : sp (.ref x :: dvs) H Q E) : tProp C sp dvs E (tVar i) σ H Q :=
  ⟨_, hi, x, dx, fs, rfl, h, q⟩
/-- Letter_ref: slots 0:self -/
def t_Letter_ref (K : PySem.W.Frag) (C_Letter : Addr) : TS := (tRet (tTup (tCons (tFld K (tVar 0) "author") (tCons (tFld K (tVar 0) "number") tNil))))
theorem l_Letter_ref (h : spRefP K C vs H Q E) : vs.length = 1 := by obtain ⟨x, a, n, s, ps, sv, bv, rfl, _⟩ := h; rfl
theorem r_Letter_ref (LC : IsC_Letter K C) (h : spRefP K C vs H Q E) : t_Letter_ref K C { nx := fun _ H' => Q .non H', rt := Q } (start ["self"] vs) H := by
  obtain ⟨x, a, n, s, ps, sv, bv, rfl, ⟨dx, d, hx, hd⟩, q⟩ := h
  unfold t_Letter_ref
  walk_at "w"
  refine w_fldV rfl hx LC.cl LC.n_author lfs_author ?_
  walk_at "w"
  refine w_fldV rfl hx LC.cl LC.n_number lfs_number ?_
  walk_at "w"
  exact q
/-- Letter_value: slots 0:self -/
def t_Letter_value (K : PySem.W.Frag) (C_Letter : Addr) : TS := (tRet (tTup (tCons (tFld K (tVar 0) "author") (tCons (tFld K (tVar 0) "number") (tCons (tFld K (tVar 0) "stamp") (tCons (tFld K (tVar 0) "seen") (tCons (tFld K (tVar 0) "body") tNil)))))))
theorem l_Letter_value (h : spValue K C vs H Q E) : vs.length = 1 := by obtain ⟨x, a, n, s, ps, sv, bv, rfl, _⟩ := h; rfl
theorem r_Letter_value (LC : IsC_Letter K C) (h : spValue K C vs H Q E) : t_Letter_value K C { nx := fun _ H' => Q .non H', rt := Q } (start ["self"] vs) H := by
  obtain ⟨x, a, n, s, ps, sv, bv, rfl, ⟨dx, d, hx, hd⟩, q⟩ := h
  unfold t_Letter_value
  walk_at "w"
  refine w_fldV rfl hx LC.cl LC.n_author lfs_author ?_
  walk_at "w"
  refine w_fldV rfl hx LC.cl LC.n_number lfs_number ?_
  walk_at "w"
  refine w_fldV rfl hx LC.cl LC.n_stamp lfs_stamp ?_
  walk_at "w"
  refine w_fldV rfl hx LC.cl LC.n_seen lfs_seen ?_
  walk_at "w"
  refine w_fldV rfl hx LC.cl LC.n_body lfs_body ?_
  walk_at "w"
  exact q
/-- Letter___init__: slots 0:self 1:author 2:number 3:stamp 4:seen 5:body 6:name 7:count -/
def t_Letter___init__ (K : PySem.W.Frag) (C_Letter : Addr) : TS := (tSeq (sFld K (tVar 0) (tVar 1) "author")
  (tSeq (sFld K (tVar 0) (tVar 2) "number")
  (tSeq (sFld K (tVar 0) (tVar 3) "stamp")
  (tSeq (sFld K (tVar 0) (tVar 4) "seen")
  (tSeq (sFld K (tVar 0) (tVar 5) "body")
  (sFld K (tVar 0) (tDc (iTup K (tVar 4)) (gTup K 2 (gCons (gName 6) (gCons (gName 7) gNil))) tYes (tVar 6) (tVar 7) [6, 7]) "_counts"))))))
theorem l_Letter___init__ (h : spInit K C vs H Q E) : vs.length = 6 := by obtain ⟨x, dx, a, n, s, ps, sv, bv, rfl, _⟩ := h; rfl
theorem r_Letter___init__ (LC : IsC_Letter K C) (h : spInit K C vs H Q E) : t_Letter___init__ K C { nx := fun _ H' => Q .non H', rt := Q } (start ["self", "author", "number", "stamp", "seen", "body", "name", "count"] vs) H := by
  obtain ⟨x, dx, a, n, s, ps, sv, bv, rfl, hx, hsv, hnd, hlen, q⟩ := h
  unfold t_Letter___init__
  walk_at "w"
  refine w_sfld (w_var rfl (w_var rfl ⟨x, C, dx, _, rfl, hx, LC.cl, LC.n_author, (show 0 < 1000 by decide), ?_⟩))
  walk_at "w"
  refine w_sfld (w_var rfl (w_var rfl ⟨x, C, dx, _, rfl, upd_same, LC.cl, LC.n_number, (show 1 < 1000 by decide), ?_⟩))
  walk_at "w"
  refine w_sfld (w_var rfl (w_var rfl ⟨x, C, dx, _, rfl, upd_same, LC.cl, LC.n_stamp, (show 2 < 1000 by decide), ?_⟩))
  walk_at "w"
  refine w_sfld (w_var rfl (w_var rfl ⟨x, C, dx, _, rfl, upd_same, LC.cl, LC.n_seen, (show 3 < 1000 by decide), ?_⟩))
  walk_at "w"
  refine w_sfld (w_var rfl (w_var rfl ⟨x, C, dx, _, rfl, upd_same, LC.cl, LC.n_body, (show 4 < 1000 by decide), ?_⟩))
  walk_at "w"
  have kx : ∀ {G : Hp} {o : HO}, Kp x H G → Kp x H (upd G x o) := fun k => k.updp
  have k5 := kx (o := .ins C dx (putF "body" bv (putF "seen" sv (putF "stamp" (.int s) (putF "number" (.int n) (putF "author" (.str a) [])))))) (kx (o := .ins C dx (putF "seen" sv (putF "stamp" (.int s) (putF "number" (.int n) (putF "author" (.str a) []))))) (kx (o := .ins C dx (putF "stamp" (.int s) (putF "number" (.int n) (putF "author" (.str a) [])))) (kx (o := .ins C dx (putF "number" (.int n) (putF "author" (.str a) []))) (kx (o := .ins C dx (putF "author" (.str a) [])) Kp.refl))))
  have h5 : (upd (upd (upd (upd (upd H x (.ins C dx (putF "author" (.str a) []))) x (.ins C dx (putF "number" (.int n) (putF "author" (.str a) [])))) x (.ins C dx (putF "stamp" (.int s) (putF "number" (.int n) (putF "author" (.str a) []))))) x (.ins C dx (putF "seen" sv (putF "stamp" (.int s) (putF "number" (.int n) (putF "author" (.str a) [])))))) x (.ins C dx (putF "body" bv (putF "seen" sv (putF "stamp" (.int s) (putF "number" (.int n) (putF "author" (.str a) []))))))) x = some (.ins C dx (putF "body" bv (putF "seen" sv (putF "stamp" (.int s) (putF "number" (.int n) (putF "author" (.str a) [])))))) := upd_same
  revert k5 h5
  generalize (upd (upd (upd (upd (upd H x (.ins C dx (putF "author" (.str a) []))) x (.ins C dx (putF "number" (.int n) (putF "author" (.str a) [])))) x (.ins C dx (putF "stamp" (.int s) (putF "number" (.int n) (putF "author" (.str a) []))))) x (.ins C dx (putF "seen" sv (putF "stamp" (.int s) (putF "number" (.int n) (putF "author" (.str a) [])))))) x (.ins C dx (putF "body" bv (putF "seen" sv (putF "stamp" (.int s) (putF "number" (.int n) (putF "author" (.str a) []))))))) = H5
  intro k5 h5
  have hsv5 : Dn (Off x) H5 sv (seenD ps) := hsv.kp k5
  cases hsv5 with
  | @tup ta xs _ hok ht hxs =>
    have hxl : xs.length = ps.length := by rw [hxs.len, List.length_map]
    show sFld K (tVar 0) (tDc (iTup K (tVar 4)) (gTup K 2 (gCons (gName 6) (gCons (gName 7) gNil))) tYes (tVar 6) (tVar 7) [6, 7]) "_counts" _ _ _
    refine w_sfld ?_
    show iTup K (tVar 4) _ _ _
    refine w_iTup (w_var rfl ⟨ta, rfl, ⟨_, SqT.of ht⟩, fun D hD => ?_⟩)
    refine dc_tup (fun i H' => (∀ b o, b ≠ D → H5 b = some o → H' b = some o) ∧ H' D = some (.dK (csV (ps.take i)))) ⟨fun b o nb e => by rw [upd_ne nb]; exact e, upd_same⟩ (fun i H' _ pv => SqT.of (pv.1 _ _ (ne_of_none ht hD) ht)) (fun i v H' hv pv => ?_) (fun H' pv => ?_)
    · obtain ⟨p, t, e1, rfl, e3⟩ := pairs_at hxs i v hv
      refine ⟨t, _, rfl, SqT.of (pv.1 _ _ (ne_of_none e3 hD) e3), rfl, gc (w_name (gc (w_name (gn ⟨rfl, ?_⟩))))⟩
      refine w_yes ?_
      refine iteT_ ?_
      refine w_var rfl (w_var rfl ⟨_, Sum.inr p.1, rfl, pv.2, ?_, fun b o nb e => by rw [upd_ne nb]; exact pv.1 b o nb e, ?_⟩)
      · rw [List.length_map, List.length_take]
        exact Nat.lt_of_le_of_lt (show min i ps.length ≤ 1000 by omega) (by decide)
      · have hi : i < ps.length := (List.getElem?_eq_some_iff.mp e1).1
        have hp : ps[i] = p := (List.getElem?_eq_some_iff.mp e1).2
        have hnone : valV (csV (ps.take i)) (Sum.inr p.1) = none := by
          rw [valV_cs]
          have : (ps.take i).find? (fun q => decide (q.1 = p.1)) = none := by
            rw [List.find?_eq_none]
            intro q hq e
            have e := of_decide_eq_true e
            obtain ⟨j, hj⟩ := List.mem_iff_getElem?.mp hq
            rw [List.getElem?_take] at hj
            split at hj
            · rename_i hji
              have h1 : (ps.map (·.1))[j]? = some p.1 := by rw [List.getElem?_map, hj]; exact congrArg some e
              have h2 : (ps.map (·.1))[i]? = some p.1 := by rw [List.getElem?_map, e1]; rfl
              have := (List.getElem?_inj (by rw [List.length_map]; omega) hnd).mp (h1.trans h2.symm)
              omega
            · exact nomatch hj
          rw [this]
          rfl
        rw [upd_same, putK_new _ hnone, List.take_add_one, e1, csV_app]
        rfl
    · obtain ⟨p1, p2⟩ := pv
      have nx : D ≠ x := fun e => by
        subst e
        rw [h5] at hD
        cases hD
      have hx' := p1 x _ nx.symm h5
      rw [hxl, List.take_length] at p2
      refine w_var rfl ⟨x, C, dx, _, rfl, hx', LC.cl, LC.n_counts, (show 5 < 1000 by decide), ?_⟩
      rw [lfs_put]
      refine q _ (fun b o nb e => ?_) ⟨dx, D, upd_same, by rw [upd_ne nx]; exact p2⟩
      rw [upd_ne nb]
      have e5 := k5 b o nb e
      exact p1 b o (ne_of_none e5 hD) e5
end

/-! ### letter values that are drawn -/
/-- pairs of name and count, as a letter has them -/
structure PsOk (a : Str) (n : Int) (ps : List (Str × Int)) : Prop where
  len : ps.length ≤ 60
  nd : (ps.map (·.1)).Nodup
  asc : Asc (ps.map (·.1))
  ok : ∀ q ∈ ps, Nm q.1 ∧ Nu q.2
  own : (a, n) ∈ ps
def spDrawSeen (K : PySem.W.Frag) : Sp := fun vs H Q _ => ∃ (p : Addr) (a : Str) (n : Int), vs = [.ref p, .str a, .int n] ∧ Stm H p ∧ Nm a ∧ Nu n ∧ ∀ v ps H', Kp p H H' → Stm H' p → PsOk a n ps → Dn (Off p) H' v (seenD ps) → Q v H'
def putL (l : List (Str × Int)) (k : Str) (v : Int) : List (Str × Int) := if (l.any fun q => decide (q.1 = k)) = true then l.map (fun q => if q.1 = k then (q.1, v) else q) else l ++ [(k, v)]
section
variable {K : PySem.W.Frag} {vs : List V} {H : Hp} {Q : VK} {E : XK} {l : List (Str × Int)} {k : Str} {v : Int}
theorem any_cs (l : List (Str × Int)) (k : Str) : ((csV l).any fun kv => decide (kv.1 = (Sum.inr k : L2.Key))) = l.any fun q => decide (q.1 = k) := by
  induction l with
  | nil => rfl
  | cons q l ih =>
    show (decide ((Sum.inr q.1 : L2.Key) = Sum.inr k) || (csV l).any _) = (decide (q.1 = k) || l.any _)
    rw [ih]
    congr 1
    rw [decide_eq_decide]
    exact ⟨fun e => Sum.inr.inj e, fun e => congrArg Sum.inr e⟩
theorem putK_cs (l : List (Str × Int)) (k : Str) (v : Int) : putK (csV l) (Sum.inr k) (.int v) = csV (putL l k v) := by
  unfold putK putL
  rw [any_cs]
  by_cases h : (l.any fun q => decide (q.1 = k)) = true
  · rw [if_pos h, if_pos h, List.map_map]
    show _ = List.map (fun p : Str × Int => ((Sum.inr p.1 : L2.Key), V.int p.2)) (List.map _ l)
    rw [List.map_map]
    refine List.map_congr_left fun q _ => ?_
    show (if (Sum.inr q.1 : L2.Key) = Sum.inr k then ((Sum.inr q.1 : L2.Key), V.int v) else (Sum.inr q.1, V.int q.2)) = (Sum.inr (if q.1 = k then (q.1, v) else q).1, V.int (if q.1 = k then (q.1, v) else q).2)
    by_cases e : q.1 = k
    · rw [if_pos e, if_pos (congrArg Sum.inr e)]
    · rw [if_neg e, if_neg fun z => e (Sum.inr.inj z)]
  · rw [if_neg h, if_neg h, csV_app]
    all_goals rfl
theorem putL_len : (putL l k v).length ≤ l.length + 1 := by
  unfold putL
  split
  · rw [List.length_map]; omega
  · rw [List.length_append]; exact Nat.le_refl _
theorem putL_nd (h : (l.map (·.1)).Nodup) : ((putL l k v).map (·.1)).Nodup := by
  unfold putL
  split
  · rw [List.map_map]
    have e : l.map ((fun q => q.1) ∘ fun q => if q.1 = k then (q.1, v) else q) = l.map (·.1) := List.map_congr_left fun q _ => by
      show (if q.1 = k then (q.1, v) else q).1 = q.1
      split <;> rfl
    rw [e]
    exact h
  · rename_i hn
    rw [List.map_append, List.nodup_append]
    refine ⟨h, (by simp), fun x hx y hy e => hn ?_⟩
    have hy : y = k := List.mem_singleton.mp hy
    obtain ⟨q, hq, rfl⟩ := List.mem_map.mp hx
    exact List.any_eq_true.mpr ⟨q, hq, decide_eq_true (e.trans hy)⟩
theorem putL_mem {q : Str × Int} (h : q ∈ putL l k v) : q ∈ l ∨ q = (k, v) := by
  unfold putL at h
  split at h
  · obtain ⟨r, hr, rfl⟩ := List.mem_map.mp h
    by_cases e : r.1 = k
    · right
      rw [if_pos e, e]
    · left
      rw [if_neg e]
      exact hr
  · rcases List.mem_append.mp h with h | h
    · exact .inl h
    · exact .inr (List.mem_singleton.mp h)
theorem putL_keep {q : Str × Int} (h : q ∈ l) (e : q.1 ≠ k) : q ∈ putL l k v := by
  unfold putL
  split
  · exact List.mem_map.mpr ⟨q, h, if_neg e⟩
  · exact List.mem_append_left _ h
theorem cnt_of : ∀ {l : List (Str × Int)} {q : Str × Int}, (l.map (·.1)).Nodup → q ∈ l → cnt l q.1 = q.2
  | r :: l, q, nd, h => by
    unfold cnt
    rw [List.find?_cons]
    rcases List.mem_cons.mp h with rfl | h
    · rw [decide_eq_true rfl]
    · have nd := List.nodup_cons.mp nd
      have ne : r.1 ≠ q.1 := fun e => nd.1 (by show r.1 ∈ _; rw [e]; exact List.mem_map.mpr ⟨q, h, rfl⟩)
      rw [decide_eq_false ne]
      exact cnt_of nd.2 h
theorem valV_of {l : List (Str × Int)} {q : Str × Int} (nd : (l.map (·.1)).Nodup) (h : q ∈ l) : valV (csV l) (Sum.inr q.1) = some (.int q.2) := by
  rw [valV_cs]
  have hc := cnt_of nd h
  unfold cnt at hc
  cases e : l.find? fun p => decide (p.1 = q.1) with
  | none => exact absurd (decide_eq_true rfl) (List.find?_eq_none.mp e q h)
  | some r =>
    rw [e] at hc
    rw [← hc]
    rfl
structure CtOk (a : Str) (n : Int) (l : List (Str × Int)) : Prop where
  nd : (l.map (·.1)).Nodup
  ok : ∀ q ∈ l, Nm q.1 ∧ Nu q.2
  own : (a, n) ∈ l
theorem CtOk.put {a : Str} {n : Int} (h : CtOk a n l) (ne : k ≠ a) (hk : Nm k) (hv : Nu v) : CtOk a n (putL l k v) :=
  ⟨putL_nd h.nd, fun q hq => (putL_mem hq).elim (h.ok q) (fun e => e ▸ ⟨hk, hv⟩), putL_keep h.own fun e => ne e.symm⟩
theorem qnames : ∀ i < 32, nameS (Str.ofString "q" ++ Str.ofString (toString ((10 : Int) + ((i : Nat) : Int)))) = true := by decide +kernel
theorem name_len {z : Str} (h : nameS z = true) : z.length ≤ 12 := by
  unfold nameS at h
  rw [Bool.and_eq_true, Bool.and_eq_true, decide_eq_true_eq] at h
  exact h.1.1.2
theorem qlen {a b : Str} (h : nameS (a ++ b) = true) : a.length + b.length ≤ 100000 := by
  have := name_len h
  rw [Str.length_append] at this
  omega
/-- the pairs of these names -/
def psOf (l : List (Str × Int)) (ys : List Str) : List (Str × Int) := ys.map fun y => (y, cnt l y)
theorem psOf_keys (l : List (Str × Int)) (ys : List Str) : (psOf l ys).map (·.1) = ys := by
  unfold psOf
  rw [List.map_map]
  exact List.map_id' ys
theorem psOf_ok {a : Str} {n : Int} {l : List (Str × Int)} {ys : List Str} (c : CtOk a n l) (hl : l.length ≤ 60) (hp : ys.Perm (l.map (·.1))) (hs : sortedS ys = true) : PsOk a n (psOf l ys) := by
  have nd : ys.Nodup := hp.nodup_iff.mpr c.nd
  have mem : ∀ y ∈ ys, (y, cnt l y) ∈ l := fun y hy => by
    obtain ⟨r, hr, rfl⟩ := List.mem_map.mp (hp.mem_iff.mp hy)
    rw [cnt_of c.nd hr]
    exact hr
  refine ⟨?_, by rw [psOf_keys]; exact nd, by rw [psOf_keys]; exact asc_of_sorted hs nd, fun q hq => ?_, ?_⟩
  · unfold psOf
    rw [List.length_map, hp.length_eq, List.length_map]
    exact hl
  · obtain ⟨y, hy, rfl⟩ := List.mem_map.mp hq
    exact c.ok _ (mem y hy)
  · refine List.mem_map.mpr ⟨a, hp.mem_iff.mpr (List.mem_map.mpr ⟨_, c.own, rfl⟩), ?_⟩
    rw [cnt_of c.nd c.own]
/-- _law_seen: slots 0:stream 1:author 2:number 3:counts 4:name 5:k -/
def t__law_seen (K : PySem.W.Frag) : TS := (tSeq (tAsg (tDisp (((tVar 1), (tVar 2)) :: [])) (gName 3))
  (tSeq (tFor (iList K (tCall (spDrawNames K) [] C8.E0 (tCons (tVar 0) (tCons (tOp (rIxT K) (tTup (tCons (tC (.int 0)) (tCons (tC (.int 2)) (tCons (tC (.int 5)) (tCons (tC (.int 15)) tNil))))) (tCall (spNext K) [] C8.E0 (tCons (tVar 0) (tCons (tC (.int 4)) tNil)))) tNil)))) (gName 4) (tIfS (tTest (tOp rNe (tVar 4) (tVar 1))) (sDPut (tVar 3) (tVar 4) (tCall (spDrawNumber K) [] C8.E0 (tCons (tVar 0) tNil))) tNext))
  (tSeq (tIfS (tTest (tOp rEq (tCall (spNext K) [] C8.E0 (tCons (tVar 0) (tCons (tC (.int 16)) tNil))) (tC (.int 0)))) (tFor (iRng2 (tCons (tC (.int 10)) (tCons (tOp qAdd (tC (.int 27)) (tCall (spNext K) [] C8.E0 (tCons (tVar 0) (tCons (tC (.int 15)) tNil)))) tNil))) (gName 5) (tIfS (tTest (tOp rNe (tOp qAddS (tC (.str "q")) (tCB qStrInt (tCons (tVar 5) tNil))) (tVar 1))) (sDPut (tVar 3) (tOp qAddS (tC (.str "q")) (tCB qStrInt (tCons (tVar 5) tNil))) (tCall (spDrawNumber K) [] C8.E0 (tCons (tVar 0) tNil))) tNext)) tNext)
  (tRet (tCB (qTupleOf K) (tCons (tLc (iList K (tCB Wp.qSortedD (tCons (tVar 3) tNil))) (gName 4) tYes (tTup (tCons (tVar 4) (tCons (tDGet (tVar 3) (tVar 4)) tNil))) [4]) tNil))))))
theorem l__law_seen (h : spDrawSeen K vs H Q E) : vs.length = 3 := by obtain ⟨p, a, n, rfl, _⟩ := h; rfl
theorem r__law_seen (h : spDrawSeen K vs H Q E) : t__law_seen K { nx := fun _ H' => Q .non H', rt := Q } (start ["stream", "author", "number", "counts", "name", "k"] vs) H := by
  obtain ⟨p, a, n, rfl, hs, ha, hn, q⟩ := h
  unfold t__law_seen
  walk_at "s"
  intro D hD
  have nDp : D ≠ p := hs.ne hD
  refine w_var rfl (w_var rfl ⟨upd_same, [(Sum.inr a, .int n)], rfl, (show 1 ≤ 15 by decide), ?_⟩)
  show gName 3 _ _ _ _
  have hD1 : upd (upd H D (.dK [])) D (.dK (mergeK [] [(Sum.inr a, V.int n)])) D = some (.dK (csV [(a, n)])) := upd_same
  have k1 : Kp p H (upd (upd H D (.dK [])) D (.dK (mergeK [] [(Sum.inr a, V.int n)]))) := (Kp.upd Kp.refl hD).upd hD
  have s1 : Stm (upd (upd H D (.dK [])) D (.dK (mergeK [] [(Sum.inr a, V.int n)]))) p := by
    obtain ⟨i, j, hp, r⟩ := hs
    exact ⟨i, j, by rw [upd_ne nDp.symm, upd_ne nDp.symm]; exact hp, r⟩
  revert hD1 k1 s1
  generalize upd (upd H D (.dK [])) D (.dK (mergeK [] [(Sum.inr a, V.int n)])) = H1
  intro hD1 k1 s1
  have c1 : CtOk a n [(a, n)] := ⟨(by simp), fun q hq => by rw [List.mem_singleton.mp hq]; exact ⟨ha, hn⟩, List.mem_singleton.mpr rfl⟩
  walk_at "s"
  refine w_for (w_iList ?_)
  refine w_call (w_cons (w_var rfl (w_cons ?_)))
  refine (evs_pickT (P := isInt 0 15) (n := 4) (are_cons (evs_intIn (by decide) (by decide)) (are_cons (evs_intIn (by decide) (by decide)) (are_cons (evs_intIn (by decide) (by decide)) (are_cons (evs_intIn (by decide) (by decide)) are_nil)))) rfl (by decide) (by decide) (are_pick rfl)).use s1 fun v d H2 k2 s2 hv dv => ?_
  obtain ⟨m, rfl, m0, m1⟩ := hv
  cases dv
  walk_at "w"
  refine ⟨p, m, rfl, s2, m0, m1, fun b ys H3 hb k3 s3 hyl hylen hyn _ => ?_⟩
  have hD3 := k3 _ _ nDp (k2 _ _ nDp hD1)
  have nbp : b ≠ p := s2.ne hb
  have nbD : b ≠ D := fun e => by
    rw [e, k2 _ _ nDp hD1] at hb
    cases hb
  have k03 := (k1.trans k2).trans k3
  refine w_lstF (SqL.of hyl) (fun i σ H' => ∃ l y, σ = [some (.ref p), some (.str a), some (.int n), some (.ref D), y, none] ∧ H' D = some (.dK (csV l)) ∧ CtOk a n l ∧ l.length ≤ 1 + i ∧ H' b = some (.lst (ys.map V.str)) ∧ Kp p H H' ∧ Stm H' p) ⟨_, none, rfl, hD3, c1, Nat.le_refl _, hyl, k03, s3⟩ (fun i σ H' _ ⟨_, _, _, _, _, _, e, _⟩ => SqL.of e) (fun i x σ H' hi pv => ?_) (fun σ H' pv => ?_)
  · obtain ⟨l, y, rfl, hD4, c4, hl, hb4, k4, s4⟩ := pv
    rw [List.getElem?_map] at hi
    obtain ⟨w, hw, rfl⟩ := Option.map_eq_some_iff.mp hi
    walk_at "w"
    walk_at "if" <;> intro hc
    · walk_at "w"
      refine w_dput ?_
      walk_at "w"
      refine ⟨p, rfl, s4, fun v H5 k5 s5 v0 v1 => ?_⟩
      have hD5 := k5 _ _ nDp hD4
      walk_at "w"
      have hi' : i < ys.length := (List.getElem?_eq_some_iff.mp hw).1
      refine ⟨D, _, rfl, DPut.k (k := Sum.inr w) hD5 (by rw [List.length_map]; exact Nat.lt_of_le_of_lt (show l.length ≤ 1000 by omega) (by decide)), ?_⟩
      rw [putK_cs]
      refine ⟨_, _, rfl, upd_same, c4.put hc (hyn _ (List.mem_of_getElem? hw)) ⟨v0, v1⟩, Nat.le_trans putL_len (by omega), by rw [upd_ne nbD]; exact k5 _ _ nbp hb4, ?_, ?_⟩
      · exact fun c o nc e => by
          rw [upd_ne (ne_of_none e hD)]
          exact (k4.trans k5) c o nc e
      · obtain ⟨i, j, hp, r⟩ := s5
        exact ⟨i, j, by rw [upd_ne nDp.symm]; exact hp, r⟩
    · walk_at "w"
      exact ⟨l, _, rfl, hD4, c4, by omega, hb4, k4, s4⟩
  · obtain ⟨l, y, rfl, hD4, c4, hl, hb4, k4, s4⟩ := pv
    rw [List.length_map] at hl
    have hl : l.length ≤ 16 := by omega
    walk_at "b"
    refine w_ifCut (Mid := fun σ' H' => ∃ l y y2, σ' = [some (.ref p), some (.str a), some (.int n), some (.ref D), y, y2] ∧ H' D = some (.dK (csV l)) ∧ CtOk a n l ∧ l.length ≤ 48 ∧ Kp p H H' ∧ Stm H' p) (fun σ' H' mv => ?_) (fun R r => ?_)
    · obtain ⟨l, y, y2, rfl, hD5, c5, hl, k5, s5⟩ := mv
      walk_at "w"
      refine ⟨D, csV l, l.map (·.1), rfl, .inl hD5, by rw [List.map_map, List.map_map]; rfl, by rw [List.length_map]; omega, fun ys b hperm hsort hb => ?_⟩
      have hlen : ys.length ≤ 48 := by
        rw [hperm.length_eq, List.length_map]
        exact hl
      have tb := Same.upd (o := .lst (ys.map V.str)) (Same.refl H') hb
      have hbl : upd H' b (.lst (ys.map V.str)) b = some (.lst (ys.map V.str)) := upd_same
      have hDb := tb _ _ hD5
      have sb := s5.same tb
      have kb : Kp p H (upd H' b (.lst (ys.map V.str))) := k5.trans (Same.kp tb)
      revert hbl hDb sb kb
      generalize upd H' b (.lst (ys.map V.str)) = Hm
      intro hbl hDb sb kb
      refine ⟨b, rfl, ⟨_, SqL.of hbl⟩, fun D2 hD2 => ?_⟩
      have nD2p : D2 ≠ p := sb.ne hD2
      refine lc_list (xs := ys.map V.str) (fun i G => (∀ c o, c ≠ D2 → Hm c = some o → G c = some o) ∧ ∃ vs, G D2 = some (.lst vs) ∧ vs.length = i ∧ DnAll (fun c => c ≠ p ∧ c ≠ D2) G vs ((psOf l (ys.take i)).map pairD)) ⟨fun c o nc e => by rw [upd_ne nc]; exact e, [], upd_same, rfl, .nil⟩ (fun i G _ pv => SqL.of (pv.1 _ _ (ne_of_none hbl hD2) hbl)) (fun i x G hx pv => ?_) (fun G pv => ?_)
      · rw [List.getElem?_map] at hx
        obtain ⟨w, hw, rfl⟩ := Option.map_eq_some_iff.mp hx
        obtain ⟨g1, vs, g2, g3, g4⟩ := pv
        refine w_name ⟨rfl, w_yes (iteT_ ?_)⟩
        have hDG := g1 _ _ (ne_of_none hDb hD2) hDb
        have hmem : (w, cnt l w) ∈ l := by
          obtain ⟨r, hr, rfl⟩ := List.mem_map.mp (hperm.mem_iff.mp (List.mem_of_getElem? hw))
          rw [cnt_of c5.nd hr]
          exact hr
        have dg : DGet G D (.str w) (some (.int (cnt l w))) := by
          have := DGet.k (k := Sum.inr w) hDG
          rw [valV_of (q := (w, cnt l w)) c5.nd hmem] at this
          exact this
        walk_at "w"
        refine w_dget ?_
        walk_at "w"
        refine ⟨D, _, rfl, dg, ?_⟩
        walk_at "w"
        intro t ht
        have i48 : i < ys.length := (List.getElem?_eq_some_iff.mp hw).1
        refine ⟨vs, by rw [upd_ne (ne_of_none g2 ht)]; exact g2, Nat.lt_of_le_of_lt (show vs.length ≤ 1000 by omega) (by decide), fun c o nc e => ?_, _, upd_same, by rw [List.length_append, g3]; rfl, ?_⟩
        · rw [upd_ne nc, upd_ne (ne_of_none (g1 c o nc e) ht)]
          exact g1 c o nc e
        · have e : (psOf l (ys.take (i + 1))).map pairD = (psOf l (ys.take i)).map pairD ++ [pairD (w, cnt l w)] := by
            unfold psOf
            rw [List.take_add_one, hw, List.map_append, List.map_append]
            rfl
          rw [e]
          have ntD : t ≠ D2 := (ne_of_none g2 ht).symm
          have ntp : t ≠ p := by
            obtain ⟨i, j, hp, r⟩ := sb
            exact (ne_of_none (g1 p _ nD2p.symm hp) ht).symm
          refine DnAll.app (g4.step fun c o hc e => by rw [upd_ne hc.2, upd_ne (ne_of_none e ht)]; exact e) (.cons (.tup ⟨ntp, ntD⟩ (by rw [upd_ne ntD]; exact upd_same) (.cons (.str _) (.cons (.int _) .nil))) .nil)
      · obtain ⟨g1, vs, g2, g3, g4⟩ := pv
        rw [List.length_map, List.take_length] at g4
        walk_at "w"
        refine w_tupleOfL (SqL.of g2) fun l3 hl3 => ?_
        have n3p : l3 ≠ p := by
          obtain ⟨i, j, hp, r⟩ := sb
          exact (ne_of_none (g1 p _ nD2p.symm hp) hl3).symm
        have kG : Kp p H (upd G l3 (.tup vs)) := fun c o nc e => by
          have e1 := kb c o nc e
          have e2 := g1 c o (ne_of_none e1 hD2) e1
          rw [upd_ne (ne_of_none e2 hl3)]
          exact e2
        refine q _ (psOf l ys) _ kG ?_ (psOf_ok c5 (by omega) hperm hsort) (.tup n3p upd_same (DnAll.weak (fun c o hc _ => hc.1) (g4.step fun c o hc e => by rw [upd_ne (ne_of_none e hl3)]; exact e)))
        obtain ⟨i, j, hp, r⟩ := sb
        have e2 := g1 p _ nD2p.symm hp
        exact ⟨i, j, by rw [upd_ne (ne_of_none e2 hl3)]; exact e2, r⟩
    · walk_at "w"
      refine ⟨p, 16, rfl, s4, by decide, by decide, fun v H5 k5 s5 v0 v1 => ?_⟩
      have hD5 := k5 _ _ nDp hD4
      walk_at "w"
      walk_at "if" <;> intro h2
      · refine w_for (w_iRng2 ?_)
        walk_at "w"
        refine ⟨p, 15, rfl, s5, by decide, by decide, fun u H6 k6 s6 u0 u1 => ?_⟩
        have hD6 := k6 _ _ nDp hD5
        walk_at "w"
        refine ⟨10, 27 + u, rfl, ⟨by decide, by decide, by omega, by omega⟩, for_range (lo := 10) (n := (27 + u - 10).toNat) (fun i σ H' => ∃ l y y2, σ = [some (.ref p), some (.str a), some (.int n), some (.ref D), y, y2] ∧ H' D = some (.dK (csV l)) ∧ CtOk a n l ∧ l.length ≤ 16 + i ∧ Kp p H H' ∧ Stm H' p) ⟨l, _, _, rfl, hD6, c4, hl, (k4.trans k5).trans k6, s6⟩ (fun i σ H' hi pv => ?_) (fun σ H' pv => ?_)⟩
        · obtain ⟨l, y, y2, rfl, hD7, c7, hl7, k7, s7⟩ := pv
          have hq := qnames i (by omega)
          walk_at "w"
          refine w_strInt (by omega) (by omega) ?_
          refine w_addS (sz (qlen hq)) ?_
          walk_at "w"
          walk_at "if" <;> intro hc
          · walk_at "w"
            refine w_dput ?_
            walk_at "w"
            refine ⟨p, rfl, s7, fun v H8 k8 s8 v0 v1 => ?_⟩
            have hD8 := k8 _ _ nDp hD7
            walk_at "w"
            refine w_strInt (by omega) (by omega) ?_
            refine w_addS (sz (qlen hq)) ?_
            refine ⟨D, _, rfl, DPut.k (k := Sum.inr _) hD8 (by rw [List.length_map]; exact Nat.lt_of_le_of_lt (show l.length ≤ 1000 by omega) (by decide)), ?_⟩
            rw [putK_cs]
            refine ⟨_, _, _, rfl, upd_same, c7.put hc hq ⟨v0, v1⟩, Nat.le_trans putL_len (by omega), ?_, ?_⟩
            · exact fun c o nc e => by
                rw [upd_ne (ne_of_none e hD)]
                exact (k7.trans k8) c o nc e
            · obtain ⟨i, j, hp, r⟩ := s8
              exact ⟨i, j, by rw [upd_ne nDp.symm]; exact hp, r⟩
          · walk_at "w"
            exact ⟨l, _, _, rfl, hD7, c7, by omega, k7, s7⟩
        · obtain ⟨l, y, y2, rfl, hD7, c7, hl7, k7, s7⟩ := pv
          exact r _ _ ⟨l, _, _, rfl, hD7, c7, by omega, k7, s7⟩
      · walk_at "w"
        exact r _ _ ⟨l, _, _, rfl, hD5, c4, by omega, k4.trans k5, s5⟩
def Bd.isFound : Bd → Bool
  | .found _ _ => true | _ => false
theorem kind_found (b : Bd) : decide (b.kind = Str.ofString "found") = b.isFound := by cases b <;> first | exact decide_eq_true rfl | exact decide_eq_false (by simp only [Bd.kind]; decide)
structure ValOk (a : Str) (n s : Int) (ps : List (Str × Int)) (b : Bd) : Prop where
  nm : Nm a
  nu : Nu n
  pk : PsOk a n ps
  bd : Bd.good a b
  st : (b.isFound = true ∧ n = 1 ∧ s = 1 ∧ ps = [(a, 1)]) ∨ (b.isFound = false ∧ n ≤ s ∧ 2 ≤ s ∧ s ≤ 1000000000000000000)
def spDrawValue (K : PySem.W.Frag) : Sp := fun vs H Q _ => ∃ p, vs = [.ref p] ∧ Stm H p ∧ ∀ t a n s ps b sv bv H', Kp p H H' → Stm H' p → ValOk a n s ps b → t ≠ p → H' t = some (.tup [.str a, .int n, .int s, sv, bv]) → Dn (Off p) H' sv (seenD ps) → Dn (Off p) H' bv b.toD → Q (.ref t) H'
/-- _law_value: slots 0:stream 1:author 2:body 3:number 4:least 5:stamp -/
def t__law_value (K : PySem.W.Frag) : TS := (tSeq (tAsg (tCall (spDrawName K) [] C8.E0 (tCons (tVar 0) tNil)) (gName 1))
  (tSeq (tAsg (tCall (spDrawBody K) [] C8.E0 (tCons (tVar 0) (tCons (tVar 1) tNil))) (gName 2))
  (tSeq (tIfS (tTest (tOp rEq (tOp (rIxT K) (tVar 2) (tC (.int 0))) (tC (.str "found")))) (tRet (tTup (tCons (tVar 1) (tCons (tC (.int 1)) (tCons (tC (.int 1)) (tCons (tTup (tCons (tTup (tCons (tVar 1) (tCons (tC (.int 1)) tNil))) tNil)) (tCons (tVar 2) tNil))))))) tNext)
  (tSeq (tAsg (tCall (spDrawNumber K) [] C8.E0 (tCons (tVar 0) tNil)) (gName 3))
  (tSeq (tAsg (tCB qMax2 (tCons (tC (.int 2)) (tCons (tVar 3) tNil))) (gName 4))
  (tSeq (tAsg (tOp (rIxT K) (tTup (tCons (tVar 4) (tCons (tOp qPow (tC (.int 10)) (tC (.int 18))) (tCons (tCB qMin2 (tCons (tOp qPow (tC (.int 10)) (tC (.int 18))) (tCons (tOp qAdd (tVar 4) (tCall (spDrawNumber K) [] C8.E0 (tCons (tVar 0) tNil))) tNil))) tNil)))) (tCall (spNext K) [] C8.E0 (tCons (tVar 0) (tCons (tC (.int 3)) tNil)))) (gName 5))
  (tRet (tTup (tCons (tVar 1) (tCons (tVar 3) (tCons (tVar 5) (tCons (tCall (spDrawSeen K) [] C8.E0 (tCons (tVar 0) (tCons (tVar 1) (tCons (tVar 3) tNil)))) (tCons (tVar 2) tNil)))))))))))))
theorem l__law_value (h : spDrawValue K vs H Q E) : vs.length = 1 := by obtain ⟨p, rfl, _⟩ := h; rfl
theorem r__law_value (h : spDrawValue K vs H Q E) : t__law_value K { nx := fun _ H' => Q .non H', rt := Q } (start ["stream", "author", "body", "number", "least", "stamp"] vs) H := by
  obtain ⟨p, rfl, hs, q⟩ := h
  unfold t__law_value
  walk_at "w"
  refine ⟨p, rfl, hs, fun a H1 k1 s1 ha => ?_⟩
  walk_at "w"
  refine ⟨p, a, rfl, s1, fun bv b H2 k2 s2 hb db => ?_⟩
  obtain ⟨c, xs, rfl, hcp, hc, hxs⟩ := body_at db
  walk_at "w"
  rw [kind_found]
  walk_at "if" <;> intro hk
  · walk_at "w"
    intro t1 ht1
    walk_at "w"
    intro t2 ht2
    walk_at "w"
    intro t ht
    have hbf : b.isFound = true := hk
    have n1p : t1 ≠ p := s2.ne ht1
    have n2p : t2 ≠ p := (s2.up ht1).ne ht2
    have ntp : t ≠ p := ((s2.up ht1).up ht2).ne ht
    have n21 : t2 ≠ t1 := fun e => by
      rw [e, upd_same] at ht2
      cases ht2
    have nt1 : t ≠ t1 := fun e => by
      rw [e, upd_ne n21.symm, upd_same] at ht
      cases ht
    have nt2 : t ≠ t2 := fun e => by
      rw [e, upd_same] at ht
      cases ht
    have T : Same H2 _ := Same.upd (o := .tup [V.str a, V.int 1, V.int 1, V.ref t2, V.ref c]) (Same.upd (o := .tup [V.ref t1]) (Same.upd (o := .tup [V.str a, V.int 1]) (Same.refl H2) ht1) (by
      rw [upd_ne n21] at ht2
      exact ht2)) (by
      rw [upd_ne nt2, upd_ne nt1] at ht
      exact ht)
    refine q t a 1 1 [(a, 1)] b _ _ _ ((k1.trans k2).trans (Same.kp T)) (s2.same T) ⟨ha, ⟨by decide, by decide⟩, ⟨(show 1 ≤ 60 by decide), by simp, List.pairwise_singleton _ _, fun q hq => by rw [List.mem_singleton.mp hq]; exact ⟨ha, (show (1 : Int) ≤ 1 by decide), (show (1 : Int) ≤ 1000000000000000000 by decide)⟩, List.mem_singleton.mpr rfl⟩, hb, .inl ⟨hbf, rfl, rfl, rfl⟩⟩ ntp upd_same ?_ (db.same T)
    exact .tup n2p (by rw [upd_ne nt2.symm]; exact upd_same) (.cons (.tup n1p (by rw [upd_ne nt1.symm, upd_ne n21.symm]; exact upd_same) (.cons (.str _) (.cons (.int _) .nil))) .nil)
  · walk_at "w"
    refine ⟨p, rfl, s2, fun n H3 k3 s3 n0 n1 => ?_⟩
    walk_at "w"
    have hm2 : 2 ≤ (if n > 2 then n else 2) ∧ n ≤ (if n > 2 then n else 2) ∧ (if n > 2 then n else 2) ≤ 1000000000000000000 := by
      by_cases e : n > 2
      · rw [if_pos e]; omega
      · rw [if_neg e]; omega
    generalize (if n > 2 then n else 2) = m at hm2
    rw [e18]
    refine ⟨p, rfl, s3, fun u H4 k4 s4 u0 u1 => ?_⟩
    walk_at "w"
    intro t1 ht1
    walk_at "w"
    refine ⟨p, 3, rfl, s4.up ht1, by decide, by decide, fun v H5 k5 s5 v0 v1 => ?_⟩
    have n1p : t1 ≠ p := s4.ne ht1
    have ht5 := k5 _ _ n1p upd_same
    have hs : ∃ s, atI [V.int m, V.int 1000000000000000000, V.int (if m + u < 1000000000000000000 then m + u else 1000000000000000000)] v = some (.int s) ∧ m ≤ s ∧ s ≤ 1000000000000000000 := by
      have : v = 0 ∨ v = 1 ∨ v = 2 := by omega
      rcases this with rfl | rfl | rfl
      · exact ⟨m, rfl, by omega, by omega⟩
      · exact ⟨_, rfl, by omega, by omega⟩
      · refine ⟨_, rfl, ?_⟩
        split <;> omega
    obtain ⟨s, hat, hs0, hs1⟩ := hs
    refine w_ixT (SqT.of ht5) hat ?_
    walk_at "w"
    refine ⟨p, a, n, rfl, s5, ha, ⟨n0, n1⟩, fun sv ps H6 k6 s6 hp dsv => ?_⟩
    walk_at "w"
    intro t ht
    have ntp : t ≠ p := s6.ne ht
    have T : Same H6 _ := Same.upd (o := .tup [V.str a, V.int n, V.int s, sv, V.ref c]) (Same.refl H6) ht
    have k26 : Kp p H2 H6 := ((((k3.trans k4).trans (Kp.upd Kp.refl ht1)).trans k5).trans k6)
    exact q t a n s ps b _ _ _ (((k1.trans k2).trans k26).trans (Same.kp T)) (s6.same T) ⟨ha, ⟨n0, n1⟩, hp, hb, .inr ⟨hk, by omega, by omega, hs1⟩⟩ ntp upd_same (dsv.same T) ((db.kp k26).same T)
end

/-! ### header lines -/
def wI (i : Int) : Str := Str.ofString (toString i)
def pairW (p : Str × Int) : Str := p.1 ++ Str.ofString " " ++ wI p.2
def seenW (ps : List (Str × Int)) : Str := Txt.join (Str.ofString ", ") (ps.map pairW)
def linesW (t : Str) : Str := wI (Txt.count t (Str.ofString "\n") + 1)
def lineW (f p : Str) : Str := f ++ Str.ofString ": " ++ p
def Bd.parts : Bd → List Str
  | .found t ms => [t, Txt.join (Str.ofString ", ") ms] | .say t => [linesW t] | .reply a n t => [pairW (a, n), linesW t] | .edit a n t => [pairW (a, n), linesW t] | .recall a n => [pairW (a, n)] | .mark a n w => [pairW (a, n), w]
  | .title t => [t] | .add w => [w] | .cut w => [w] | .hand w => [w] | .seen => []
def Bd.fields : Bd → List Str
  | .found _ _ => ["Title", "Members"] | .say _ => ["Lines"] | .reply _ _ _ => ["Ref", "Lines"] | .edit _ _ _ => ["Ref", "Lines"] | .recall _ _ => ["Ref"] | .mark _ _ _ => ["Ref", "Word"]
  | .title _ => ["Title"] | .add _ => ["Name"] | .cut _ => ["Name"] | .hand _ => ["Name"] | .seen => []
def HEADS : List Str := ["From", "Stamp", "Seen", "Kind"]
def hdr (a : Str) (n s : Int) (ps : List (Str × Int)) (b : Bd) : List Str := List.zipWith lineW (HEADS ++ b.fields) ([pairW (a, n), wI s, seenW ps, b.kind] ++ b.parts)
structure HdrOk (a : Str) (n s : Int) (ps : List (Str × Int)) (b : Bd) : Prop where
  nm : Nm a
  nu : Nu n
  s0 : 0 ≤ s
  s1 : s ≤ 1000000000000000000
  len : ps.length ≤ 1000
  ok : ∀ q ∈ ps, Nm q.1 ∧ Nu q.2
  bd : ∃ c, Bd.good c b
def spPairWords (K : PySem.W.Frag) : Sp := fun vs H Q _ => ∃ (t : Addr) (a : Str) (n : Int), vs = [.ref t] ∧ SqT K H t [.str a, .int n] ∧ a.length ≤ 1000 ∧ 0 ≤ n ∧ n ≤ 100000000000000000000 ∧ Q (.str (pairW (a, n))) H
def spCountLines (K : PySem.W.Frag) : Sp := fun vs H Q _ => ∃ t : Str, vs = [.str t] ∧ t.length ≤ 100000 ∧ Q (.str (linesW t)) H
def spBodyParts (K : PySem.W.Frag) : Sp := fun vs H Q _ => ∃ (v : V) (c : Str) (b : Bd), vs = [v] ∧ Dn Any H v b.toD ∧ Bd.good c b ∧ ∀ l H', H l = none → Same H H' → H' l = some (.lst (b.parts.map V.str)) → Q (.ref l) H'
def spHeader (K : PySem.W.Frag) (C : Addr) : Sp := fun vs H Q _ => ∃ (x : Addr) (a : Str) (n s : Int) (ps : List (Str × Int)) (b : Bd) (sv bv : V), vs = [.ref x] ∧ LetterAt C H x a n s ps sv bv ∧ Dn Any H sv (seenD ps) ∧ Dn Any H bv b.toD ∧ HdrOk a n s ps b ∧
  ∀ l H', H l = none → Same H H' → H' l = some (.lst ((hdr a n s ps b).map V.str)) → Q (.ref l) H'
theorem wI_len {i : Int} (h0 : 0 ≤ i) (h1 : i ≤ 100000000000000000000) : (wI i).length ≤ 70 := int_len h0 h1
theorem pairW_len {a : Str} {n : Int} (h : a.length ≤ 1000) (h0 : 0 ≤ n) (h1 : n ≤ 100000000000000000000) : (pairW (a, n)).length ≤ a.length + 71 := by
  show (a ++ Str.ofString " " ++ wI n).length ≤ _
  rw [Str.length_append, Str.length_append]
  have := wI_len h0 h1
  have e : (Str.ofString " ").length = 1 := rfl
  omega
theorem name_le {z : Str} (h : Nm z) : z.length ≤ 12 := name_len h
theorem ref_len {a : Str} {n : Int} (h : Nm a) (h2 : Nu n) : (pairW (a, n)).length ≤ 83 := by
  have h3 := name_le h
  obtain ⟨h4, h5⟩ := h2
  have := pairW_len (a := a) (n := n) (by omega) (by omega) (by omega)
  omega
theorem linesW_len {t : Str} (h : t.length ≤ 100000) : (linesW t).length ≤ 70 := by
  have := count_le t
  exact wI_len (by omega) (by omega)
theorem names_len {ms : List Str} (h : ∀ m ∈ ms, Nm m) : (ms.map (·.length)).sum ≤ ms.length * 12 := sum_le (fun x : Str => x.length) 12 fun m hm => name_le (h m hm)
theorem join_names {ms : List Str} (h : ∀ m ∈ ms, Nm m) (h2 : ms.length ≤ 15) : (ms.map (·.length)).sum + ms.length * (Str.ofString ", ").length ≤ 100000 := by
  have := names_len h
  have e : (Str.ofString ", ").length = 2 := rfl
  rw [e]
  omega
theorem pairs_len {ps : List (Str × Int)} (h : ∀ q ∈ ps, Nm q.1 ∧ Nu q.2) : ((ps.map pairW).map (·.length)).sum ≤ ps.length * 83 := by
  rw [List.map_map]
  exact sum_le _ 83 fun q hq => ref_len (h q hq).1 (h q hq).2
theorem join_pairs {ps : List (Str × Int)} (h : ∀ q ∈ ps, Nm q.1 ∧ Nu q.2) (h2 : ps.length ≤ 1000) : ((ps.map pairW).map (·.length)).sum + (ps.map pairW).length * (Str.ofString ", ").length ≤ 85000 := by
  have := pairs_len h
  have e : (Str.ofString ", ").length = 2 := rfl
  rw [e, List.length_map]
  omega
theorem seenW_len {ps : List (Str × Int)} (h : ∀ q ∈ ps, Nm q.1 ∧ Nu q.2) (h2 : ps.length ≤ 1000) : (seenW ps).length ≤ 85000 := Nat.le_trans (join_len _ _) (join_pairs h h2)
theorem good_text {t : Str} (h : Tx t) : t.length ≤ 400 := h.2.1
theorem good_title {t : Str} (h : Ti t) : t.length ≤ 60 := h.1
theorem parts_len {c : Str} : ∀ {b : Bd}, Bd.good c b → ∀ p ∈ b.parts, p.length ≤ 1000
  | .found t ms, h, p, hp => by
    rcases List.mem_cons.mp hp with rfl | hp
    · exact Nat.le_trans h.1.1 (by decide)
    · rw [List.mem_singleton.mp hp]
      have h1 := join_len (Str.ofString ", ") ms
      have h2 := names_len h.2.2.1
      have h3 := h.2.1
      have e : (Str.ofString ", ").length = 2 := rfl
      rw [e] at h1
      omega
  | .say t, h, p, hp => by
    rw [List.mem_singleton.mp hp]
    exact Nat.le_trans (linesW_len (Nat.le_trans (good_text h) (by decide))) (by decide)
  | .reply a n t, h, p, hp => by
    rcases List.mem_cons.mp hp with rfl | hp
    · exact Nat.le_trans (ref_len h.1 h.2.1) (by decide)
    · rw [List.mem_singleton.mp hp]
      exact Nat.le_trans (linesW_len (Nat.le_trans (good_text h.2.2) (by decide))) (by decide)
  | .edit a n t, h, p, hp => by
    rcases List.mem_cons.mp hp with rfl | hp
    · exact Nat.le_trans (ref_len h.1 h.2.1) (by decide)
    · rw [List.mem_singleton.mp hp]
      exact Nat.le_trans (linesW_len (Nat.le_trans (good_text h.2.2) (by decide))) (by decide)
  | .recall a n, h, p, hp => by
    rw [List.mem_singleton.mp hp]
    exact Nat.le_trans (ref_len h.1 h.2) (by decide)
  | .mark a n w, h, p, hp => by
    rcases List.mem_cons.mp hp with rfl | hp
    · exact Nat.le_trans (ref_len h.1 h.2.1) (by decide)
    · rw [List.mem_singleton.mp hp]
      exact Nat.le_trans (name_le h.2.2) (by decide)
  | .title t, h, p, hp => by
    rw [List.mem_singleton.mp hp]
    exact Nat.le_trans (good_title h) (by decide)
  | .add w, h, p, hp => by
    rw [List.mem_singleton.mp hp]
    exact Nat.le_trans (name_le h) (by decide)
  | .cut w, h, p, hp => by
    rw [List.mem_singleton.mp hp]
    exact Nat.le_trans (name_le h) (by decide)
  | .hand w, h, p, hp => by
    rw [List.mem_singleton.mp hp]
    exact Nat.le_trans (name_le h) (by decide)
  | .seen, h, p, hp => nomatch hp
theorem parts_num (b : Bd) : b.parts.length = b.fields.length ∧ b.fields.length ≤ 2 := by cases b <;> exact ⟨rfl, by simp [Bd.fields]⟩
theorem fields_len (b : Bd) : ∀ f ∈ HEADS ++ b.fields, f.length ≤ 10 := by
  intro f hf
  have h1 : ∀ f ∈ HEADS ++ [Str.ofString "Title", Str.ofString "Members"], f.length ≤ 10 := by decide
  have h2 : ∀ f ∈ HEADS ++ [Str.ofString "Ref", Str.ofString "Lines"], f.length ≤ 10 := by decide
  have h3 : ∀ f ∈ HEADS ++ [Str.ofString "Ref", Str.ofString "Word"], f.length ≤ 10 := by decide
  have h4 : ∀ f ∈ HEADS ++ [Str.ofString "Lines"], f.length ≤ 10 := by decide
  have h5 : ∀ f ∈ HEADS ++ [Str.ofString "Ref"], f.length ≤ 10 := by decide
  have h6 : ∀ f ∈ HEADS ++ [Str.ofString "Title"], f.length ≤ 10 := by decide
  have h7 : ∀ f ∈ HEADS ++ [Str.ofString "Name"], f.length ≤ 10 := by decide
  have h8 : ∀ f ∈ HEADS ++ [], f.length ≤ 10 := by decide
  cases b
  · exact h1 f hf
  · exact h4 f hf
  · exact h2 f hf
  · exact h2 f hf
  · exact h5 f hf
  · exact h3 f hf
  · exact h6 f hf
  · exact h7 f hf
  · exact h7 f hf
  · exact h7 f hf
  · exact h8 f hf
section
variable {K : PySem.W.Frag} {C : Addr} {vs : List V} {H : Hp} {Q : VK} {E : XK}
/-- _pair_words: slots 0:pair 1:name 2:number -/
def t__pair_words (K : PySem.W.Frag) : TS := (tSeq (tAsg (tVar 0) (gTup K 2 (gCons (gName 1) (gCons (gName 2) gNil))))
  (tRet (tJS ((tFmt (tVar 1)) :: ((tC (.str " ")) :: ((tFmt (tVar 2)) :: []))))))
theorem l__pair_words (h : spPairWords K vs H Q E) : vs.length = 1 := by obtain ⟨t, a, n, rfl, _⟩ := h; rfl
theorem r__pair_words (h : spPairWords K vs H Q E) : t__pair_words K { nx := fun _ H' => Q .non H', rt := Q } (start ["pair", "name", "number"] vs) H := by
  obtain ⟨t, a, n, rfl, ht, hl, h0, h1, q⟩ := h
  unfold t__pair_words
  walk_at "v"
  refine ⟨t, _, rfl, ht, rfl, gc (w_name (gc (w_name (gn ?_))))⟩
  walk_at "v"
  refine w_fmtS (by omega) ?_
  refine w_jy (by rw [Str.empty_append]; omega) ?_
  rw [Str.empty_append]
  walk_at "v"
  have e : (Str.ofString " ").length = 1 := rfl
  have e2 : (a ++ Str.ofString " ").length ≤ 1001 := by rw [Str.length_append]; omega
  refine ⟨sz (by omega), ?_⟩
  walk_at "v"
  have e3 := wI_len h0 h1
  refine w_fmtI h0 h1 ?_
  refine w_jy (y := wI n) (by rw [Str.length_append]; omega) ?_
  walk_at "v"
  exact q
/-- _count_lines: slots 0:text -/
def t__count_lines (K : PySem.W.Frag) : TS := (tRet (tCB qStrInt (tCons (tOp qAdd (tBM K "str" qCount (tVar 0) (tCons (tC (.str "\n")) tNil)) (tC (.int 1))) tNil)))
theorem l__count_lines (h : spCountLines K vs H Q E) : vs.length = 1 := by obtain ⟨t, rfl, _⟩ := h; rfl
theorem r__count_lines (h : spCountLines K vs H Q E) : t__count_lines K { nx := fun _ H' => Q .non H', rt := Q } (start ["text"] vs) H := by
  obtain ⟨t, rfl, hl, q⟩ := h
  unfold t__count_lines
  have := count_le t
  walk_at "v"
  refine w_strInt (by omega) (by omega) ?_
  exact q
/-- _body_parts: slots 0:body 1:kind -/
def t__body_parts (K : PySem.W.Frag) : TS := (tSeq (tAsg (tOp (rIxT K) (tVar 0) (tC (.int 0))) (gName 1))
  (tSeq (tIfS (tTest (tOp rEq (tVar 1) (tC (.str "found")))) (tRet (tLst (tCons (tOp (rIxT K) (tVar 0) (tC (.int 1))) (tCons (tBM K "str" (qJoin K) (tC (.str ", ")) (tCons (tOp (rIxT K) (tVar 0) (tC (.int 2))) tNil)) tNil)))) tNext)
  (tSeq (tIfS (tTest (tOp rEq (tVar 1) (tC (.str "say")))) (tRet (tLst (tCons (tCall (spCountLines K) [] C8.E0 (tCons (tOp (rIxT K) (tVar 0) (tC (.int 1))) tNil)) tNil))) tNext)
  (tSeq (tIfS (tTest (tOp (rIn K false) (tVar 1) (tTup (tCons (tC (.str "reply")) (tCons (tC (.str "edit")) tNil))))) (tRet (tLst (tCons (tCall (spPairWords K) [] C8.E0 (tCons (tOp (rIxT K) (tVar 0) (tC (.int 1))) tNil)) (tCons (tCall (spCountLines K) [] C8.E0 (tCons (tOp (rIxT K) (tVar 0) (tC (.int 2))) tNil)) tNil)))) tNext)
  (tSeq (tIfS (tTest (tOp rEq (tVar 1) (tC (.str "recall")))) (tRet (tLst (tCons (tCall (spPairWords K) [] C8.E0 (tCons (tOp (rIxT K) (tVar 0) (tC (.int 1))) tNil)) tNil))) tNext)
  (tSeq (tIfS (tTest (tOp rEq (tVar 1) (tC (.str "mark")))) (tRet (tLst (tCons (tCall (spPairWords K) [] C8.E0 (tCons (tOp (rIxT K) (tVar 0) (tC (.int 1))) tNil)) (tCons (tOp (rIxT K) (tVar 0) (tC (.int 2))) tNil)))) tNext)
  (tRet (tCB (qListOf K) (tCons (tSl (rSlT K) (tVar 0) (tPart (tC (.int 1))) tNoPart) tNil)))))))))
theorem l__body_parts (h : spBodyParts K vs H Q E) : vs.length = 1 := by obtain ⟨v, c, b, rfl, _⟩ := h; rfl
theorem ref_at {ok : Addr → Prop} {v : V} {a : Str} {n : Int} (h : Dn ok H v (refD a n)) : ∃ t, v = .ref t ∧ ok t ∧ H t = some (.tup [.str a, .int n]) := by
  unfold refD at h
  cases h with
  | tup ha h hs =>
    cases hs with
    | cons h1 hs =>
      cases h1
      cases hs with
      | cons h2 hs =>
        cases h2
        cases hs
        exact ⟨_, rfl, ha, h⟩
theorem strs_at {ok : Addr → Prop} {v : V} {ms : List Str} (h : Dn ok H v (.tuple (ms.map .str))) : ∃ t, v = .ref t ∧ ok t ∧ H t = some (.tup (ms.map V.str)) := by
  cases h with
  | tup ha h hs =>
    refine ⟨_, rfl, ha, ?_⟩
    rw [h]
    have e : ∀ (ms : List Str) (xs : List V), DnAll ok H xs (ms.map PyData.str) → xs = ms.map V.str := by
      intro ms
      induction ms with
      | nil => intro xs h; cases h; rfl
      | cons m ms ih =>
        intro xs h
        cases h with
        | cons h1 h2 =>
          cases h1
          rw [ih _ h2]
          rfl
    rw [e _ _ hs]
theorem rest1 {ok : Addr → Prop} {xs : List V} {d : PyData} (h : DnAll ok H xs [d]) : ∃ v, xs = [v] ∧ Dn ok H v d := by
  cases h with
  | cons h1 h2 => cases h2; exact ⟨_, rfl, h1⟩
theorem rest2 {ok : Addr → Prop} {xs : List V} {d e : PyData} (h : DnAll ok H xs [d, e]) : ∃ v w, xs = [v, w] ∧ Dn ok H v d ∧ Dn ok H w e := by
  cases h with
  | cons h1 h2 =>
    obtain ⟨w, rfl, h3⟩ := rest1 h2
    exact ⟨_, w, rfl, h1, h3⟩
theorem rest0 {ok : Addr → Prop} {xs : List V} (h : DnAll ok H xs []) : xs = [] := by cases h; rfl
theorem dn_str {ok : Addr → Prop} {v : V} {z : Str} (h : Dn ok H v (.str z)) : v = .str z := by cases h; rfl
theorem r__body_parts (h : spBodyParts K vs H Q E) : t__body_parts K { nx := fun _ H' => Q .non H', rt := Q } (start ["body", "kind"] vs) H := by
  obtain ⟨v, c, b, rfl, hd, hg, q⟩ := h
  obtain ⟨a, xs, rfl, _, ha, hs⟩ := body_at hd
  unfold t__body_parts
  cases b with
  | found t ms =>
    obtain ⟨v1, v2, rfl, h1, h2⟩ := rest2 hs
    obtain rfl := dn_str h1
    obtain ⟨m, rfl, _, hm⟩ := strs_at h2
    have ha : H a = some (.tup [V.str (Str.ofString "found"), V.str t, V.ref m]) := ha
    walk_at "v"
    · exact join_names hg.2.2.1 hg.2.1
    walk_at "v"
    refine w_new fun p H2 hp T e => ?_
    exact q p H2 hp T e
  | say t =>
    obtain ⟨v1, rfl, h1⟩ := rest1 hs
    obtain rfl := dn_str h1
    have ha : H a = some (.tup [V.str (Str.ofString "say"), V.str t]) := ha
    walk_at "v"
    refine ⟨t, rfl, Nat.le_trans (good_text hg) (by decide), ?_⟩
    walk_at "v"
    exact w_new fun p H2 hp T e => q p H2 hp T e
  | reply u n t =>
    obtain ⟨v1, v2, rfl, h1, h2⟩ := rest2 hs
    obtain rfl := dn_str h2
    obtain ⟨r, rfl, _, hr⟩ := ref_at h1
    have hn := name_le hg.1
    have hu := hg.2.1
    have ha : H a = some (.tup [V.str (Str.ofString "reply"), V.ref r, V.str t]) := ha
    walk_at "v"
    refine w_new fun p0 H0 hp0 T0 e0 => ?_
    walk_at "v"
    refine ⟨r, u, n, rfl, SqT.of (T0 _ _ hr), by omega, by have := hu.1; omega, by have := hu.2; omega, ?_⟩
    walk_at "v"
    refine ⟨t, rfl, Nat.le_trans (good_text hg.2.2) (by decide), ?_⟩
    walk_at "v"
    exact w_new fun p H2 hp T e => q p H2 (T0.free hp) (T0.trans T) e
  | edit u n t =>
    obtain ⟨v1, v2, rfl, h1, h2⟩ := rest2 hs
    obtain rfl := dn_str h2
    obtain ⟨r, rfl, _, hr⟩ := ref_at h1
    have hn := name_le hg.1
    have hu := hg.2.1
    have ha : H a = some (.tup [V.str (Str.ofString "edit"), V.ref r, V.str t]) := ha
    walk_at "v"
    refine w_new fun p0 H0 hp0 T0 e0 => ?_
    walk_at "v"
    refine ⟨r, u, n, rfl, SqT.of (T0 _ _ hr), by omega, by have := hu.1; omega, by have := hu.2; omega, ?_⟩
    walk_at "v"
    refine ⟨t, rfl, Nat.le_trans (good_text hg.2.2) (by decide), ?_⟩
    walk_at "v"
    exact w_new fun p H2 hp T e => q p H2 (T0.free hp) (T0.trans T) e
  | recall u n =>
    obtain ⟨v1, rfl, h1⟩ := rest1 hs
    obtain ⟨r, rfl, _, hr⟩ := ref_at h1
    have hn := name_le hg.1
    have hu := hg.2
    have ha : H a = some (.tup [V.str (Str.ofString "recall"), V.ref r]) := ha
    walk_at "v"
    refine w_new fun p0 H0 hp0 T0 e0 => ?_
    walk_at "v"
    refine ⟨r, u, n, rfl, SqT.of (T0 _ _ hr), by omega, by have := hu.1; omega, by have := hu.2; omega, ?_⟩
    walk_at "v"
    exact w_new fun p H2 hp T e => q p H2 (T0.free hp) (T0.trans T) e
  | mark u n w =>
    obtain ⟨v1, v2, rfl, h1, h2⟩ := rest2 hs
    obtain rfl := dn_str h2
    obtain ⟨r, rfl, _, hr⟩ := ref_at h1
    have hn := name_le hg.1
    have hu := hg.2.1
    have ha : H a = some (.tup [V.str (Str.ofString "mark"), V.ref r, V.str w]) := ha
    walk_at "v"
    refine w_new fun p0 H0 hp0 T0 e0 => ?_
    walk_at "v"
    refine ⟨r, u, n, rfl, SqT.of (T0 _ _ hr), by omega, by have := hu.1; omega, by have := hu.2; omega, ?_⟩
    walk_at "v"
    exact w_new fun p H2 hp T e => q p H2 (T0.free hp) (T0.trans T) e
  | seen =>
    obtain rfl := rest0 hs
    have ha : H a = some (.tup [V.str (Str.ofString "seen")]) := ha
    walk_at "v"
    refine w_new fun p0 H0 hp0 T0 e0 => ?_
    walk_at "v"
    refine w_slTV (SqT.of (T0 _ _ ha)) (by show ¬ (HT.sIx 1 0 (some 1) = 0 ∧ HT.sIx 1 1 none = 1); decide) fun p1 H1 hp1 T1 e1 => ?_
    walk_at "v"
    refine w_listOfV (.inr (SqT.of e1)) fun p H2 hp T e => ?_
    exact q p H2 (T0.free (T1.free hp)) ((T0.trans T1).trans T) e
  | title w =>
    obtain ⟨v1, rfl, h1⟩ := rest1 hs
    obtain rfl := dn_str h1
    have ha : H a = some (.tup [V.str (Str.ofString "title"), V.str w]) := ha
    walk_at "v"
    refine w_new fun p0 H0 hp0 T0 e0 => ?_
    walk_at "v"
    refine w_slTV (SqT.of (T0 _ _ ha)) (by show ¬ (HT.sIx 2 0 (some 1) = 0 ∧ HT.sIx 2 2 none = 2); decide) fun p1 H1 hp1 T1 e1 => ?_
    walk_at "v"
    refine w_listOfV (.inr (SqT.of e1)) fun p H2 hp T e => ?_
    exact q p H2 (T0.free (T1.free hp)) ((T0.trans T1).trans T) e
  | add w =>
    obtain ⟨v1, rfl, h1⟩ := rest1 hs
    obtain rfl := dn_str h1
    have ha : H a = some (.tup [V.str (Str.ofString "add"), V.str w]) := ha
    walk_at "v"
    refine w_new fun p0 H0 hp0 T0 e0 => ?_
    walk_at "v"
    refine w_slTV (SqT.of (T0 _ _ ha)) (by show ¬ (HT.sIx 2 0 (some 1) = 0 ∧ HT.sIx 2 2 none = 2); decide) fun p1 H1 hp1 T1 e1 => ?_
    walk_at "v"
    refine w_listOfV (.inr (SqT.of e1)) fun p H2 hp T e => ?_
    exact q p H2 (T0.free (T1.free hp)) ((T0.trans T1).trans T) e
  | cut w =>
    obtain ⟨v1, rfl, h1⟩ := rest1 hs
    obtain rfl := dn_str h1
    have ha : H a = some (.tup [V.str (Str.ofString "cut"), V.str w]) := ha
    walk_at "v"
    refine w_new fun p0 H0 hp0 T0 e0 => ?_
    walk_at "v"
    refine w_slTV (SqT.of (T0 _ _ ha)) (by show ¬ (HT.sIx 2 0 (some 1) = 0 ∧ HT.sIx 2 2 none = 2); decide) fun p1 H1 hp1 T1 e1 => ?_
    walk_at "v"
    refine w_listOfV (.inr (SqT.of e1)) fun p H2 hp T e => ?_
    exact q p H2 (T0.free (T1.free hp)) ((T0.trans T1).trans T) e
  | hand w =>
    obtain ⟨v1, rfl, h1⟩ := rest1 hs
    obtain rfl := dn_str h1
    have ha : H a = some (.tup [V.str (Str.ofString "hand"), V.str w]) := ha
    walk_at "v"
    refine w_new fun p0 H0 hp0 T0 e0 => ?_
    walk_at "v"
    refine w_slTV (SqT.of (T0 _ _ ha)) (by show ¬ (HT.sIx 2 0 (some 1) = 0 ∧ HT.sIx 2 2 none = 2); decide) fun p1 H1 hp1 T1 e1 => ?_
    walk_at "v"
    refine w_listOfV (.inr (SqT.of e1)) fun p H2 hp T e => ?_
    exact q p H2 (T0.free (T1.free hp)) ((T0.trans T1).trans T) e
/-- header_lines: slots 0:letter 1:kind 2:pair 3:seen 4:parts 5:field 6:part -/
def t_header_lines (K : PySem.W.Frag) (C_Letter : Addr) (A_HEAD : Addr) (A_BEHIND : Addr) (kv_BEHIND : List (Str × V)) : TS := (tSeq (tAsg (tOp (rIxT K) (tFld K (tVar 0) "body") (tC (.int 0))) (gName 1))
  (tSeq (tAsg (tBM K "str" (qJoin K) (tC (.str ", ")) (tCons (tLc (iTup K (tFld K (tVar 0) "seen")) (gName 2) tYes (tCall (spPairWords K) [] C8.E0 (tCons (tVar 2) tNil)) [2]) tNil)) (gName 3))
  (tSeq (tAsg (tOp rCat (tLst (tCons (tCall (spPairWords K) [] C8.E0 (tCons (tProp C_Letter (spRefP K C_Letter) [] C8.E0 (tVar 0)) tNil)) (tCons (tCB qStrInt (tCons (tFld K (tVar 0) "stamp") tNil)) (tCons (tVar 3) (tCons (tVar 1) tNil))))) (tCall (spBodyParts K) [] C8.E0 (tCons (tFld K (tVar 0) "body") tNil))) (gName 4))
  (tRet (tLc (ZMix.iZipM K (tCons (tOp (rCatA K) (tC (.ref A_HEAD)) (tOp (rTab A_BEHIND (tabG kv_BEHIND)) (tC (.ref A_BEHIND)) (tVar 1))) (tCons (tVar 4) tNil))) (gTup K 2 (gCons (gName 5) (gCons (gName 6) gNil))) tYes (tJS ((tFmt (tVar 5)) :: ((tC (.str ": ")) :: ((tFmt (tVar 6)) :: [])))) [5, 6])))))
theorem l_header_lines (h : spHeader K C vs H Q E) : vs.length = 1 := by obtain ⟨x, a, n, s, ps, b, sv, bv, rfl, _⟩ := h; rfl
theorem tab_behind {kv : List (Str × V)} (h : IsM_BEHIND K kv) (b : Bd) : ∃ t, tabG kv b.kind = some (.ref t) ∧ TupK K t (b.fields.map V.str) := by
  obtain ⟨a0, a1, a2, a3, a4, a5, a6, a7, a8, a9, a10, rfl, h0, h1, h2, h3, h4, h5, h6, h7, h8, h9, h10⟩ := h
  cases b
  · exact ⟨a0, rfl, h0⟩
  · exact ⟨a1, rfl, h1⟩
  · exact ⟨a2, rfl, h2⟩
  · exact ⟨a3, rfl, h3⟩
  · exact ⟨a4, rfl, h4⟩
  · exact ⟨a5, rfl, h5⟩
  · exact ⟨a6, rfl, h6⟩
  · exact ⟨a7, rfl, h7⟩
  · exact ⟨a8, rfl, h8⟩
  · exact ⟨a9, rfl, h9⟩
  · exact ⟨a10, rfl, h10⟩
theorem r_header_lines {A_HEAD A_BEHIND : Addr} {kv_BEHIND : List (Str × V)} (LC : IsC_Letter K C) (TH : IsM_HEAD K A_HEAD) (TB : IsM_BEHIND K kv_BEHIND) (h : spHeader K C vs H Q E) :
    t_header_lines K C A_HEAD A_BEHIND kv_BEHIND { nx := fun _ H' => Q .non H', rt := Q } (start ["letter", "kind", "pair", "seen", "parts", "field", "part"] vs) H := by
  obtain ⟨x, a, n, s, ps, b, sv, bv, rfl, hL, dsv, dbv, ok, q⟩ := h
  obtain ⟨dx, d, hx, hd⟩ := id hL
  obtain ⟨bt, bxs, rfl, _, hb, hbs⟩ := body_at dbv
  obtain ⟨c, hg⟩ := ok.bd
  obtain ⟨ft, hft, hft2⟩ := tab_behind TB b
  unfold t_header_lines
  walk_at "v"
  refine w_fldV rfl hx LC.cl LC.n_body lfs_body ?_
  walk_at "v"
  cases id dsv with
  | @tup ta xs _ _ hta hxs =>
  have hxl : xs.length = ps.length := by rw [hxs.len, List.length_map]
  refine w_fldV rfl hx LC.cl LC.n_seen lfs_seen ?_
  refine ⟨ta, rfl, ⟨_, SqT.of hta⟩, fun D hD => ?_⟩
  refine lc_tup (xs := xs) (fun i H' => Same H H' ∧ H' D = some (.lst (((ps.take i).map pairW).map V.str))) ⟨Same.upd (Same.refl H) hD, upd_same⟩ (fun i H' _ pv => SqT.of (pv.1 _ _ hta)) (fun i v H' hv pv => ?_) (fun H' pv => ?_)
  · obtain ⟨p, t, e1, rfl, e3⟩ := pairs_at hxs i v hv
    have hp := ok.ok p (List.mem_of_getElem? e1)
    have hn := name_le hp.1
    obtain ⟨hu0, hu1⟩ := hp.2
    refine w_name ⟨rfl, w_yes (iteT_ ?_)⟩
    walk_at "v"
    refine ⟨t, p.1, p.2, rfl, SqT.of (pv.1 _ _ e3), by omega, by omega, by omega, ?_⟩
    refine ⟨_, pv.2, ?_, ?_, ?_⟩
    · rw [List.length_map, List.length_map, List.length_take]
      have := ok.len
      exact Nat.lt_of_le_of_lt (show min i ps.length ≤ 1000 by omega) (by decide)
    · exact Same.upd pv.1 hD
    · rw [upd_same, List.take_add_one, e1, List.map_append, List.map_append]
      rfl
  · obtain ⟨s1, e1⟩ := pv
    rw [hxl, List.take_length] at e1
    walk_at "v"
    · exact Nat.le_trans (join_pairs ok.ok ok.len) (by decide)
    walk_at "v"
    refine w_propV rfl (s1 _ _ hx) ?_
    refine ⟨x, a, n, s, ps, .ref ta, .ref bt, rfl, hL.same s1, ?_⟩
    intro p1 hp1
    obtain ⟨H1, g1, T1, e2⟩ := newT (o := .tup [.str a, .int n]) hp1
    rw [← g1]
    walk_at "v"
    have hn := name_le ok.nm
    obtain ⟨hu0, hu1⟩ := ok.nu
    have hs0 := ok.s0
    have hs1 := ok.s1
    refine ⟨p1, a, n, rfl, SqT.of e2, by omega, by omega, by omega, ?_⟩
    walk_at "v"
    refine w_fldV rfl (T1 _ _ (s1 _ _ hx)) LC.cl LC.n_stamp lfs_stamp ?_
    walk_at "v"
    refine w_strInt (by omega) (by omega) ?_
    walk_at "v"
    refine w_new fun p2 H2 hp2 T2 e3 => ?_
    have T02 := (s1.trans T1).trans T2
    refine w_fldV rfl (T02 _ _ hx) LC.cl LC.n_body lfs_body ?_
    walk_at "v"
    refine ⟨.ref bt, c, b, rfl, dbv.same T02, hg, fun p3 H3 hp3 T3 e4 => ?_⟩
    have hpn := parts_num b
    refine w_catV (T3 _ _ e3) e4 (by simp; omega) fun p4 H4 hp4 T4 e5 => ?_
    walk_at "v"
    refine w_tab hft ?_
    refine w_catA TH.sq hft2.sq (by simp; omega) fun p5 H5 T5 e6 => ?_
    walk_at "v"
    refine ⟨p5, p4, _, _, rfl, e6, SqL.of (T5 _ _ e5), fun D2 hD2 => ?_⟩
    have T05 := ((T02.trans T3).trans T4).trans T5
    have hF : (HEADS ++ b.fields).length = ([pairW (a, n), wI s, seenW ps, b.kind] ++ b.parts).length := by
      rw [List.length_append, List.length_append, hpn.1]
      rfl
    have hl4 : (hdr a n s ps b).length = (HEADS ++ b.fields).length := by
      unfold hdr
      rw [List.length_zipWith, hF, Nat.min_self]
    have e6' : SqT K H5 p5 ((HEADS ++ b.fields).map V.str) := by
      rw [List.map_append]
      exact e6
    have e5' : H5 p4 = some (.lst (([pairW (a, n), wI s, seenW ps, b.kind] ++ b.parts).map V.str)) := by
      rw [List.map_append]
      exact T5 _ _ e5
    have hpl : ∀ p ∈ [pairW (a, n), wI s, seenW ps, b.kind] ++ b.parts, p.length ≤ 85000 := by
      intro p hp
      rcases List.mem_append.mp hp with hp | hp
      · simp only [List.mem_cons, List.not_mem_nil, or_false] at hp
        rcases hp with rfl | rfl | rfl | rfl
        · exact Nat.le_trans (ref_len ok.nm ok.nu) (by decide)
        · exact Nat.le_trans (wI_len hs0 (by omega)) (by decide)
        · exact seenW_len ok.ok ok.len
        · cases b <;> (simp only [Bd.kind]; decide)
      · exact Nat.le_trans (parts_len hg p hp) (by decide)
    refine lc_it (ZMix.walkM (n := (HEADS ++ b.fields).length) (xs := (HEADS ++ b.fields).map V.str) (ys := ([pairW (a, n), wI s, seenW ps, b.kind] ++ b.parts).map V.str) (by rw [List.length_map, List.length_map, ← hF, Nat.min_self]))
      (fun i G => Same H5 G ∧ G D2 = some (.lst (((hdr a n s ps b).take i).map V.str))) ⟨Same.upd (Same.refl H5) hD2, upd_same⟩ (fun i G _ pv => ⟨Same.sqT pv.1 e6', SqL.of (pv.1 _ _ e5')⟩) (fun i v G G' hi pv y => ?_) (fun G pv => ?_)
    · obtain ⟨t, v1, v2, rfl, ht, rfl, e7, e8⟩ := y
      have e7 : ((HEADS ++ b.fields).map V.str)[i]? = some v1 := e7
      have e8 : (([pairW (a, n), wI s, seenW ps, b.kind] ++ b.parts).map V.str)[i]? = some v2 := e8
      rw [List.getElem?_map] at e7 e8
      obtain ⟨f, hf, rfl⟩ := Option.map_eq_some_iff.mp e7
      obtain ⟨w, hw, rfl⟩ := Option.map_eq_some_iff.mp e8
      have hfl := fields_len b f (List.mem_of_getElem? hf)
      have hwl := hpl w (List.mem_of_getElem? hw)
      refine ⟨t, _, rfl, SqT.of upd_same, rfl, gc (w_name (gc (w_name (gn ⟨rfl, w_yes (iteT_ ?_)⟩))))⟩
      walk_at "v"
      refine w_fmtS (by omega) ?_
      refine w_jy (by rw [Str.empty_append]; omega) ?_
      rw [Str.empty_append]
      walk_at "v"
      have el : (Str.ofString ": ").length = 2 := rfl
      have el2 : (f ++ Str.ofString ": ").length ≤ 12 := by rw [Str.length_append]; omega
      refine ⟨sz (by omega), ?_⟩
      walk_at "v"
      refine w_fmtS (by omega) ?_
      refine w_jy (by rw [Str.length_append]; omega) ?_
      walk_at "v"
      have ntD : t ≠ D2 := (ne_of_none pv.2 ht).symm
      refine ⟨_, by rw [upd_ne ntD.symm]; exact pv.2, ?_, ?_, ?_⟩
      · rw [List.length_map, List.length_take]
        have := hl4
        have e9 : (HEADS ++ b.fields).length ≤ 6 := by
          rw [List.length_append]
          have : HEADS.length = 4 := rfl
          omega
        exact Nat.lt_of_le_of_lt (show _ ≤ 1000 by omega) (by decide)
      · exact Same.upd (Same.upd pv.1 (pv.1.free ht)) hD2
      · have eh : (hdr a n s ps b)[i]? = some (lineW f w) := by
          unfold hdr
          rw [List.getElem?_zipWith, hf, hw]
        rw [upd_same, List.take_add_one, eh, List.map_append]
        rfl
    · obtain ⟨s5, e9⟩ := pv
      rw [← hl4, List.take_length] at e9
      walk_at "v"
      exact q D2 G (T05.free hD2) (T05.trans s5) e9
end

/-! ### letters that are made -/
def spLawLetter (K : PySem.W.Frag) (C : Addr) : Sp := fun vs H Q _ => ∃ (t : Addr) (a : Str) (n s : Int) (ps : List (Str × Int)) (b : Bd) (sv bv : V), vs = [.ref t] ∧ H t = some (.tup [.str a, .int n, .int s, sv, bv]) ∧ Dn Any H sv (seenD ps) ∧ (ps.map (·.1)).Nodup ∧ ps.length ≤ 1000 ∧
  ∀ x H', H x = none → Same H H' → LetterAt C H' x a n s ps sv bv → Q (.ref x) H'
section
variable {K : PySem.W.Frag} {C : Addr} {vs : List V} {H : Hp} {Q : VK} {E : XK}
theorem dn_made {ok : Addr → Prop} {x dx : Addr} {o : HO} {v : V} {d : PyData} (h : Dn ok H v d) (hx : H x = none) (hdx : H dx = none) (fs : List (Str × V)) : Dn (Off x) (upd (upd H dx o) x (.ins C dx fs)) v d :=
  (h.any.off hx).kp ((Kp.upd Kp.refl hdx).updp)
theorem same_made {x dx : Addr} {o o' : HO} {G : Hp} (hx : H x = none) (hdx : H dx = none) (k : Kp x (upd (upd H dx o) x o') G) : Same H G :=
  (((Kp.upd Kp.refl hdx).updp (H := H)).trans k).same hx
/-- _law_letter: slots 0:value -/
def t__law_letter (K : PySem.W.Frag) (C_Letter : Addr) : TS := (tRet (tMake C_Letter (spInit K C_Letter) [] C8.E0 (tCons (tOp (rIxT K) (tVar 0) (tC (.int 0))) (tCons (tOp (rIxT K) (tVar 0) (tC (.int 1))) (tCons (tOp (rIxT K) (tVar 0) (tC (.int 2))) (tCons (tOp (rIxT K) (tVar 0) (tC (.int 3))) (tCons (tOp (rIxT K) (tVar 0) (tC (.int 4))) tNil)))))))
theorem l__law_letter (h : spLawLetter K C vs H Q E) : vs.length = 1 := by obtain ⟨t, a, n, s, ps, b, sv, bv, rfl, _⟩ := h; rfl
theorem r__law_letter (LC : IsC_Letter K C) (h : spLawLetter K C vs H Q E) : t__law_letter K C { nx := fun _ H' => Q .non H', rt := Q } (start ["value"] vs) H := by
  obtain ⟨t, a, n, s, ps, b, sv, bv, rfl, ht, dsv, nd, hl, q⟩ := h
  unfold t__law_letter
  walk_at "v"
  refine w_make ?_
  walk_at "v"
  intro x dx hx hdx ndx
  refine ⟨x, dx, a, n, s, ps, sv, bv, rfl, upd_same, dn_made dsv hx hdx _, nd, hl, fun H4 k4 L1 => ⟨rfl, ?_⟩⟩
  exact q x H4 hx (same_made hx hdx k4) L1
end

/-! ### folding -/
def CutIs (L : List Nat) (s w : Nat) (c : Int) : Prop :=
  (∃ j : Nat, c = (j : Int) ∧ s < j ∧ L[j]? = some 32 ∧ (j ≤ s + w → ∀ i, j < i → i ≤ s + w → L[i]? ≠ some 32) ∧ (s + w < j → ∀ i, s < i → i < j → L[i]? ≠ some 32)) ∨ (c = -1 ∧ ∀ i, s < i → L[i]? ≠ some 32)
def spCut (K : PySem.W.Frag) : Sp := fun vs H Q _ => ∃ (z : Str) (s w : Nat), vs = [.str z, .int s, .int w] ∧ z.length ≤ 100000 ∧ ∀ c, CutIs z.cps.toList s w c → Q (.int c) H
def Folded : List Str → List Nat → Nat → Prop
  | [], _, _ => False
  | [p], rest, w => p.cps.toList = rest ∧ (rest.length ≤ w ∨ ∀ i, 1 ≤ i → rest[i]? ≠ some 32)
  | p :: q :: ps, rest, w => ∃ n, p.cps.toList = rest.take n ∧ 0 < n ∧ n < rest.length ∧ w < rest.length ∧ rest[n]? = some 32 ∧ (n ≤ w → ∀ i, n < i → i ≤ w → rest[i]? ≠ some 32) ∧ (w < n → ∀ i, 1 ≤ i → i < n → rest[i]? ≠ some 32) ∧ Folded (q :: ps) (rest.drop n) w
def spFold (K : PySem.W.Frag) : Sp := fun vs H Q _ => ∃ (z : Str) (w : Nat), vs = [.str z, .int w] ∧ 1 ≤ w ∧ z.length ≤ 100000 ∧ ∀ a ps H', H a = none → Same H H' → H' a = some (.lst (ps.map V.str)) → ps.length ≤ z.length + 1 → Folded ps z.cps.toList w → Q (.ref a) H'
section
variable {K : PySem.W.Frag} {vs : List V} {H : Hp} {Q : VK} {E : XK}
theorem space_eq : Str.ofString " " = ⟨#[32]⟩ := by decide
/-- _cut_of: slots 0:line 1:start 2:width 3:behind 4:cut -/
def t__cut_of (K : PySem.W.Frag) : TS := (tSeq (tAsg (tOp qAdd (tOp qAdd (tVar 1) (tVar 2)) (tC (.int 1))) (gName 3))
  (tSeq (tAsg (tBM K "str" q_rfind4 (tVar 0) (tCons (tC (.str " ")) (tCons (tOp qAdd (tVar 1) (tC (.int 1))) (tCons (tVar 3) tNil)))) (gName 4))
  (tSeq (tIfS (tTest (tOp qLt (tVar 4) (tC (.int 0)))) (tAsg (tBM K "str" q_find3 (tVar 0) (tCons (tC (.str " ")) (tCons (tVar 3) tNil))) (gName 4)) tNext)
  (tRet (tVar 4)))))
theorem l__cut_of (h : spCut K vs H Q E) : vs.length = 3 := by obtain ⟨z, s, w, rfl, _⟩ := h; rfl
theorem r__cut_of (h : spCut K vs H Q E) : t__cut_of K { nx := fun _ H' => Q .non H', rt := Q } (start ["line", "start", "width", "behind", "cut"] vs) H := by
  obtain ⟨z, s, w, rfl, hz, q⟩ := h
  unfold t__cut_of
  walk_at "w"
  refine ⟨z, _, _, _, rfl, rfl, ?_⟩
  have e1 : PySem.fromIndex z.length ((s : Int) + 1) = s + 1 := by
    unfold PySem.fromIndex
    rw [if_neg (by omega)]
    omega
  have e2 : PySem.toIndexW z.length ((s : Int) + (w : Int) + 1) = min (s + w + 1) z.length := by
    unfold PySem.toIndexW
    rw [if_neg (by omega)]
    omega
  have er : Txt.rfindIn z (Str.ofString " ") ((s : Int) + 1) ((s : Int) + (w : Int) + 1) = match PySem.Builtin.Str.lastOccurrence z ⟨#[32]⟩ (s + 1) (min (s + w + 1) z.length) with | some k => (k : Int) | none => -1 := by
    unfold Txt.rfindIn
    rw [e1, e2, space_eq]
    all_goals rfl
  rw [er]
  have hlen : z.length = z.cps.toList.length := str_len z
  rcases last_one z 32 (s + 1) (min (s + w + 1) z.length) (Nat.min_le_right _ _) with ⟨h0, hn⟩ | ⟨j, h0, j1, j2, j3, j4⟩
  · rw [h0]
    have e3 : PySem.fromIndex z.length ((s : Int) + (w : Int) + 1) = s + w + 1 := by
      unfold PySem.fromIndex
      rw [if_neg (by omega)]
      omega
    have ef : Txt.find3 z (Str.ofString " ") ((s : Int) + (w : Int) + 1) = match PySem.Builtin.Str.occurrences z ⟨#[32]⟩ (s + w + 1) z.length 1 with | k :: _ => (k : Int) | [] => -1 := by
      unfold Txt.find3
      rw [e3, space_eq]
      all_goals rfl
    walk_at "w"
    walk_at "if" <;> intro hc
    · walk_at "w"
      refine ⟨z, _, _, rfl, rfl, ?_⟩
      rw [ef]
      have none1 : ∀ i, s < i → i ≤ s + w → z.cps.toList[i]? ≠ some 32 := fun i i1 i2 e => by
        have := (List.getElem?_eq_some_iff.mp e).1
        exact hn i i1 (by omega) e
      rcases first_one z 32 (s + w + 1) with ⟨g0, gn⟩ | ⟨j, r, g0, j1, j3, j4⟩
      · rw [g0]
        walk_at "w"
        refine q _ (.inr ⟨rfl, fun i i1 e => ?_⟩)
        by_cases hi : i ≤ s + w
        · exact none1 i i1 hi e
        · exact gn i (by omega) e
      · rw [g0]
        walk_at "w"
        refine q _ (.inl ⟨j, rfl, by omega, j3, fun h => by omega, fun _ i i1 i2 e => ?_⟩)
        by_cases hi : i ≤ s + w
        · exact none1 i i1 hi e
        · exact j4 i (by omega) i2 e
    · exact absurd (by decide) hc
  · rw [h0]
    walk_at "w"
    walk_at "if" <;> intro hc
    · have hc : (j : Int) < 0 := hc
      omega
    · walk_at "w"
      refine q _ (.inl ⟨j, rfl, by omega, j3, fun _ i i1 i2 e => ?_, fun h => by omega⟩)
      have := (List.getElem?_eq_some_iff.mp e).1
      exact j4 i i1 (by omega) e
/-- fold: slots 0:line 1:width 2:lines 3:start 4:cut -/
def t_fold (K : PySem.W.Frag) : TS := (tSeq (tAsg (tLst tNil) (gName 2))
  (tSeq (tAsg (tC (.int 0)) (gName 3))
  (tSeq (tWhile (tTest (tOp qGt (tOp qSub (tCB qLenStr (tCons (tVar 0) tNil)) (tVar 3)) (tVar 1))) (tSeq (tAsg (tCall (spCut K) [] C8.E0 (tCons (tVar 0) (tCons (tVar 3) (tCons (tVar 1) tNil)))) (gName 4))
  (tSeq (tIfS (tTest (tOp qLt (tVar 4) (tC (.int 0)))) tBreak tNext)
  (tSeq (tDrop (tBM K "list" rAppend (tVar 2) (tCons (tSl rSlS (tVar 0) (tPart (tVar 3)) (tPart (tVar 4))) tNil)))
  (tAsg (tVar 4) (gName 3))))))
  (tSeq (tDrop (tBM K "list" rAppend (tVar 2) (tCons (tSl rSlS (tVar 0) (tPart (tVar 3)) tNoPart) tNil)))
  (tRet (tVar 2))))))
theorem l_fold (h : spFold K vs H Q E) : vs.length = 2 := by obtain ⟨z, w, rfl, _⟩ := h; rfl
theorem r_fold (h : spFold K vs H Q E) : t_fold K { nx := fun _ H' => Q .non H', rt := Q } (start ["line", "width", "lines", "start", "cut"] vs) H := by
  obtain ⟨z, w, rfl, hw, hz, q⟩ := h
  have hlen : z.length = z.cps.toList.length := str_len z
  have hz' : z.length ≤ sizeLine := Nat.le_trans hz (by decide)
  unfold t_fold
  walk_at "w"
  intro l hl
  walk_at "b"
  -- the state between two turns
  have fin : ∀ (ps : List Str) (s : Nat) y H1, Same H H1 → H1 l = some (.lst (ps.map V.str)) → s ≤ z.length → ps.length ≤ s → (∀ qs, Folded qs (z.cps.toList.drop s) w → Folded (ps ++ qs) z.cps.toList w) → ((z.cps.toList.drop s).length ≤ w ∨ ∀ i, s < i → z.cps.toList[i]? ≠ some 32) →
      (tSeq (tDrop (tBM K "list" rAppend (tVar 2) (tCons (tSl rSlS (tVar 0) (tPart (tVar 3)) tNoPart) tNil))) (tRet (tVar 2))) { nx := fun _ H' => Q .non H', rt := Q } [some (.str z), some (.int w), some (.ref l), some (.int s), y] H1 := fun ps s y H1 s1 hL hs hp hf hend => by
    walk_at "w"
    refine w_slS hz' ?_
    walk_at "w"
    refine w_app hL (by rw [List.length_map]; exact Nat.lt_of_le_of_lt (show ps.length ≤ 100000 by omega) (by decide)) ?_
    walk_at "w"
    refine q l (ps ++ [cutS z (some (s : Int)) none]) _ hl (fun b o e => by
      rw [upd_ne (ne_of_none e hl)]
      exact s1 b o e) (by rw [upd_same, List.map_append]; rfl) (by rw [List.length_append]; exact Nat.succ_le_succ (Nat.le_trans hp hs)) ?_
    refine hf _ ⟨by rw [cutS_from (by omega)]; rfl, ?_⟩
    rcases hend with h | h
    · exact .inl h
    · refine .inr fun i i1 e => ?_
      rw [List.getElem?_drop] at e
      exact h (s + i) (by omega) e
  refine ⟨fun m σ H1 => ∃ (ps : List Str) (s : Nat) (y : Option V), σ = [some (.str z), some (.int w), some (.ref l), some (.int s), y] ∧ m = z.length - s ∧ Same H H1 ∧ H1 l = some (.lst (ps.map V.str)) ∧ s ≤ z.length ∧ ps.length ≤ s ∧ ∀ qs, Folded qs (z.cps.toList.drop s) w → Folded (ps ++ qs) z.cps.toList w,
    ⟨z.length, [], 0, none, rfl, rfl, Same.upd (Same.refl H) hl, upd_same, Nat.zero_le _, Nat.le_refl _, fun qs h => h⟩, fun m σ H1 hW => ?_⟩
  obtain ⟨ps, s, y, rfl, rfl, s1, hL, hs, hp, hf⟩ := hW
  walk_at "w"
  refine w_lenStr hz' ?_
  walk_at "w"
  walk_at "if" <;> intro hc
  · refine ⟨fun σ' H' => ∃ (ps' : List Str) (s' : Nat) (y : Option V), s < s' ∧ σ' = [some (.str z), some (.int w), some (.ref l), some (.int s'), y] ∧ Same H H' ∧ H' l = some (.lst (ps'.map V.str)) ∧ s' ≤ z.length ∧ ps'.length ≤ s' ∧ ∀ qs, Folded qs (z.cps.toList.drop s') w → Folded (ps' ++ qs) z.cps.toList w, fun σ' H' hN => ?_, ?_⟩
    · obtain ⟨ps', s', y', hlt, e, r1, r2, r3, r4, r5⟩ := hN
      exact ⟨z.length - s', by omega, ps', s', y', e, rfl, r1, r2, r3, r4, r5⟩
    · walk_at "w"
      refine ⟨z, s, w, rfl, hz, fun c hcut => ?_⟩
      walk_at "w"
      walk_at "if" <;> intro h0
      · refine fin ps s _ H1 s1 hL hs hp hf (.inr ?_)
        rcases hcut with ⟨j, rfl, _⟩ | ⟨_, hn⟩
        · omega
        · exact hn
      · rcases hcut with ⟨j, rfl, j1, j3, ja, jb⟩ | ⟨rfl, _⟩
        · have jl := (List.getElem?_eq_some_iff.mp j3).1
          walk_at "w"
          refine w_slS hz' ?_
          walk_at "w"
          refine w_app hL (by rw [List.length_map]; exact Nat.lt_of_le_of_lt (show ps.length ≤ 100000 by omega) (by decide)) ?_
          walk_at "w"
          have hcutS : (cutS z (some (s : Int)) (some (j : Int))).cps.toList = (z.cps.toList.drop s).take (j - s) := by
            show (z.cps.toList.drop (HT.sIx z.length 0 (some (s : Int)))).take (HT.sIx z.length z.length (some (j : Int)) - HT.sIx z.length 0 (some (s : Int))) = _
            rw [HT.sIx_nat, HT.sIx_nat, Nat.min_eq_left hs, Nat.min_eq_left (by omega)]
          refine ⟨ps ++ [cutS z (some (s : Int)) (some (j : Int))], j, _, j1, rfl, ?_, ?_, by omega, ?_, fun qs hq => ?_⟩
          · exact fun b o e => by
              rw [upd_ne (ne_of_none e hl)]
              exact s1 b o e
          · rw [upd_same, List.map_append]
            rfl
          · rw [List.length_append]
            show ps.length + 1 ≤ j
            omega
          · rw [List.append_assoc]
            refine hf _ ?_
            cases qs with
            | nil => exact hq.elim
            | cons q1 qs =>
              have hdl : (z.cps.toList.drop s).length = z.length - s := by rw [List.length_drop, hlen]
              refine ⟨j - s, hcutS, by omega, by omega, by omega, ?_, fun h i i1 i2 e => ?_, fun h i i1 i2 e => ?_, ?_⟩
              · rw [List.getElem?_drop, show s + (j - s) = j by omega]
                exact j3
              · rw [List.getElem?_drop] at e
                exact ja (by omega) (s + i) (by omega) (by omega) e
              · rw [List.getElem?_drop] at e
                exact jb (by omega) (s + i) (by omega) (by omega) e
              · rw [List.drop_drop, show s + (j - s) = j by omega]
                exact hq
        · exact absurd (by decide) h0
  · refine fin ps s _ H1 s1 hL hs hp hf (.inl ?_)
    rw [List.length_drop]
    omega
end

/-! ### the law's own view of folded lines -/
def spLawFolded (K : PySem.W.Frag) : Sp := fun vs H Q _ => ∃ (a : Addr) (ps : List Str) (z : Str) (w : Nat), vs = [.ref a, .str z, .int w] ∧ H a = some (.lst (ps.map V.str)) ∧ ps.length ≤ 10001 ∧ z.length ≤ 10000 ∧ Folded ps z.cps.toList w ∧ Q (.bl true) H
section
variable {K : PySem.W.Frag} {vs : List V} {H : Hp} {Q : VK} {E : XK}
theorem strE {a b : Str} (h : a.cps.toList = b.cps.toList) : a = b := by
  cases a
  cases b
  exact congrArg Str.mk (Array.toList_inj.mp h)
theorem cutS_nat {z : Str} (a b : Nat) : (cutS z (some (a : Int)) (some (b : Int))).cps.toList = (z.cps.toList.drop (min a z.length)).take (min b z.length - min a z.length) := by
  show (z.cps.toList.drop (HT.sIx z.length 0 (some (a : Int)))).take (HT.sIx z.length z.length (some (b : Int)) - HT.sIx z.length 0 (some (a : Int))) = _
  rw [HT.sIx_nat, HT.sIx_nat]
/-- no space in a cut -/
theorem cut_free {z : Str} {a b : Nat} {L : List Nat} (e : L = z.cps.toList) (h : ∀ i, a ≤ i → i < b → L[i]? ≠ some 32) : decide (32 ∈ (cutS z (some (a : Int)) (some (b : Int))).cps.toList) = false := by
  subst e
  refine decide_eq_false fun m => ?_
  rw [cutS_nat] at m
  obtain ⟨i, hi⟩ := List.mem_iff_getElem?.mp m
  rw [List.getElem?_take] at hi
  split at hi
  · rename_i hlt
    rw [List.getElem?_drop] at hi
    have := (List.getElem?_eq_some_iff.mp hi).1
    rw [← str_len] at this
    exact h _ (by omega) (by omega) hi
  · exact nomatch hi
theorem cut_freeF {z : Str} {a : Nat} {L : List Nat} (e : L = z.cps.toList) (h : ∀ i, a ≤ i → L[i]? ≠ some 32) : decide (32 ∈ (cutS z (some (a : Int)) none).cps.toList) = false := by
  subst e
  refine decide_eq_false fun m => ?_
  rw [cutS_from (by omega)] at m
  obtain ⟨i, hi⟩ := List.mem_iff_getElem?.mp m
  rw [List.getElem?_drop] at hi
  exact h _ (by omega) hi
theorem mem_drop {α : Type} {l : List α} {i : Nat} (h : i < l.length) : l.drop i = l[i] :: l.drop (i + 1) := List.drop_eq_getElem_cons h
/-- _law_folded: slots 0:lines 1:line 2:width 3:rest 4:k 5:part 6:size -/
def t__law_folded (K : PySem.W.Frag) : TS := (tSeq (tIfS (tNot (tB (tCB (rIsi K) (tCons (tVar 0) (tCons (tC (.ty "list")) tNil))))) (tRet (tC (.bl false))) tNext)
  (tSeq (tAsg (tVar 1) (gName 3))
  (tSeq (tFor (iRng1 (tCons (tCB (qLenSeq K) (tCons (tVar 0) tNil)) tNil)) (gName 4) (tSeq (tAsg (tOp (rIxL K) (tVar 0) (tVar 4)) (gName 5))
  (tSeq (tIfS (tOr (tNot (tB (tCB (rIsi K) (tCons (tVar 5) (tCons (tC (.ty "str")) tNil))))) (tTest (tOp rNe (tSl rSlS (tVar 3) tNoPart (tPart (tCB qLenStr (tCons (tVar 5) tNil)))) (tVar 5)))) (tRet (tC (.bl false))) tNext)
  (tSeq (tAsg (tCB qLenStr (tCons (tVar 5) tNil)) (gName 6))
  (tSeq (tIfS (tTest (tOp rEq (tVar 4) (tOp qSub (tCB (qLenSeq K) (tCons (tVar 0) tNil)) (tC (.int 1))))) (tRet (tAndV (tOp rEq (tVar 6) (tCB qLenStr (tCons (tVar 3) tNil))) (tOrV (tOp qLe (tVar 6) (tVar 2)) (tOp qNinSign (tC (.str " ")) (tSl rSlS (tVar 3) (tPart (tC (.int 1))) tNoPart))))) tNext)
  (tSeq (tIfS (tOr (tTest (tOp rEq (tVar 6) (tC (.int 0)))) (tOr (tTest (tOp qGe (tVar 6) (tCB qLenStr (tCons (tVar 3) tNil)))) (tOr (tTest (tOp qLe (tCB qLenStr (tCons (tVar 3) tNil)) (tVar 2))) (tTest (tOp rNe (tOp rIxS (tVar 3) (tVar 6)) (tC (.str " "))))))) (tRet (tC (.bl false))) tNext)
  (tSeq (tIfS (tAnd (tTest (tOp qLe (tVar 6) (tVar 2))) (tTest (tOp qInSign (tC (.str " ")) (tSl rSlS (tVar 3) (tPart (tOp qAdd (tVar 6) (tC (.int 1)))) (tPart (tOp qAdd (tVar 2) (tC (.int 1)))))))) (tRet (tC (.bl false))) tNext)
  (tSeq (tIfS (tAnd (tTest (tOp qGt (tVar 6) (tVar 2))) (tTest (tOp qInSign (tC (.str " ")) (tSl rSlS (tVar 3) (tPart (tC (.int 1))) (tPart (tVar 6)))))) (tRet (tC (.bl false))) tNext)
  (tAsg (tSl rSlS (tVar 3) (tPart (tVar 6)) tNoPart) (gName 3))))))))))
  (tRet (tC (.bl false))))))
theorem l__law_folded (h : spLawFolded K vs H Q E) : vs.length = 3 := by obtain ⟨a, ps, z, w, rfl, _⟩ := h; rfl
theorem r__law_folded (h : spLawFolded K vs H Q E) : t__law_folded K { nx := fun _ H' => Q .non H', rt := Q } (start ["lines", "line", "width", "rest", "k", "part", "size"] vs) H := by
  obtain ⟨a, ps, z, w, rfl, ha, hps, hz, hf, q⟩ := h
  have hS : SqL K H a (ps.map V.str) := SqL.of ha
  have hlm : (ps.map V.str).length = ps.length := List.length_map ..
  unfold t__law_folded
  walk_at "w"
  refine w_isi (Dn.tyX (ok := Any) (.lst trivial ha (dnall_strs ps))) (kit_list (.list (ps.map PyData.str))) ?_
  walk_at "w"
  walk_at "if" <;> intro h
  · exact absurd rfl h
  clear h
  walk_at "w"
  refine w_for (w_iRng1 ?_)
  walk_at "w"
  rw [hlm]
  refine w_rng (by omega) (by omega) (fun i σ H' => H' = H ∧ ∃ (r : Str) (y4 y5 y6 : Option V), σ = [some (.ref a), some (.str z), some (.int w), some (.str r), y4, y5, y6] ∧ r.length ≤ 10000 ∧ Folded (ps.drop i) r.cps.toList w) ⟨rfl, z, none, none, none, rfl, hz, hf⟩ (fun i σ H' hi pv => ?_) (fun σ H' pv => ?_)
  · obtain ⟨rfl, r, y4, y5, y6, rfl, hr, hfr⟩ := pv
    have hi : i < ps.length := by omega
    walk_at "w"
    refine w_ixL hS (atI_nat (j := i) (by rw [List.getElem?_map, List.getElem?_eq_getElem hi]; rfl)) ?_
    rw [mem_drop hi] at hfr
    generalize ps[i] = part at hfr
    have hpart : part.cps.toList = r.cps.toList.take part.length ∧ part.length ≤ r.length ∧ (i + 1 < ps.length → part.length ≠ 0 ∧ part.length < r.length ∧ w < r.length ∧ r.cps.toList[part.length]? = some 32 ∧ (part.length ≤ w → ∀ j, part.length < j → j ≤ w → r.cps.toList[j]? ≠ some 32) ∧ (w < part.length → ∀ j, 1 ≤ j → j < part.length → r.cps.toList[j]? ≠ some 32) ∧ Folded (ps.drop (i + 1)) (r.cps.toList.drop part.length) w) ∧ (i + 1 = ps.length → part.length = r.length ∧ (r.length ≤ w ∨ ∀ j, 1 ≤ j → r.cps.toList[j]? ≠ some 32)) := by
      rcases Nat.lt_or_ge (i + 1) ps.length with h1 | h1
      · rw [mem_drop h1] at hfr ⊢
        obtain ⟨n, e, n0, n1, n2, n3, n4, n5, n6⟩ := hfr
        have en : part.length = n := by
          rw [str_len, e, List.length_take]
          omega
        rw [en, str_len r]
        exact ⟨e, by omega, fun _ => ⟨by omega, n1, n2, n3, n4, n5, n6⟩, fun h => by omega⟩
      · rw [List.drop_eq_nil_of_le h1] at hfr
        obtain ⟨e, h2⟩ := hfr
        have en : part.length = r.length := by rw [str_len, str_len, e]
        refine ⟨?_, by omega, fun h => by omega, fun _ => ⟨en, ?_⟩⟩
        · rw [e, en, str_len, List.take_length]
        · rw [str_len]
          exact h2
    clear hfr
    obtain ⟨p1, p2, p3, p4⟩ := hpart
    walk_at "w"
    refine w_isi (Dn.tyX (ok := Any) (.str part)) (kit_str (.str part)) ?_
    walk_at "w"
    walk_at "if" <;> intro h
    · exact absurd rfl h
    clear h
    walk_at "w"
    refine w_lenStr (sz (by omega)) ?_
    walk_at "w"
    refine w_slS (sz (by omega)) ?_
    walk_at "w"
    have e1 : cutS r none (some (part.length : Int)) = part := strE (by rw [cutS_to (by omega), p1]; rfl)
    rw [e1]
    walk_at "if" <;> intro h
    · exact absurd rfl h
    clear h
    walk_at "w"
    refine w_lenStr (sz (by omega)) ?_
    walk_at "w"
    rw [hlm]
    walk_at "if" <;> intro h
    · obtain ⟨l1, l2⟩ := p4 (by omega)
      walk_at "w"
      refine w_lenStr (sz (by omega)) ?_
      walk_at "w"
      walk_at "if" <;> intro h
      · walk_at "w"
        walk_at "if" <;> intro h
        · exact q
        · walk_at "w"
          refine w_slS (sz (by omega)) ?_
          rw [space_eq]
          walk_at "w"
          have e2 : decide (32 ∈ (cutS r (some (1 : Int)) none).cps.toList) = false := cut_freeF (a := 1) rfl (by
            rcases l2 with h2 | h2
            · omega
            · exact h2)
          rw [e2]
          exact q
      · omega
    · obtain ⟨l0, l1, l2, l3, l4, l5, l6⟩ := p3 (by omega)
      walk_at "w"
      walk_at "if" <;> intro h
      · omega
      clear h
      walk_at "w"
      refine w_lenStr (sz (by omega)) ?_
      walk_at "w"
      walk_at "if" <;> intro h
      · omega
      clear h
      walk_at "w"
      refine w_lenStr (sz (by omega)) ?_
      walk_at "w"
      walk_at "if" <;> intro h
      · omega
      clear h
      walk_at "w"
      refine w_ixS (sz (by omega)) (atI_nat l3) ?_
      rw [space_eq]
      walk_at "w"
      walk_at "if" <;> intro h
      · exact absurd rfl h
      clear h
      walk_at "w"
      walk_at "if" <;> intro h
      · walk_at "w"
        refine w_slS (sz (by omega)) ?_
        walk_at "w"
        have e2 : decide (32 ∈ (cutS r (some ((part.length : Int) + 1)) (some ((w : Int) + 1))).cps.toList) = false := cut_free (a := part.length + 1) (b := w + 1) rfl (fun j j1 j2 => l4 (by omega) j (by omega) (by omega))
        rw [e2]
        walk_at "w"
        walk_at "if" <;> intro h2
        · omega
        walk_at "w"
        refine w_slS (sz (by omega)) ?_
        walk_at "w"
        refine ⟨rfl, _, _, _, _, rfl, Nat.le_trans (cutS_length _ _ _) hr, ?_⟩
        rw [cutS_from (by omega)]
        exact l6
      · walk_at "w"
        walk_at "if" <;> intro h2
        rotate_left
        · omega
        walk_at "w"
        refine w_slS (sz (by omega)) ?_
        walk_at "w"
        have e2 : decide (32 ∈ (cutS r (some (1 : Int)) (some (part.length : Int))).cps.toList) = false := cut_free (a := 1) (b := part.length) rfl (fun j j1 j2 => l5 (by omega) j j1 j2)
        rw [e2]
        walk_at "w"
        refine w_slS (sz (by omega)) ?_
        walk_at "w"
        refine ⟨rfl, _, _, _, _, rfl, Nat.le_trans (cutS_length _ _ _) hr, ?_⟩
        rw [cutS_from (by omega)]
        exact l6
  · obtain ⟨rfl, r, y4, y5, y6, rfl, hr, hfr⟩ := pv
    rw [List.drop_eq_nil_of_le (by omega)] at hfr
    exact hfr.elim
end

/-! ### further steps -/
local macro_rules | `(tactic| walk_at "case") => `(tactic| dsimp only [Bd.kind, Bd.text, Bd.rest, Bd.toD])
local macro_rules | `(tactic| walk_at "z1") => `(tactic| ((with_reducible show qAddS (.str _) (.str _) _ _); refine w_addS (sz (by first | omega | (simp only [Str.length_append]; omega))) ?_))
local macro_rules | `(tactic| walk_at "z1") => `(tactic| ((with_reducible show qJoin _ (.str _) [.ref _] _ _); first | refine w_joinT (by walk_at "sq") (by assumption) ?_ | refine w_joinL (by walk_at "sq") (by assumption) ?_))
/-- what stands off an address still stands -/
local macro_rules | `(tactic| walk_at "kp") => `(tactic| first
  | assumption
  | exact Kp.refl
  | (refine Kp.trans ?_ (by assumption); walk_at "kp")
  | (refine Kp.trans ?_ (Same.kp (by assumption)); walk_at "kp"))
local macro_rules | `(tactic| walk_at "fin") => `(tactic| first
  | (walk_at "hp"; done)
  | (refine Eq.trans (by walk_at "hp") ?_; first | rfl | (simp only [List.map_cons, List.map_nil, List.append_nil, List.append_assoc, List.cons_append, List.nil_append]; rfl)))
local macro_rules | `(tactic| walk_at "ln") => `(tactic| exact Nat.le_of_ble_eq_true rfl)

/-! ### the law's own header lines -/
def spLawHeader (K : PySem.W.Frag) : Sp := fun vs H Q _ => ∃ (t : Addr) (a : Str) (n s : Int) (ps : List (Str × Int)) (b : Bd) (sv bv : V), vs = [.ref t] ∧ H t = some (.tup [.str a, .int n, .int s, sv, bv]) ∧ Dn Any H sv (seenD ps) ∧ Dn Any H bv b.toD ∧ HdrOk a n s ps b ∧
  ∀ l H', H l = none → Same H H' → H' l = some (.lst ((hdr a n s ps b).map V.str)) → Q (.ref l) H'
section
variable {K : PySem.W.Frag} {C : Addr} {vs : List V} {H : Hp} {Q : VK} {E : XK}
/-- _law_text_of: slots 0:body -/
def t__law_text_of (K : PySem.W.Frag) : TS := (tSeq (tIfS (tTest (tOp (rIn K false) (tOp (rIxT K) (tVar 0) (tC (.int 0))) (tLst (tCons (tC (.str "say")) (tCons (tC (.str "reply")) (tCons (tC (.str "edit")) tNil)))))) (tRet (tOp (rIxT K) (tVar 0) (tOp qSub (tCB (qLenSeq K) (tCons (tVar 0) tNil)) (tC (.int 1))))) tNext)
  (tRet (tC .non)))
theorem l__law_text_of (h : spTextOf K vs H Q E) : vs.length = 1 := by obtain ⟨v, b, rfl, _⟩ := h; rfl
theorem r__law_text_of (h : spTextOf K vs H Q E) : t__law_text_of K { nx := fun _ H' => Q .non H', rt := Q } (start ["body"] vs) H := by
  obtain ⟨v, b, rfl, hd, q⟩ := h
  obtain ⟨a, xs, rfl, _, ha, hs⟩ := body_at hd
  unfold t__law_text_of
  cases b with
  | say u =>
    obtain ⟨v1, rfl, h1⟩ := rest1 hs
    obtain rfl := dn_str h1
    have ha : H a = some (.tup [V.str (Str.ofString "say"), V.str u]) := ha
    walk_at "v"
    refine w_new fun p H2 hp T e => ?_
    walk_at "v"
    exact q _ _ T (.str u)
  | reply r n u =>
    obtain ⟨v1, v2, rfl, h1, h2⟩ := rest2 hs
    obtain rfl := dn_str h2
    have ha : H a = some (.tup [V.str (Str.ofString "reply"), v1, V.str u]) := ha
    walk_at "v"
    refine w_new fun p H2 hp T e => ?_
    walk_at "v"
    exact q _ _ T (.str u)
  | edit r n u =>
    obtain ⟨v1, v2, rfl, h1, h2⟩ := rest2 hs
    obtain rfl := dn_str h2
    have ha : H a = some (.tup [V.str (Str.ofString "edit"), v1, V.str u]) := ha
    walk_at "v"
    refine w_new fun p H2 hp T e => ?_
    walk_at "v"
    exact q _ _ T (.str u)
  | found u ms =>
    have ha : H a = some (.tup (V.str (Str.ofString "found") :: xs)) := ha
    walk_at "v"
    refine w_new fun p H2 hp T e => ?_
    walk_at "v"
    exact q _ _ T .non
  | recall r n =>
    have ha : H a = some (.tup (V.str (Str.ofString "recall") :: xs)) := ha
    walk_at "v"
    refine w_new fun p H2 hp T e => ?_
    walk_at "v"
    exact q _ _ T .non
  | mark r n w =>
    have ha : H a = some (.tup (V.str (Str.ofString "mark") :: xs)) := ha
    walk_at "v"
    refine w_new fun p H2 hp T e => ?_
    walk_at "v"
    exact q _ _ T .non
  | title u =>
    have ha : H a = some (.tup (V.str (Str.ofString "title") :: xs)) := ha
    walk_at "v"
    refine w_new fun p H2 hp T e => ?_
    walk_at "v"
    exact q _ _ T .non
  | add w =>
    have ha : H a = some (.tup (V.str (Str.ofString "add") :: xs)) := ha
    walk_at "v"
    refine w_new fun p H2 hp T e => ?_
    walk_at "v"
    exact q _ _ T .non
  | cut w =>
    have ha : H a = some (.tup (V.str (Str.ofString "cut") :: xs)) := ha
    walk_at "v"
    refine w_new fun p H2 hp T e => ?_
    walk_at "v"
    exact q _ _ T .non
  | hand w =>
    have ha : H a = some (.tup (V.str (Str.ofString "hand") :: xs)) := ha
    walk_at "v"
    refine w_new fun p H2 hp T e => ?_
    walk_at "v"
    exact q _ _ T .non
  | seen =>
    have ha : H a = some (.tup (V.str (Str.ofString "seen") :: xs)) := ha
    walk_at "v"
    refine w_new fun p H2 hp T e => ?_
    walk_at "v"
    exact q _ _ T .non
/-- _law_header: slots 0:value 1:author 2:number 3:stamp 4:seen 5:body 6:name 7:count 8:pairs 9:kind 10:lines -/
def t__law_header (K : PySem.W.Frag) : TS := (tSeq (tAsg (tVar 0) (gTup K 5 (gCons (gName 1) (gCons (gName 2) (gCons (gName 3) (gCons (gName 4) (gCons (gName 5) gNil)))))))
  (tSeq (tAsg (tBM K "str" (qJoin K) (tC (.str ", ")) (tCons (tLc (iTup K (tVar 4)) (gTup K 2 (gCons (gName 6) (gCons (gName 7) gNil))) tYes (tOp qAddS (tOp qAddS (tVar 6) (tC (.str " "))) (tCB qStrInt (tCons (tVar 7) tNil))) [6, 7]) tNil)) (gName 8))
  (tSeq (tAsg (tOp (rIxT K) (tVar 5) (tC (.int 0))) (gName 9))
  (tSeq (tAsg (tLst (tCons (tOp qAddS (tOp qAddS (tOp qAddS (tC (.str "From: ")) (tVar 1)) (tC (.str " "))) (tCB qStrInt (tCons (tVar 2) tNil))) (tCons (tOp qAddS (tC (.str "Stamp: ")) (tCB qStrInt (tCons (tVar 3) tNil))) (tCons (tOp qAddS (tC (.str "Seen: ")) (tVar 8)) (tCons (tOp qAddS (tC (.str "Kind: ")) (tVar 9)) tNil))))) (gName 10))
  (tSeq (tIfS (tTest (tOp (rIn K false) (tVar 9) (tLst (tCons (tC (.str "found")) (tCons (tC (.str "title")) tNil))))) (tDrop (tBM K "list" rAppend (tVar 10) (tCons (tOp qAddS (tC (.str "Title: ")) (tOp (rIxT K) (tVar 5) (tC (.int 1)))) tNil))) tNext)
  (tSeq (tIfS (tTest (tOp rEq (tVar 9) (tC (.str "found")))) (tDrop (tBM K "list" rAppend (tVar 10) (tCons (tOp qAddS (tC (.str "Members: ")) (tBM K "str" (qJoin K) (tC (.str ", ")) (tCons (tOp (rIxT K) (tVar 5) (tC (.int 2))) tNil))) tNil))) tNext)
  (tSeq (tIfS (tTest (tOp (rIn K false) (tVar 9) (tLst (tCons (tC (.str "reply")) (tCons (tC (.str "edit")) (tCons (tC (.str "recall")) (tCons (tC (.str "mark")) tNil))))))) (tDrop (tBM K "list" rAppend (tVar 10) (tCons (tOp qAddS (tOp qAddS (tOp qAddS (tC (.str "Ref: ")) (tOp (rIxT K) (tOp (rIxT K) (tVar 5) (tC (.int 1))) (tC (.int 0)))) (tC (.str " "))) (tCB qStrInt (tCons (tOp (rIxT K) (tOp (rIxT K) (tVar 5) (tC (.int 1))) (tC (.int 1))) tNil))) tNil))) tNext)
  (tSeq (tIfS (tTest (tOp (rIn K false) (tVar 9) (tLst (tCons (tC (.str "say")) (tCons (tC (.str "reply")) (tCons (tC (.str "edit")) tNil)))))) (tDrop (tBM K "list" rAppend (tVar 10) (tCons (tOp qAddS (tC (.str "Lines: ")) (tCB qStrInt (tCons (tCB (qLenSeq K) (tCons (tBM K "str" qSplit (tCall (spTextOf K) [] C8.E0 (tCons (tVar 5) tNil)) (tCons (tC (.str "\n")) tNil)) tNil)) tNil))) tNil))) tNext)
  (tSeq (tIfS (tTest (tOp rEq (tVar 9) (tC (.str "mark")))) (tDrop (tBM K "list" rAppend (tVar 10) (tCons (tOp qAddS (tC (.str "Word: ")) (tOp (rIxT K) (tVar 5) (tC (.int 2)))) tNil))) tNext)
  (tSeq (tIfS (tTest (tOp (rIn K false) (tVar 9) (tLst (tCons (tC (.str "add")) (tCons (tC (.str "cut")) (tCons (tC (.str "hand")) tNil)))))) (tDrop (tBM K "list" rAppend (tVar 10) (tCons (tOp qAddS (tC (.str "Name: ")) (tOp (rIxT K) (tVar 5) (tC (.int 1)))) tNil))) tNext)
  (tRet (tVar 10))))))))))))
theorem l__law_header (h : spLawHeader K vs H Q E) : vs.length = 1 := by obtain ⟨t, a, n, s, ps, b, sv, bv, rfl, _⟩ := h; rfl
theorem slen {a b : Str} {m k : Nat} (h : a.length ≤ m) (h' : b.length ≤ k) : (a ++ b).length ≤ m + k := by rw [Str.length_append]; omega
theorem w_addL {m k : Nat} {i j : Str} (h : i.length ≤ m) (h' : j.length ≤ k) (z : m + k ≤ 100000) (q : (i ++ j).length ≤ m + k → Q (.str (i ++ j)) H) : qAddS (.str i) (.str j) H Q := w_addS (sz (by omega)) (q (slen h h'))
theorem ref_line (u : Str) (m : Int) : lineW (Str.ofString "Ref") (pairW (u, m)) = Str.ofString "Ref: " ++ u ++ Str.ofString " " ++ Str.ofString (toString m) := by
  unfold lineW pairW
  rw [← Str.append_assoc, ← Str.append_assoc]
  rfl
theorem r__law_header (h : spLawHeader K vs H Q E) : t__law_header K { nx := fun _ H' => Q .non H', rt := Q } (start ["value", "author", "number", "stamp", "seen", "body", "name", "count", "pairs", "kind", "lines"] vs) H := by
  obtain ⟨t, a, n, s, ps, b, sv, bv, rfl, ht, dsv, dbv, ok, q⟩ := h
  obtain ⟨bt, bxs, rfl, _, hb, hbs⟩ := body_at dbv
  obtain ⟨c, hg⟩ := ok.bd
  have hn := name_le ok.nm
  obtain ⟨hu0, hu1⟩ := ok.nu
  have hs0 := ok.s0
  have hs1 := ok.s1
  unfold t__law_header
  walk_at "v"
  refine ⟨t, _, rfl, SqT.of ht, rfl, gc (w_name (gc (w_name (gc (w_name (gc (w_name (gc (w_name (gn ?_))))))))))⟩
  walk_at "v"
  cases id dsv with
  | @tup ta xs _ _ hta hxs =>
  have hxl : xs.length = ps.length := by rw [hxs.len, List.length_map]
  refine ⟨ta, rfl, ⟨_, SqT.of hta⟩, fun D hD => ?_⟩
  refine lc_tup (xs := xs) (fun i H' => Same H H' ∧ H' D = some (.lst (((ps.take i).map pairW).map V.str))) ⟨Same.upd (Same.refl H) hD, upd_same⟩ (fun i H' _ pv => SqT.of (pv.1 _ _ hta)) (fun i v H' hv pv => ?_) (fun H' pv => ?_)
  · obtain ⟨p, r, e1, rfl, e3⟩ := pairs_at hxs i v hv
    have hp := ok.ok p (List.mem_of_getElem? e1)
    have hn := name_le hp.1
    obtain ⟨hu0, hu1⟩ := hp.2
    refine ⟨r, _, rfl, SqT.of (pv.1 _ _ e3), rfl, gc (w_name (gc (w_name (gn ⟨rfl, w_yes (iteT_ ?_)⟩))))⟩
    walk_at "v"
    refine w_addL (m := 12) (k := 1) hn (Nat.le_refl _) (by decide) fun l1 => ?_
    walk_at "v"
    refine w_strInt (by omega) (by omega) ?_
    refine w_addL (k := 70) l1 (wI_len (i := p.2) (by omega) (by omega)) (by decide) fun l2 => ?_
    refine ⟨_, pv.2, ?_, ?_, ?_⟩
    · rw [List.length_map, List.length_map, List.length_take]
      have := ok.len
      exact Nat.lt_of_le_of_lt (show min i ps.length ≤ 1000 by omega) (by decide)
    · exact Same.upd pv.1 hD
    · rw [upd_same, List.take_add_one, e1, List.map_append, List.map_append]
      rfl
  · obtain ⟨s1, e1⟩ := pv
    rw [hxl, List.take_length] at e1
    have hb := s1 _ _ hb
    have hbs := hbs.same s1
    have dbv := dbv.same s1
    walk_at "v"
    · exact Nat.le_trans (join_pairs ok.ok ok.len) (by decide)
    walk_at "v"
    refine w_addL (m := 6) (k := 12) (Nat.le_refl _) hn (by decide) fun l1 => ?_
    walk_at "v"
    refine w_addL (k := 1) l1 (Nat.le_refl _) (by decide) fun l2 => ?_
    walk_at "v"
    refine w_strInt (by omega) (by omega) ?_
    refine w_addL (k := 70) l2 (wI_len (i := n) (by omega) (by omega)) (by decide) fun l3 => ?_
    walk_at "v"
    refine w_strInt (by omega) (by omega) ?_
    refine w_addL (m := 7) (k := 70) (Nat.le_refl _) (wI_len (i := s) (by omega) (by omega)) (by decide) fun l4 => ?_
    walk_at "v"
    refine w_addL (m := 6) (k := 85000) (Nat.le_refl _) (seenW_len ok.ok ok.len) (by decide) fun l5 => ?_
    walk_at "v"
    have hk : b.kind.length ≤ 10 := by cases b <;> (simp only [Bd.kind]; decide)
    refine w_addL (m := 6) (k := 10) (Nat.le_refl _) hk (by decide) fun l6 => ?_
    walk_at "v"
    refine w_new fun l H1 hl T1 e2 => ?_
    have nbl : bt ≠ l := ne_of_none hb hl
    have hb := T1 _ _ hb
    have hbs := (hbs.off hl).same T1
    have dbv := (dbv.off hl).same T1
    have e2 : H1 l = some (.lst ((List.zipWith lineW HEADS [pairW (a, n), wI s, seenW ps, b.kind]).map V.str)) := by
      rw [e2]
      unfold HEADS lineW pairW seenW
      simp only [List.zipWith_cons_cons, List.zipWith_nil_left, List.map_cons, List.map_nil]
      rw [← Str.append_assoc, ← Str.append_assoc]
      rfl
    walk_at "b"
    have eR : (Str.ofString "Ref: ").length = 5 := rfl
    have eT : (Str.ofString "Title: ").length = 7 := rfl
    have eM : (Str.ofString "Members: ").length = 9 := rfl
    have eL : (Str.ofString "Lines: ").length = 7 := rfl
    have eW : (Str.ofString "Word: ").length = 6 := rfl
    have eN : (Str.ofString "Name: ").length = 6 := rfl
    have e1 : (Str.ofString " ").length = 1 := rfl
    have fin : ∀ H2, Kp l H1 H2 → H2 l = some (.lst ((hdr a n s ps b).map V.str)) → Q (.ref l) H2 := fun H2 k e => q l H2 (s1.free hl) (s1.trans ((Same.kp T1).trans k |>.same hl)) e
    have seg : ∀ L : List Str, Str.ofString "x" = Str.ofString "x" → hdr a n s ps b = List.zipWith lineW HEADS [pairW (a, n), wI s, seenW ps, b.kind] ++ List.zipWith lineW b.fields b.parts := fun _ _ => by
      unfold hdr
      exact List.zipWith_append rfl
    have seg := seg [] rfl
    cases b with
    | found u ms =>
      obtain ⟨v1, v2, rfl, h1, h2⟩ := rest2 hbs
      obtain rfl := dn_str h1
      obtain ⟨m, rfl, nm, hm⟩ := strs_at h2
      have hb : H1 bt = some (.tup [V.str (Str.ofString "found"), V.str u, V.ref m]) := hb
      have hu := good_title hg.1
      have hj := join_names hg.2.2.1 hg.2.1
      have hj2 := parts_len hg (Txt.join (Str.ofString ", ") ms) (List.mem_cons_of_mem _ (List.mem_singleton.mpr rfl))
      have nml : m ≠ l := nm
      dsimp only [Bd.kind]
      walk_at "z"
      refine fin _ (by walk_at "kp") ?_
      rw [seg, List.map_append]
      walk_at "fin"
    | say t =>
      obtain ⟨v1, rfl, h1⟩ := rest1 hbs
      obtain rfl := dn_str h1
      have hb : H1 bt = some (.tup [V.str (Str.ofString "say"), V.str t]) := hb
      have ht := good_text hg
      have hc := count_le t
      have hcl := wI_len (i := Txt.count t (Str.ofString "\n") + 1) (by omega) (by omega)
      have hcl : (Str.ofString (toString (Txt.count t (Str.ofString "\n") + 1))).length ≤ 70 := hcl
      dsimp only [Bd.kind]
      walk_at "z"
      refine ⟨.ref bt, .say t, rfl, by walk_at "dn", fun w5 H5 T5 d5 => ?_⟩
      obtain rfl := dn_str (z := t) d5
      walk_at "z"
      refine w_splitV rfl (by omega) fun p6 H6 hp6 T6 e6 => ?_
      walk_at "z"
      rw [List.length_map, split_lines]
      walk_at "z"
      refine fin _ (by walk_at "kp") ?_
      rw [seg, List.map_append]
      walk_at "fin"
    | reply u m t =>
      obtain ⟨v1, v2, rfl, h1, h2⟩ := rest2 hbs
      obtain rfl := dn_str h2
      obtain ⟨r, rfl, nr, hr⟩ := ref_at h1
      have hb : H1 bt = some (.tup [V.str (Str.ofString "reply"), V.ref r, V.str t]) := hb
      have hm := hg.2.1
      have hu := name_le hg.1
      have nrl : r ≠ l := nr
      have hm0 := hm.1
      have hm1 := hm.2
      have hml := wI_len (i := m) (by omega) (by omega)
      have hml : (Str.ofString (toString m)).length ≤ 70 := hml
      have ht := good_text hg.2.2
      have hc := count_le t
      have hcl := wI_len (i := Txt.count t (Str.ofString "\n") + 1) (by omega) (by omega)
      have hcl : (Str.ofString (toString (Txt.count t (Str.ofString "\n") + 1))).length ≤ 70 := hcl
      dsimp only [Bd.kind]
      walk_at "z"
      refine ⟨.ref bt, .reply u m t, rfl, Dn.any (ok := Off l) (by walk_at "dn"), fun w5 H5 T5 d5 => ?_⟩
      obtain rfl := dn_str (z := t) d5
      walk_at "z"
      refine w_splitV rfl (by omega) fun p6 H6 hp6 T6 e6 => ?_
      walk_at "z"
      rw [List.length_map, split_lines]
      walk_at "z"
      refine fin _ (by walk_at "kp") ?_
      rw [seg, List.map_append]
      rw [show List.zipWith lineW (Bd.reply u m t).fields (Bd.reply u m t).parts = [lineW (Str.ofString "Ref") (pairW (u, m)), lineW (Str.ofString "Lines") (linesW t)] from rfl, ref_line]
      walk_at "fin"
    | edit u m t =>
      obtain ⟨v1, v2, rfl, h1, h2⟩ := rest2 hbs
      obtain rfl := dn_str h2
      obtain ⟨r, rfl, nr, hr⟩ := ref_at h1
      have hb : H1 bt = some (.tup [V.str (Str.ofString "edit"), V.ref r, V.str t]) := hb
      have hm := hg.2.1
      have hu := name_le hg.1
      have nrl : r ≠ l := nr
      have hm0 := hm.1
      have hm1 := hm.2
      have hml := wI_len (i := m) (by omega) (by omega)
      have hml : (Str.ofString (toString m)).length ≤ 70 := hml
      have ht := good_text hg.2.2
      have hc := count_le t
      have hcl := wI_len (i := Txt.count t (Str.ofString "\n") + 1) (by omega) (by omega)
      have hcl : (Str.ofString (toString (Txt.count t (Str.ofString "\n") + 1))).length ≤ 70 := hcl
      dsimp only [Bd.kind]
      walk_at "z"
      refine ⟨.ref bt, .edit u m t, rfl, Dn.any (ok := Off l) (by walk_at "dn"), fun w5 H5 T5 d5 => ?_⟩
      obtain rfl := dn_str (z := t) d5
      walk_at "z"
      refine w_splitV rfl (by omega) fun p6 H6 hp6 T6 e6 => ?_
      walk_at "z"
      rw [List.length_map, split_lines]
      walk_at "z"
      refine fin _ (by walk_at "kp") ?_
      rw [seg, List.map_append]
      rw [show List.zipWith lineW (Bd.edit u m t).fields (Bd.edit u m t).parts = [lineW (Str.ofString "Ref") (pairW (u, m)), lineW (Str.ofString "Lines") (linesW t)] from rfl, ref_line]
      walk_at "fin"
    | recall u m =>
      obtain ⟨v1, rfl, h1⟩ := rest1 hbs
      obtain ⟨r, rfl, nr, hr⟩ := ref_at h1
      have hb : H1 bt = some (.tup [V.str (Str.ofString "recall"), V.ref r]) := hb
      have hm := hg.2
      have hu := name_le hg.1
      have nrl : r ≠ l := nr
      have hm0 := hm.1
      have hm1 := hm.2
      have hml := wI_len (i := m) (by omega) (by omega)
      have hml : (Str.ofString (toString m)).length ≤ 70 := hml
      dsimp only [Bd.kind]
      walk_at "z"
      refine fin _ (by walk_at "kp") ?_
      rw [seg, List.map_append]
      rw [show List.zipWith lineW (Bd.recall u m).fields (Bd.recall u m).parts = [lineW (Str.ofString "Ref") (pairW (u, m))] from rfl, ref_line]
      walk_at "fin"
    | mark u m w =>
      obtain ⟨v1, v2, rfl, h1, h2⟩ := rest2 hbs
      obtain rfl := dn_str h2
      obtain ⟨r, rfl, nr, hr⟩ := ref_at h1
      have hb : H1 bt = some (.tup [V.str (Str.ofString "mark"), V.ref r, V.str w]) := hb
      have hm := hg.2.1
      have hu := name_le hg.1
      have nrl : r ≠ l := nr
      have hm0 := hm.1
      have hm1 := hm.2
      have hml := wI_len (i := m) (by omega) (by omega)
      have hml : (Str.ofString (toString m)).length ≤ 70 := hml
      have hw := name_le hg.2.2
      dsimp only [Bd.kind]
      walk_at "z"
      refine fin _ (by walk_at "kp") ?_
      rw [seg, List.map_append]
      rw [show List.zipWith lineW (Bd.mark u m w).fields (Bd.mark u m w).parts = [lineW (Str.ofString "Ref") (pairW (u, m)), lineW (Str.ofString "Word") w] from rfl, ref_line]
      walk_at "fin"
    | title w =>
      obtain ⟨v1, rfl, h1⟩ := rest1 hbs
      obtain rfl := dn_str h1
      have hb : H1 bt = some (.tup [V.str (Str.ofString "title"), V.str w]) := hb
      have hw := parts_len hg w (List.mem_singleton.mpr rfl)
      dsimp only [Bd.kind]
      walk_at "z"
      refine fin _ (by walk_at "kp") ?_
      rw [seg, List.map_append]
      walk_at "fin"
    | add w =>
      obtain ⟨v1, rfl, h1⟩ := rest1 hbs
      obtain rfl := dn_str h1
      have hb : H1 bt = some (.tup [V.str (Str.ofString "add"), V.str w]) := hb
      have hw := parts_len hg w (List.mem_singleton.mpr rfl)
      dsimp only [Bd.kind]
      walk_at "z"
      refine fin _ (by walk_at "kp") ?_
      rw [seg, List.map_append]
      walk_at "fin"
    | cut w =>
      obtain ⟨v1, rfl, h1⟩ := rest1 hbs
      obtain rfl := dn_str h1
      have hb : H1 bt = some (.tup [V.str (Str.ofString "cut"), V.str w]) := hb
      have hw := parts_len hg w (List.mem_singleton.mpr rfl)
      dsimp only [Bd.kind]
      walk_at "z"
      refine fin _ (by walk_at "kp") ?_
      rw [seg, List.map_append]
      walk_at "fin"
    | hand w =>
      obtain ⟨v1, rfl, h1⟩ := rest1 hbs
      obtain rfl := dn_str h1
      have hb : H1 bt = some (.tup [V.str (Str.ofString "hand"), V.str w]) := hb
      have hw := parts_len hg w (List.mem_singleton.mpr rfl)
      dsimp only [Bd.kind]
      walk_at "z"
      refine fin _ (by walk_at "kp") ?_
      rw [seg, List.map_append]
      walk_at "fin"
    | seen =>
      obtain rfl := rest0 hbs
      have hb : H1 bt = some (.tup [V.str (Str.ofString "seen")]) := hb
      dsimp only [Bd.kind]
      walk_at "z"
      refine fin _ (by walk_at "kp") ?_
      rw [seg, List.map_append]
      walk_at "fin"
end

/-! ### signs of header lines -/
section
variable {K : PySem.W.Frag} {C : Addr} {vs : List V} {H : Hp} {Q : VK} {E : XK}
/-- a list of texts that may be compared -/
theorem lay_strs {l : List Str} (h : ∀ z ∈ l, ascii z = true) : SeqAt.shaped (.list (l.map .str)) = true := by
  unfold SeqAt.shaped
  have e : ∀ l : List Str, (∀ z ∈ l, ascii z = true) → PyData.canLayAll0 (l.map .str) = true ∧ PyData.depthAll (l.map .str) = 0 := by
    intro l
    induction l with
    | nil => intro _; exact ⟨by rw [List.map_nil, PyData.canLayAll0], by rw [List.map_nil, PyData.depthAll]⟩
    | cons z l ih =>
      intro h
      obtain ⟨h1, h2⟩ := ih fun y hy => h y (List.mem_cons_of_mem _ hy)
      rw [List.map_cons, PyData.canLayAll0, PyData.depthAll, PyData.canLay0, PyData.depth, h1, h2, strOk_of (h z (List.mem_cons_self ..))]
      exact ⟨rfl, rfl⟩
  obtain ⟨h1, h2⟩ := e _ h
  rw [PyData.canLay0, PyData.depth, h1, h2]
  rfl
theorem ascii_of (z : String) : ascii (Str.ofString z) = true := by
  unfold ascii
  rw [List.all_eq_true]
  intro c hc
  have h : c ∈ z.toList.map fun x => x.toNat := by rw [Str.ofString_eq_toList] at hc; simpa using hc
  obtain ⟨x, _, rfl⟩ := List.mem_map.mp h
  have := x.valid
  exact decide_eq_true (by rcases this with h | ⟨_, h⟩ <;> (have e : x.toNat = x.val.toNat := rfl; omega))
theorem ascii_app {a b : Str} (h : ascii a = true) (h' : ascii b = true) : ascii (a ++ b) = true := by
  unfold ascii at h h' ⊢
  rw [tl_append, List.all_append, h, h']
  rfl
theorem ascii_join {a : Str} (h : ascii a = true) : ∀ {ys : List Str}, (∀ y ∈ ys, ascii y = true) → ascii (Txt.join a ys) = true := by
  intro ys hy
  rw [join_eq]
  induction ys with
  | nil => rfl
  | cons y ys ih =>
    cases ys with
    | nil => exact hy y (List.mem_cons_self ..)
    | cons z ys => exact ascii_app (ascii_app (hy y (List.mem_cons_self ..)) h) (ih fun w hw => hy w (List.mem_cons_of_mem _ hw))
theorem ascii_wI (i : Int) : ascii (wI i) = true := ascii_of _
theorem ascii_pair {p : Str × Int} (h : Nm p.1) : ascii (pairW p) = true := ascii_app (ascii_app (name_ascii h) (ascii_of _)) (ascii_of _)
theorem ascii_parts {c : Str} : ∀ {b : Bd}, Bd.good c b → ∀ p ∈ b.parts, ascii p = true
  | .found t ms, h, p, hp => by
    rcases List.mem_cons.mp hp with rfl | hp
    · exact lineC_ascii h.1.2
    · rw [List.mem_singleton.mp hp]
      exact ascii_join (ascii_of _) fun m hm => name_ascii (h.2.2.1 m hm)
  | .say t, h, p, hp => by rw [List.mem_singleton.mp hp]; exact ascii_of _
  | .reply a n t, h, p, hp => by
    rcases List.mem_cons.mp hp with rfl | hp
    · exact ascii_pair (p := (a, n)) h.1
    · rw [List.mem_singleton.mp hp]; exact ascii_of _
  | .edit a n t, h, p, hp => by
    rcases List.mem_cons.mp hp with rfl | hp
    · exact ascii_pair (p := (a, n)) h.1
    · rw [List.mem_singleton.mp hp]; exact ascii_of _
  | .recall a n, h, p, hp => by rw [List.mem_singleton.mp hp]; exact ascii_pair (p := (a, n)) h.1
  | .mark a n w, h, p, hp => by
    rcases List.mem_cons.mp hp with rfl | hp
    · exact ascii_pair (p := (a, n)) h.1
    · rw [List.mem_singleton.mp hp]; exact name_ascii h.2.2
  | .title t, h, p, hp => by rw [List.mem_singleton.mp hp]; exact lineC_ascii h.2
  | .add w, h, p, hp => by rw [List.mem_singleton.mp hp]; exact name_ascii h
  | .cut w, h, p, hp => by rw [List.mem_singleton.mp hp]; exact name_ascii h
  | .hand w, h, p, hp => by rw [List.mem_singleton.mp hp]; exact name_ascii h
  | .seen, h, p, hp => nomatch hp
theorem ascii_fields (b : Bd) : ∀ f ∈ HEADS ++ b.fields, ascii f = true := by
  intro f hf
  rcases List.mem_append.mp hf with hf | hf
  · simp only [HEADS, List.mem_cons, List.not_mem_nil, or_false] at hf
    rcases hf with rfl | rfl | rfl | rfl <;> exact ascii_of _
  · cases b <;> simp only [Bd.fields, List.mem_cons, List.not_mem_nil, or_false] at hf
    all_goals first | (rcases hf with rfl | rfl <;> exact ascii_of _) | (subst hf; exact ascii_of _) | exact hf.elim
theorem ascii_hdr {a : Str} {n s : Int} {ps : List (Str × Int)} {b : Bd} (ok : HdrOk a n s ps b) : ∀ z ∈ hdr a n s ps b, ascii z = true := by
  obtain ⟨c, hg⟩ := ok.bd
  intro z hz
  unfold hdr at hz
  obtain ⟨i, hi⟩ := List.mem_iff_getElem?.mp hz
  rw [List.getElem?_zipWith] at hi
  cases h1 : (HEADS ++ b.fields)[i]? with
  | none => rw [h1] at hi; cases hi
  | some f =>
    cases h2 : ([pairW (a, n), wI s, seenW ps, b.kind] ++ b.parts)[i]? with
    | none => rw [h1, h2] at hi; cases hi
    | some p =>
      rw [h1, h2] at hi
      have e := Option.some.inj hi
      rw [← e]
      refine ascii_app (ascii_app (ascii_fields b f (List.mem_of_getElem? h1)) (ascii_of _)) ?_
      have hp := List.mem_of_getElem? h2
      rcases List.mem_append.mp hp with hp | hp
      · simp only [List.mem_cons, List.not_mem_nil, or_false] at hp
        rcases hp with rfl | rfl | rfl | rfl
        · exact ascii_pair (p := (a, n)) ok.nm
        · exact ascii_of _
        · refine ascii_join (ascii_of _) fun y hy => ?_
          obtain ⟨q, hq, rfl⟩ := List.mem_map.mp hy
          exact ascii_pair (ok.ok q hq).1
        · cases b <;> exact ascii_of _
      · exact ascii_parts hg p hp
theorem hdr_ok {a : Str} {n s : Int} {ps : List (Str × Int)} {b : Bd} (v : ValOk a n s ps b) : HdrOk a n s ps b := by
  have h := v.st
  have hn := v.nu
  exact ⟨v.nm, v.nu, by rcases h with ⟨_, _, h, _⟩ | ⟨_, h3, h4, h5⟩ <;> omega, by rcases h with ⟨_, _, h, _⟩ | ⟨_, h3, h4, h5⟩ <;> omega, Nat.le_trans v.pk.len (by decide), v.pk.ok, ⟨a, v.bd⟩⟩
theorem dn_list {ok : Addr → Prop} {l : Addr} {ys : List Str} (h : H l = some (.lst (ys.map V.str))) (o : ok l) : Dn ok H (.ref l) (.list (ys.map .str)) := .lst o h (dnall_strs ys)
theorem lay_seen' {a : Str} {n : Int} {ps : List (Str × Int)} (h : PsOk a n ps) : Lay 2 (seenD ps) := lay_tup fun d hd => by
  obtain ⟨q, hq, rfl⟩ := List.mem_map.mp hd
  exact lay_ref (h.ok q hq).1
theorem hdr_len (a : Str) (n s : Int) (ps : List (Str × Int)) (b : Bd) : 4 ≤ (hdr a n s ps b).length ∧ (hdr a n s ps b).length ≤ 6 := by
  have h := parts_num b
  unfold hdr
  rw [List.length_zipWith, List.length_append, List.length_append, h.1]
  have e : HEADS.length = 4 := rfl
  have e2 : [pairW (a, n), wI s, seenW ps, b.kind].length = 4 := rfl
  omega
end

/-! ### mail -/
def Bd.textS : Bd → Option Str
  | .say t => some t | .reply _ _ t => some t | .edit _ _ t => some t | _ => none
theorem text_some {b : Bd} {t : Str} (h : b.textS = some t) : b.text = .str t := by cases b <;> simp [Bd.textS] at h <;> (subst h; rfl)
theorem text_none {b : Bd} (h : b.textS = none) : b.text = .none := by cases b <;> simp [Bd.textS] at h <;> rfl
theorem text_good {b : Bd} {c t : Str} (h : b.textS = some t) (g : Bd.good c b) : Tx t := by cases b <;> simp [Bd.textS] at h <;> subst h <;> first | exact g | exact g.2.2
def rowsW (t : Str) : List Str := (Txt.split t (Str.ofString "\n")).map fun r => Str.ofString "|" ++ r
def tailW (o : Option Str) : List Str := [Str.ofString ""] ++ (match o with | some t => rowsW t | none => []) ++ [Str.ofString "."]
def Folds : List (List Str) → List Str → Prop
  | [], [] => True
  | ps :: pss, h :: hs => Folded ps h.cps.toList 60 ∧ Folds pss hs
  | _, _ => False
theorem Folds.snoc : ∀ {pss : List (List Str)} {hs : List Str} {ps : List Str} {h : Str}, Folds pss hs → Folded ps h.cps.toList 60 → Folds (pss ++ [ps]) (hs ++ [h])
  | [], [], _, _, _, f => ⟨f, trivial⟩
  | p :: pss, g :: hs, _, _, h, f => ⟨h.1, Folds.snoc h.2 f⟩
  | [], _ :: _, _, _, h, _ => h.elim
  | _ :: _, [], _, _, h, _ => h.elim
theorem Folds.len : ∀ {pss : List (List Str)} {hs : List Str}, Folds pss hs → pss.length = hs.length
  | [], [], _ => rfl
  | p :: pss, g :: hs, h => congrArg (· + 1) (Folds.len h.2)
  | [], _ :: _, h => h.elim
  | _ :: _, [], h => h.elim
theorem Folds.at : ∀ {pss : List (List Str)} {hs : List Str} {i : Nat} {h : Str}, Folds pss hs → hs[i]? = some h → ∃ ps, pss[i]? = some ps ∧ Folded ps h.cps.toList 60
  | [], [], i, h, _, e => by simp at e
  | p :: pss, g :: hs, 0, h, f, e => by cases Option.some.inj e; exact ⟨p, rfl, f.1⟩
  | p :: pss, g :: hs, i + 1, h, f, e => Folds.at (i := i) f.2 e
  | [], _ :: _, _, _, h, _ => h.elim
  | _ :: _, [], _, _, h, _ => h.elim
def MailIs (ls : List Str) (hs : List Str) (o : Option Str) : Prop := ∃ pss, Folds pss hs ∧ ls = pss.flatten ++ tailW o
theorem split_sub {a b y : Str} (h : y ∈ Txt.split a b) : (∀ c ∈ y.cps.toList, c ∈ a.cps.toList) ∧ y.length ≤ a.length := by
  unfold Txt.split at h
  split at h
  · rw [List.mem_singleton.mp h]
    exact ⟨fun _ h => h, Nat.le_refl _⟩
  · split at h
    · rw [List.mem_singleton.mp h]
      exact ⟨fun _ h => h, Nat.le_refl _⟩
    · unfold Builtin.Str.partsBetween at h
      obtain ⟨⟨i, j⟩, _, rfl⟩ := List.mem_map.mp h
      refine ⟨fun c hc => ?_, ?_⟩
      · unfold Builtin.Str.strSub at hc
        simp only [Array.toList_extract] at hc
        exact List.mem_of_mem_drop (List.mem_of_mem_take hc)
      · show (a.cps.extract i j).size ≤ a.cps.size
        rw [Array.size_extract]
        omega
def spMail (K : PySem.W.Frag) (C : Addr) : Sp := fun vs H Q _ => ∃ (x : Addr) (a : Str) (n s : Int) (ps : List (Str × Int)) (b : Bd) (sv bv : V), vs = [.ref x] ∧ LetterAt C H x a n s ps sv bv ∧ Dn Any H sv (seenD ps) ∧ Dn Any H bv b.toD ∧ HdrOk a n s ps b ∧
  ∀ l H' ls, H l = none → Same H H' → H' l = some (.lst (ls.map V.str)) → ls.length ≤ 1000000 → MailIs ls (hdr a n s ps b) b.textS → Q (.ref l) H'
theorem hdr_line {a : Str} {n s : Int} {ps : List (Str × Int)} {b : Bd} (ok : HdrOk a n s ps b) : ∀ h ∈ hdr a n s ps b, h.length ≤ ps.length * 85 + 1100 := by
  obtain ⟨c, hg⟩ := ok.bd
  have hu := ok.nu
  have hs0 := ok.s0
  have hs1 := ok.s1
  intro h hh
  unfold hdr at hh
  obtain ⟨i, hi⟩ := List.mem_iff_getElem?.mp hh
  rw [List.getElem?_zipWith] at hi
  cases h1 : (HEADS ++ b.fields)[i]? with
  | none => rw [h1] at hi; cases hi
  | some f =>
    cases h2 : ([pairW (a, n), wI s, seenW ps, b.kind] ++ b.parts)[i]? with
    | none => rw [h1, h2] at hi; cases hi
    | some p =>
      rw [h1, h2] at hi
      have e := Option.some.inj hi
      rw [← e]
      have hf := fields_len b f (List.mem_of_getElem? h1)
      have hp : p.length ≤ ps.length * 85 + 1000 := by
        rcases List.mem_append.mp (List.mem_of_getElem? h2) with hp | hp
        · simp only [List.mem_cons, List.not_mem_nil, or_false] at hp
          rcases hp with rfl | rfl | rfl | rfl
          · have := ref_len ok.nm ok.nu
            omega
          · have := wI_len hs0 (show s ≤ 100000000000000000000 by omega)
            omega
          · have h1 := join_len (Str.ofString ", ") (ps.map pairW)
            have h2 := pairs_len ok.ok
            have e : (Str.ofString ", ").length = 2 := rfl
            rw [List.length_map, e] at h1
            unfold seenW
            omega
          · have : b.kind.length ≤ 10 := by cases b <;> (simp only [Bd.kind]; decide)
            omega
        · have := parts_len hg p hp
          omega
      show (f ++ Str.ofString ": " ++ p).length ≤ _
      rw [Str.length_append, Str.length_append]
      have el : (Str.ofString ": ").length = 2 := rfl
      omega
section
variable {K : PySem.W.Frag} {C : Addr} {vs : List V} {H : Hp} {Q : VK} {E : XK}
theorem w_extV {l b : Addr} {xs zs : List V} (h : H l = some (.lst xs)) (h' : H b = some (.lst zs)) (z : xs.length + zs.length ≤ 1000000) (q : ∀ H2, Kp l H H2 → H2 l = some (.lst (xs ++ zs)) → Q .non H2) : rExtend (.ref l) [.ref b] H Q :=
  ⟨l, b, xs, zs, rfl, rfl, h, h', Nat.le_trans z (by decide), q _ Kp.refl.updp upd_same⟩
/-- mail_lines: slots 0:letter 1:lines 2:line 3:text -/
def t_mail_lines (K : PySem.W.Frag) (C_Letter : Addr) : TS := (tSeq (tAsg (tLst tNil) (gName 1))
  (tSeq (tFor (iList K (tCall (spHeader K C_Letter) [] C8.E0 (tCons (tVar 0) tNil))) (gName 2) (tDrop (tBM K "list" rExtend (tVar 1) (tCons (tCall (spFold K) [] C8.E0 (tCons (tVar 2) (tCons (tC v_WIDTH) tNil))) tNil))))
  (tSeq (tDrop (tBM K "list" rAppend (tVar 1) (tCons (tC (.str "")) tNil)))
  (tSeq (tAsg (tCall (spTextOf K) [] C8.E0 (tCons (tFld K (tVar 0) "body") tNil)) (gName 3))
  (tSeq (tIfS (tTest (tOp qNotN (tVar 3) (tC .non))) (tDrop (tBM K "list" rExtend (tVar 1) (tCons (tLc (iList K (tBM K "str" qSplit (tVar 3) (tCons (tC (.str "\n")) tNil))) (gName 2) tYes (tOp qAddS (tC v_BAR) (tVar 2)) [2]) tNil))) tNext)
  (tSeq (tDrop (tBM K "list" rAppend (tVar 1) (tCons (tC v_PERIOD) tNil)))
  (tRet (tVar 1))))))))
theorem l_mail_lines (h : spMail K C vs H Q E) : vs.length = 1 := by obtain ⟨x, a, n, s, ps, b, sv, bv, rfl, _⟩ := h; rfl
theorem r_mail_lines (LC : IsC_Letter K C) (h : spMail K C vs H Q E) : t_mail_lines K C { nx := fun _ H' => Q .non H', rt := Q } (start ["letter", "lines", "line", "text"] vs) H := by
  obtain ⟨x, a, n, s, ps, b, sv, bv, rfl, hL, dsv, dbv, ok, q⟩ := h
  obtain ⟨c, hg⟩ := ok.bd
  unfold t_mail_lines
  walk_at "v"
  refine w_new fun l H1 hl T1 e1 => ?_
  walk_at "v"
  refine w_for (w_iList ?_)
  walk_at "v"
  refine ⟨x, a, n, s, ps, b, sv, bv, rfl, hL.same T1, dsv.same T1, dbv.same T1, ok, fun hd H2 hhd T2 e2 => ?_⟩
  have nlh : hd ≠ l := (ne_of_none e1 hhd).symm
  have hhl : ∀ h ∈ hdr a n s ps b, h.length ≤ 86100 := fun h hh => by
    have h1 := hdr_line ok h hh
    have h2 := ok.len
    omega
  have hlen : (hdr a n s ps b).length ≤ 6 := by
    have := parts_num b
    unfold hdr
    rw [List.length_zipWith, List.length_append, List.length_append, this.1]
    have e : HEADS.length = 4 := rfl
    omega
  generalize hdr a n s ps b = hs at e2 q hhl hlen
  have hL2 : LetterAt C H2 x a n s ps sv bv := (hL.same T1).same T2
  obtain ⟨dx, d, hx, hdd⟩ := id hL2
  have nxl : x ≠ l := fun e => by
    subst e
    have := T2 _ _ e1
    rw [this] at hx
    cases hx
  have dbv2 : Dn (Off l) H2 bv b.toD := ((dbv.off hl).same T1).same T2
  refine w_lstF (SqL.of e2) (fun i σ H' => (∃ y2, σ = [some (.ref x), some (.ref l), y2, none]) ∧ ∃ pss : List (List Str), Folds pss (hs.take i) ∧ pss.flatten.length ≤ i * 90000 ∧ H' l = some (.lst (pss.flatten.map V.str)) ∧ Kp l H2 H') ⟨⟨_, rfl⟩, [], trivial, Nat.zero_le _, T2 _ _ e1, Kp.refl⟩ (fun i σ H' _ ⟨_, _, _, _, _, k⟩ => SqL.of (k _ _ nlh e2)) (fun i y σ H' hi pv => ?_) (fun σ H' pv => ?_)
  · obtain ⟨⟨y2, rfl⟩, pss, hf, hpl, hel, hk⟩ := pv
    rw [List.getElem?_map] at hi
    obtain ⟨z, hz, rfl⟩ := Option.map_eq_some_iff.mp hi
    have hil : i < hs.length := (List.getElem?_eq_some_iff.mp hz).1
    have hzl := hhl z (List.mem_of_getElem? hz)
    walk_at "v"
    refine ⟨z, 60, rfl, by decide, by omega, fun w ps' H3 hw T3 e3 pl fo => ?_⟩
    walk_at "v"
    refine w_extV (T3 _ _ hel) e3 (by rw [List.length_map, List.length_map]; omega) fun H4 k4 e4 => ?_
    walk_at "v"
    refine ⟨⟨_, rfl⟩, pss ++ [ps'], ?_, ?_, ?_, (hk.trans (Same.kp T3)).trans k4⟩
    · rw [List.take_add_one, hz]
      exact hf.snoc fo
    · rw [List.flatten_append, List.length_append]
      simp only [List.flatten_cons, List.flatten_nil, List.append_nil]
      omega
    · rw [e4, List.flatten_append, List.map_append]
      simp only [List.flatten_cons, List.flatten_nil, List.append_nil]
  · obtain ⟨⟨y2, rfl⟩, pss, hf, hpl, hel, hk⟩ := pv
    rw [List.length_map] at hf hpl
    rw [List.take_length] at hf
    have hpl : pss.flatten.length ≤ 540000 := by omega
    have fin : ∀ H3 (r : List Str), Kp l H2 H3 → r.length ≤ 1000 → pss.flatten ++ r = pss.flatten ++ tailW b.textS → H3 l = some (.lst ((pss.flatten ++ r).map V.str)) → Q (.ref l) H3 := fun H3 r k hr e h =>
      q l H3 _ hl (((Same.kp T1).trans ((Same.kp T2).trans k)).same hl) h (by rw [List.length_append]; omega) ⟨pss, hf, e⟩
    walk_at "v"
    refine w_app hel (by rw [List.length_map]; exact Nat.lt_of_le_of_lt hpl (by decide)) ?_
    obtain ⟨H3, g3, k3, e3⟩ : ∃ H3, H3 = upd H' l (.lst (pss.flatten.map V.str ++ [V.str (Str.ofString "")])) ∧ Kp l H' H3 ∧ H3 l = some (.lst (pss.flatten.map V.str ++ [V.str (Str.ofString "")])) := ⟨_, rfl, Kp.refl.updp, upd_same⟩
    rw [← g3]
    walk_at "v"
    refine w_fldV rfl (k3 _ _ nxl (hk _ _ nxl hx)) LC.cl LC.n_body lfs_body ?_
    walk_at "v"
    refine ⟨bv, b, rfl, ((dbv2.kp hk).kp k3).any, fun w H4 T4 d4 => ?_⟩
    walk_at "v"
    have e4 := T4 _ _ e3
    have k24 : Kp l H2 H4 := (hk.trans k3).trans (Same.kp T4)
    cases ht : b.textS with
    | none =>
      rw [text_none ht] at d4
      cases d4
      walk_at "if" <;> intro h
      · exact absurd rfl h
      walk_at "v"
      refine w_app e4 (by rw [List.length_append, List.length_map]; exact Nat.lt_of_le_of_lt (Nat.add_le_add_right hpl _) (by decide)) ?_
      walk_at "v"
      refine fin _ (tailW b.textS) k24.updp (by rw [ht]; decide) rfl ?_
      rw [upd_same, ht, List.map_append, List.append_assoc]
      rfl
    | some t =>
      rw [text_some ht] at d4
      cases d4
      have htl := good_text (text_good ht hg)
      walk_at "if" <;> intro h
      · walk_at "v"
        refine w_splitV rfl (by omega) fun r H5 hr T5 e5 => ?_
        have hrl : (Txt.split t (Str.ofString "\n")).length ≤ 402 := by
          have := PyProof.Rows.split_le t (Str.ofString "\n")
          omega
        refine lcL (its := (Txt.split t (Str.ofString "\n")).map V.str) (fun H6 T6 => SqL.of (T6 _ _ e5)) (by rw [List.length_map]; exact Nat.lt_of_le_of_lt hrl (by decide)) (fun v => match v with | .str y => .str (Str.ofString "|" ++ y) | v => v) (fun _ => true) (fun x => by exact rfl) (fun x hx H6 _ R r => ?_) (fun x hx _ H6 _ R r => ?_) (fun D H6 hD T6 e6 => ?_)
        · exact r H6 (Same.refl H6)
        · obtain ⟨y, hy, rfl⟩ := List.mem_map.mp hx
          have hyl := (split_sub hy).2
          walk_at "v"
          refine w_addS (sz (by show 1 + y.length ≤ _; omega)) ?_
          exact r H6 (Same.refl H6)
        · have e7 : H6 D = some (.lst ((rowsW t).map V.str)) := by
            rw [e6]
            unfold rowsW
            rw [List.filter_eq_self.mpr (fun _ _ => rfl), List.map_map, List.map_map]
            rfl
          have hrw : (rowsW t).length ≤ 402 := by
            unfold rowsW
            rw [List.length_map]
            exact hrl
          walk_at "v"
          refine w_extV (T6 _ _ (T5 _ _ e4)) e7 (by simp only [List.length_append, List.length_map, List.length_cons, List.length_nil]; omega) fun H7 k7 e8 => ?_
          walk_at "v"
          refine w_app e8 (by simp only [List.length_append, List.length_map, List.length_cons, List.length_nil]; exact Nat.lt_of_le_of_lt (show _ ≤ 600000 by omega) (by decide)) ?_
          walk_at "v"
          refine fin _ (tailW b.textS) ((((k24.trans (Same.kp T5)).trans (Same.kp T6)).trans k7).updp) ?_ rfl ?_
          · rw [ht]
            show ([Str.ofString ""] ++ rowsW t ++ [Str.ofString "."]).length ≤ 1000
            simp only [List.length_append, List.length_cons, List.length_nil]
            omega
          · rw [upd_same, ht]
            show _ = some (HO.lst ((pss.flatten ++ ([Str.ofString ""] ++ rowsW t ++ [Str.ofString "."])).map V.str))
            simp only [List.map_append, List.append_assoc]
            rfl
      · exact nomatch h
end

/-! ### the law on mail -/
def spLawMail (K : PySem.W.Frag) : Sp := fun vs H Q _ => ∃ (l t : Addr) (ls : List Str) (a : Str) (n s : Int) (ps : List (Str × Int)) (b : Bd) (sv bv : V), vs = [.ref l, .ref t] ∧ H l = some (.lst (ls.map V.str)) ∧ ls.length ≤ 1000000 ∧ MailIs ls (hdr a n s ps b) b.textS ∧
  H t = some (.tup [.str a, .int n, .int s, sv, bv]) ∧ Dn Any H sv (seenD ps) ∧ Dn Any H bv b.toD ∧ HdrOk a n s ps b ∧ ps.length ≤ 60 ∧ ∀ H', Same H H' → Q (.bl true) H'
def spLaw (K : PySem.W.Frag) : Sp := fun vs H Q _ => ∃ (a : Addr) (ns : List Int), vs = [.ref a] ∧ SqL K H a (ns.map V.int) ∧ ns.length ≤ 63 ∧ ∀ H', Q (.bl true) H'
theorem folded_ne : ∀ {ps : List Str} {L : List Nat} {w : Nat}, Folded ps L w → ps ≠ []
  | [], _, _, h => h.elim
  | _ :: _, _, _, _ => fun e => nomatch e
theorem folded_sp : ∀ {ps : List Str} {L : List Nat} {w : Nat}, Folded ps L w → ∀ p ∈ ps.tail, p.cps.toList.head? = some 32
  | [], _, _, h => h.elim
  | [p], _, _, _ => fun q hq => nomatch hq
  | p :: q :: ps, L, w, h => by
    obtain ⟨n, _, n0, n1, _, n3, _, _, hf⟩ := h
    intro r hr
    rcases List.mem_cons.mp hr with rfl | hr
    · have hh : (L.drop n).head? = some 32 := by rw [List.head?_drop]; exact n3
      cases ps with
      | nil =>
        rw [hf.1]
        exact hh
      | cons x xs =>
        obtain ⟨m, e, m0, _⟩ := hf
        rw [e, List.head?_take, if_neg (by omega)]
        exact hh
    · exact folded_sp hf r hr
theorem folded_head : ∀ {ps : List Str} {L : List Nat} {w : Nat} {c : Nat}, Folded ps L w → L.head? = some c → ∃ p r, ps = p :: r ∧ p.cps.toList.head? = some c
  | [], _, _, _, h, _ => h.elim
  | [p], L, _, c, h, e => ⟨p, [], rfl, by rw [h.1]; exact e⟩
  | p :: q :: ps, L, w, c, h, e => by
    obtain ⟨n, e2, n0, _⟩ := h
    exact ⟨p, _, rfl, by rw [e2, List.head?_take, if_neg (by omega)]; exact e⟩
theorem folded_len : ∀ {ps : List Str} {L : List Nat} {w : Nat}, Folded ps L w → ps.length ≤ L.length + 1
  | [], _, _, h => h.elim
  | [p], _, _, _ => by show 1 ≤ _; omega
  | p :: q :: ps, L, w, h => by
    obtain ⟨n, _, n0, n1, _, _, _, _, hf⟩ := h
    have := folded_len hf
    rw [List.length_drop] at this
    rw [List.length_cons]
    omega
/-- does a line begin with a space -/
def spL (z : Str) : Bool := z.cps.toList.head? == some 32
theorem sp_cut (z : Str) : decide (cutS z none (some 1) ≠ Str.ofString " ") = !spL z := by
  have e : (cutS z none (some 1)).cps.toList = z.cps.toList.take 1 := cutS_to (i := 1) (by decide)
  have e2 : (Str.ofString " ").cps.toList = [32] := by decide
  have key : cutS z none (some 1) = Str.ofString " " ↔ spL z = true := by
    unfold spL
    constructor
    · intro q
      rw [q, e2] at e
      cases h : z.cps.toList with
      | nil => rw [h] at e; cases e
      | cons c r =>
        rw [h] at e
        injection e with e3
        rw [← e3]
        rfl
    · intro q
      cases h : z.cps.toList with
      | nil => rw [h] at q; cases q
      | cons c r =>
        rw [h] at q e
        have hc : c = 32 := by simpa using q
        subst hc
        exact strE (by rw [e, e2]; rfl)
  cases h : spL z with
  | true => simp [key.mpr h]
  | false =>
    have n : ¬ (cutS z none (some 1) = Str.ofString " ") := fun q => by rw [key.mp q] at h; cases h
    simp [n]
theorem hdr_head {a : Str} {n s : Int} {ps : List (Str × Int)} {b : Bd} : ∀ h ∈ hdr a n s ps b, ∃ c, c ≠ 32 ∧ h.cps.toList.head? = some c := by
  intro h hh
  unfold hdr at hh
  obtain ⟨i, hi⟩ := List.mem_iff_getElem?.mp hh
  rw [List.getElem?_zipWith] at hi
  cases h1 : (HEADS ++ b.fields)[i]? with
  | none => rw [h1] at hi; cases hi
  | some f =>
    cases h2 : ([pairW (a, n), wI s, seenW ps, b.kind] ++ b.parts)[i]? with
    | none => rw [h1, h2] at hi; cases hi
    | some p =>
      rw [h1, h2] at hi
      have e := Option.some.inj hi
      rw [← e]
      have hf : ∃ c r, c ≠ 32 ∧ f.cps.toList = c :: r := by
        have key : ∀ z : String, (∃ c r, c ≠ 32 ∧ (Str.ofString z).cps.toList = c :: r) → (∃ c r, c ≠ 32 ∧ (Str.ofString z).cps.toList = c :: r) := fun _ h => h
        rcases List.mem_append.mp (List.mem_of_getElem? h1) with hf | hf
        · simp only [HEADS, List.mem_cons, List.not_mem_nil, or_false] at hf
          rcases hf with rfl | rfl | rfl | rfl <;> exact ⟨_, _, by decide, rfl⟩
        · cases b <;> simp only [Bd.fields, List.mem_cons, List.not_mem_nil, or_false] at hf
          all_goals first | (rcases hf with rfl | rfl <;> exact ⟨_, _, by decide, rfl⟩) | (subst hf; exact ⟨_, _, by decide, rfl⟩) | exact hf.elim
      obtain ⟨c, r, hc, hr⟩ := hf
      refine ⟨c, hc, ?_⟩
      unfold lineW
      rw [tl_append, tl_append, hr]
      rfl
theorem cutV_from {xs : List V} {i : Nat} (h : i ≤ xs.length) : cutV xs (some (i : Int)) none = xs.drop i := by
  unfold cutV
  rw [HT.sIx_nat, HT.sIx_none, Nat.min_eq_left h]
  rw [List.take_of_length_le (by rw [List.length_drop]; exact Nat.le_refl _)]
theorem cutV_mid {xs : List V} {i j : Nat} (h : i ≤ j) (h2 : j ≤ xs.length) : cutV xs (some (i : Int)) (some (j : Int)) = (xs.drop i).take (j - i) := by
  unfold cutV
  rw [HT.sIx_nat, HT.sIx_nat, Nat.min_eq_left h2, Nat.min_eq_left (Nat.le_trans h h2)]
/-- where the lines of the i-th header stand -/
theorem flat_at {pss : List (List Str)} {i : Nat} {ps : List Str} (h : pss[i]? = some ps) (r : List Str) : (pss.flatten ++ r).drop (pss.take i).flatten.length = ps ++ ((pss.drop (i + 1)).flatten ++ r) := by
  have hi : i < pss.length := (List.getElem?_eq_some_iff.mp h).1
  have e : pss = pss.take i ++ ps :: pss.drop (i + 1) := by
    have h1 := List.take_append_drop i pss
    rw [List.drop_eq_getElem_cons hi, (List.getElem?_eq_some_iff.mp h).2] at h1
    exact h1.symm
  have e2 : pss.flatten = (pss.take i).flatten ++ (ps ++ (pss.drop (i + 1)).flatten) := by
    conv => lhs; rw [e]
    rw [List.flatten_append, List.flatten_cons]
  rw [e2, List.append_assoc, List.drop_left', List.append_assoc]
  rfl
section
variable {K : PySem.W.Frag} {C : Addr} {vs : List V} {H : Hp} {Q : VK} {E : XK}
theorem w_forCut {wi : TI} {g : TG} {tb : TS} {D : Ends} {σ : L2.St} {Mid : L2.St → Hp → Prop} (k : ∀ σ' H', Mid σ' H' → D.nx σ' H') (q : ∀ R : L2.St → Hp → Prop, (∀ σ' H', Mid σ' H' → R σ' H') → tFor wi g tb { D with nx := R } σ H) : tFor wi g tb D σ H := q D.nx k
theorem folded_plen : ∀ {ps : List Str} {L : List Nat} {w : Nat}, Folded ps L w → ∀ p ∈ ps, p.length ≤ L.length
  | [], _, _, h => h.elim
  | [p], L, _, h => fun q hq => by rw [List.mem_singleton.mp hq, str_len, h.1]; exact Nat.le_refl _
  | p :: q :: ps, L, w, h => by
    obtain ⟨n, e, n0, n1, _, _, _, _, hf⟩ := h
    intro r hr
    rcases List.mem_cons.mp hr with rfl | hr
    · rw [str_len, e, List.length_take]
      omega
    · have := folded_plen hf r hr
      rw [List.length_drop] at this
      omega
theorem mail_len {ls hs : List Str} {o : Option Str} (m : MailIs ls hs o) (h1 : ∀ h ∈ hs, h.length ≤ 90000) (h2 : ∀ t, o = some t → t.length ≤ 400) : ∀ z ∈ ls, z.length ≤ 100000 := by
  obtain ⟨pss, hf, rfl⟩ := m
  intro z hz
  rcases List.mem_append.mp hz with hz | hz
  · obtain ⟨p, hp, hzp⟩ := List.mem_flatten.mp hz
    obtain ⟨i, hi⟩ := List.mem_iff_getElem?.mp hp
    have hil : i < hs.length := by rw [← hf.len]; exact (List.getElem?_eq_some_iff.mp hi).1
    obtain ⟨p', hp', fo⟩ := hf.at (List.getElem?_eq_getElem hil)
    rw [hi] at hp'
    cases hp'
    have := folded_plen fo z hzp
    rw [← str_len] at this
    have := h1 _ (List.getElem_mem hil)
    omega
  · unfold tailW at hz
    rcases List.mem_append.mp hz with hz | hz
    · rcases List.mem_append.mp hz with hz | hz
      · rw [List.mem_singleton.mp hz]
        decide
      · cases o with
        | none => exact nomatch hz
        | some t =>
          obtain ⟨y, hy, rfl⟩ := List.mem_map.mp hz
          have h3 := (split_sub hy).2
          have h4 := h2 t rfl
          rw [Str.length_append]
          have e : (Str.ofString "|").length = 1 := rfl
          omega
    · rw [List.mem_singleton.mp hz]
      decide
theorem tail_ascii {o : Option Str} (h : ∀ t, o = some t → ascii t = true) : ∀ z ∈ tailW o, ascii z = true := by
  intro z hz
  unfold tailW at hz
  rcases List.mem_append.mp hz with hz | hz
  · rcases List.mem_append.mp hz with hz | hz
    · rw [List.mem_singleton.mp hz]
      exact ascii_of _
    · cases o with
      | none => exact nomatch hz
      | some t =>
        obtain ⟨y, hy, rfl⟩ := List.mem_map.mp hz
        refine ascii_app (ascii_of _) ?_
        have h3 := h t rfl
        unfold ascii at h3 ⊢
        rw [List.all_eq_true] at h3 ⊢
        exact fun c hc => h3 c ((split_sub hy).1 c hc)
  · rw [List.mem_singleton.mp hz]
    exact ascii_of _
/-- behind the lines of a header stands no line with a space in front -/
theorem next_line {pss : List (List Str)} {hs : List Str} {o : Option Str} (hF : Folds pss hs) (hh : ∀ h ∈ hs, ∃ c, c ≠ 32 ∧ h.cps.toList.head? = some c) (i : Nat) : ∃ r0 rs, (pss.drop (i + 1)).flatten ++ tailW o = r0 :: rs ∧ spL r0 = false := by
  by_cases hi : i + 1 < pss.length
  · have hil : i + 1 < hs.length := by rw [← hF.len]; exact hi
    obtain ⟨p, hp, fo⟩ := hF.at (List.getElem?_eq_getElem hil)
    obtain ⟨c, hc, he⟩ := hh _ (List.getElem_mem hil)
    obtain ⟨r0, rs, rfl, hr⟩ := folded_head fo he
    rw [List.drop_eq_getElem_cons hi, (List.getElem?_eq_some_iff.mp hp).2, List.flatten_cons]
    refine ⟨r0, _, rfl, ?_⟩
    unfold spL
    rw [hr]
    simp [hc]
  · rw [List.drop_eq_nil_of_le (by omega)]
    exact ⟨_, _, rfl, by decide⟩
/-- _law_is_mail: slots 0:lines 1:value 2:line 3:at 4:head 5:end 6:due 7:row -/
def t__law_is_mail (K : PySem.W.Frag) : TS := (tSeq (tIfS (tOr (tNot (tB (tCB (rIsi K) (tCons (tVar 0) (tCons (tC (.ty "list")) tNil))))) (tTest (tOp qGt (tCB (qLenSeq K) (tCons (tLc (iList K (tVar 0)) (gName 2) (tNot (tB (tCB (rIsi K) (tCons (tVar 2) (tCons (tC (.ty "str")) tNil))))) (tVar 2) [2]) tNil)) (tC (.int 0))))) (tRet (tC (.bl false))) tNext)
  (tSeq (tAsg (tC (.int 0)) (gName 3))
  (tSeq (tFor (iList K (tCall (spLawHeader K) [] C8.E0 (tCons (tVar 1) tNil))) (gName 4) (tSeq (tAsg (tOp qAdd (tVar 3) (tC (.int 1))) (gName 5))
  (tSeq (tFor (iList K (tSl (rSlL K) (tVar 0) (tPart (tOp qAdd (tVar 3) (tC (.int 1)))) tNoPart)) (gName 2) (tSeq (tIfS (tTest (tOp rNe (tSl rSlS (tVar 2) tNoPart (tPart (tC (.int 1)))) (tC (.str " ")))) tBreak tNext)
  (tAsg (tOp qAdd (tVar 5) (tC (.int 1))) (gName 5))))
  (tSeq (tIfS (tNot (tB (tCall (spLawFolded K) [] C8.E0 (tCons (tSl (rSlL K) (tVar 0) (tPart (tVar 3)) (tPart (tVar 5))) (tCons (tVar 4) (tCons (tC (.int 60)) tNil)))))) (tRet (tC (.bl false))) tNext)
  (tAsg (tVar 5) (gName 3))))))
  (tSeq (tAsg (tLst (tCons (tC (.str "")) tNil)) (gName 6))
  (tSeq (tIfS (tTest (tOp qNotN (tCall (spTextOf K) [] C8.E0 (tCons (tOp (rIxT K) (tVar 1) (tC (.int 4))) tNil)) (tC .non))) (tAsg (tOp rCat (tVar 6) (tLc (iList K (tBM K "str" qSplit (tCall (spTextOf K) [] C8.E0 (tCons (tOp (rIxT K) (tVar 1) (tC (.int 4))) tNil)) (tCons (tC (.str "\n")) tNil))) (gName 7) tYes (tOp qAddS (tC (.str "|")) (tVar 7)) [7])) (gName 6)) tNext)
  (tRet (tOp (rEqD K) (tSl (rSlL K) (tVar 0) (tPart (tVar 3)) tNoPart) (tOp rCat (tVar 6) (tLst (tCons (tC (.str ".")) tNil))))))))))
theorem l__law_is_mail (h : spLawMail K vs H Q E) : vs.length = 2 := by obtain ⟨l, t, ls, a, n, s, ps, b, sv, bv, rfl, _⟩ := h; rfl
theorem r__law_is_mail (h : spLawMail K vs H Q E) : t__law_is_mail K { nx := fun _ H' => Q .non H', rt := Q } (start ["lines", "value", "line", "at", "head", "end", "due", "row"] vs) H := by
  obtain ⟨l, t, ls, a, n, s, ps, b, sv, bv, rfl, hl, hls, hm, ht, dsv, dbv, ok, hps, q⟩ := h
  obtain ⟨c, hg⟩ := ok.bd
  have hhl : ∀ h ∈ hdr a n s ps b, h.length ≤ 6200 := fun h hh => by
    have h1 := hdr_line ok h hh
    omega
  have hzl := mail_len hm (fun h hh => Nat.le_trans (hhl h hh) (by decide)) (fun t ht => good_text (text_good ht hg))
  obtain ⟨pss, hF, hls2⟩ := hm
  have hhead := hdr_head (a := a) (n := n) (s := s) (ps := ps) (b := b)
  unfold t__law_is_mail
  walk_at "v"
  refine w_isi (Dn.tyX (ok := Any) (dn_list hl trivial)) (kit_list _) ?_
  walk_at "v"
  walk_at "if" <;> intro h
  · exact absurd rfl h
  clear h
  walk_at "v"
  refine lcL (its := ls.map V.str) (fun H6 T6 => SqL.of (T6 _ _ hl)) (by rw [List.length_map]; exact Nat.lt_of_le_of_lt hls (by decide)) (fun v => v) (fun _ => false) (fun x => by exact rfl) (fun x hx H6 _ R r => ?_) (fun x hx hk H6 _ R r => nomatch hk) (fun D H1 hD T1 e1 => ?_)
  · obtain ⟨y, hy, rfl⟩ := List.mem_map.mp hx
    walk_at "v"
    refine w_isi (Dn.tyX (ok := Any) (.str y)) (kit_str (.str y)) ?_
    walk_at "v"
    rw [decide_eq_true (show tyN (.str y) = "str" from rfl)]
    exact r H6 (Same.refl H6)
  rw [List.filter_eq_nil_iff.mpr (fun _ _ => Bool.false_ne_true), List.map_nil] at e1
  walk_at "v"
  refine w_for (w_iList ?_)
  walk_at "v"
  refine ⟨t, a, n, s, ps, b, sv, bv, rfl, T1 _ _ ht, dsv.same T1, dbv.same T1, ok, fun hd H2 hhd T2 e2 => ?_⟩
  have T02 := T1.trans T2
  have hl2 := T02 _ _ hl
  have ht2 := T02 _ _ ht
  generalize hdr a n s ps b = hs at e2 hF hhl hhead
  refine w_lstF (SqL.of e2) (fun i σ H' => (∃ y2 y4 y5, σ = [some (.ref l), some (.ref t), y2, some (.int ((pss.take i).flatten.length : Int)), y4, y5, none, none]) ∧ Same H2 H') ⟨⟨_, _, _, rfl⟩, Same.refl H2⟩ (fun i σ H' _ pv => SqL.of (pv.2 _ _ e2)) (fun i y σ H' hi pv => ?_) (fun σ H' pv => ?_)
  · obtain ⟨⟨y2, y4, y5, rfl⟩, T3⟩ := pv
    rw [List.getElem?_map] at hi
    obtain ⟨z, hz, rfl⟩ := Option.map_eq_some_iff.mp hi
    obtain ⟨pz, hp, fo⟩ := hF.at hz
    have hzl6 := hhl z (List.mem_of_getElem? hz)
    have hdrop := flat_at hp (tailW b.textS)
    rw [← hls2] at hdrop
    obtain ⟨r0, rs, hR, hr0⟩ := next_line (o := b.textS) hF hhead i
    rw [hR] at hdrop
    have hplen := folded_len fo
    rw [← str_len] at hplen
    generalize hA : (pss.take i).flatten.length = A at hdrop ⊢
    have hpz : pz ≠ [] := folded_ne fo
    obtain ⟨p0, pt, rfl⟩ : ∃ p0 pt, pz = p0 :: pt := by
      cases pz with
      | nil => exact absurd rfl hpz
      | cons a b => exact ⟨a, b, rfl⟩
    have hsp : ∀ p ∈ pt, spL p = true := fun p hp => by
      unfold spL
      rw [folded_sp fo p hp]
      rfl
    have hlsl : A + (p0 :: pt).length + 1 ≤ ls.length := by
      have := congrArg List.length hdrop
      rw [List.length_drop, List.length_append, List.length_cons, List.length_cons] at this
      rw [List.length_cons]
      omega
    have hA1 : A + (pt.length + 1) + 1 ≤ ls.length := hlsl
    have hl3 := T3 _ _ hl2
    walk_at "v"
    try rw [hA]
    refine w_forCut (Mid := fun σ' H4 => (∃ y2, σ' = [some (.ref l), some (.ref t), y2, some (.int (A : Int)), some (.str z), some (.int ((A + (pt.length + 1) : Nat) : Int)), none, none]) ∧ Same H' H4) (fun σ' H4 mv => ?_) (fun R r => ?_)
    · obtain ⟨⟨y2, rfl⟩, T4⟩ := mv
      walk_at "v"
      refine w_slLV (SqL.of (T4 _ _ hl3)) fun u H5 hu T5 e5 => ?_
      rw [cutV_mid (by omega) (by rw [List.length_map]; omega)] at e5
      have e6 : H5 u = some (.lst ((p0 :: pt).map V.str)) := by
        rw [e5, ← List.map_drop, hdrop, ← List.map_take]
        have : A + (pt.length + 1) - A = (p0 :: pt).length := by rw [List.length_cons]; omega
        rw [this, List.take_left']
        rfl
      walk_at "v"
      refine ⟨u, p0 :: pt, z, 60, rfl, e6, by omega, by omega, fo, ?_⟩
      walk_at "v"
      refine ⟨⟨y2, some (.str z), some (.int ((A + (pt.length + 1) : Nat) : Int)), ?_⟩, (T3.trans T4).trans T5⟩
      have : (pss.take (i + 1)).flatten.length = A + (pt.length + 1) := by
        rw [List.take_add_one, hp, List.flatten_append, List.length_append, hA]
        simp
      rw [this]
      rfl
    · refine w_iList ?_
      walk_at "v"
      refine w_slLV (SqL.of hl3) fun u H5 hu T5 e5 => ?_
      have eA : ((A : Int) + 1) = ((A + 1 : Nat) : Int) := by omega
      rw [eA, cutV_from (by rw [List.length_map]; omega)] at e5
      have e6 : H5 u = some (.lst ((pt ++ r0 :: rs).map V.str)) := by
        rw [e5, ← List.map_drop, ← List.drop_drop, hdrop]
        rfl
      refine w_lstF (SqL.of e6) (fun j σ H6 => j ≤ pt.length ∧ (∃ y2, σ = [some (.ref l), some (.ref t), y2, some (.int (A : Int)), some (.str z), some (.int ((A + 1 + j : Nat) : Int)), none, none]) ∧ H6 = H5) ⟨Nat.zero_le _, ⟨_, rfl⟩, rfl⟩ (fun j σ H6 _ pv => by rw [pv.2.2]; exact SqL.of e6) (fun j y σ H6 hj pv => ?_) (fun σ H6 pv => ?_)
      · obtain ⟨hjl, ⟨y2, rfl⟩, rfl⟩ := pv
        rw [List.getElem?_map] at hj
        obtain ⟨w, hw, rfl⟩ := Option.map_eq_some_iff.mp hj
        have hwl : w.length ≤ 100000 := hzl w (by
          have : w ∈ ls.drop A := by rw [hdrop]; exact List.mem_cons_of_mem _ (List.mem_of_getElem? hw)
          exact List.mem_of_mem_drop this)
        walk_at "v"
        refine w_slS (sz hwl) ?_
        walk_at "v"
        rw [sp_cut]
        by_cases hjt : j < pt.length
        · rw [List.getElem?_append_left hjt] at hw
          rw [hsp w (List.mem_of_getElem? hw)]
          walk_at "v"
          refine ⟨hjt, ⟨some (.str w), ?_⟩, rfl⟩
          have : ((A + 1 + j : Nat) : Int) + 1 = ((A + 1 + (j + 1) : Nat) : Int) := by omega
          rw [this]
          rfl
        · have hje : j = pt.length := by omega
          subst hje
          rw [List.getElem?_append_right (Nat.le_refl _), Nat.sub_self] at hw
          obtain rfl : r0 = w := Option.some.inj hw
          rw [hr0]
          walk_at "v"
          refine r _ _ ⟨⟨some (.str r0), ?_⟩, T5⟩
          have : A + 1 + pt.length = A + (pt.length + 1) := by omega
          rw [this]
          rfl
      · obtain ⟨hjl, _, _⟩ := pv
        rw [List.length_map, List.length_append, List.length_cons] at hjl
        omega
  · obtain ⟨⟨y2, y4, y5, rfl⟩, T3⟩ := pv
    have eL : (pss.take (hs.map V.str).length).flatten.length = pss.flatten.length := by rw [List.length_map, ← hF.len, List.take_length]
    rw [eL]
    have hl3 := T3 _ _ hl2
    have T03 := T02.trans T3
    walk_at "v"
    refine w_new fun du H4 hdu T4 e4 => ?_
    have T04 := T03.trans T4
    have ht4 := T04 _ _ ht
    walk_at "v"
    refine ⟨bv, b, rfl, dbv.same T04, fun w H5 T5 d5 => ?_⟩
    have hfin : ∀ (o : Option Str) (du2 : Addr) (L : List Str) (H6 : Hp) (y4 y5 y7 : Option V), o = b.textS → Same H H6 → H6 du2 = some (.lst (L.map V.str)) → L ++ [Str.ofString "."] = tailW o → L.length ≤ 1000 →
        tRet (tOp (rEqD K) (tSl (rSlL K) (tVar 0) (tPart (tVar 3)) tNoPart) (tOp rCat (tVar 6) (tLst (tCons (tC (.str ".")) tNil)))) { nx := fun _ H' => Q .non H', rt := Q } [some (.ref l), some (.ref t), y2, some (.int (pss.flatten.length : Int)), y4, y5, some (.ref du2), y7] H6 := by
      intro o du2 L H6 y4 y5 y7 ho T6 e6 hL hLl
      walk_at "v"
      refine w_slLV (SqL.of (T6 _ _ hl)) fun u H7 hu T7 e7 => ?_
      have hlen : pss.flatten.length ≤ (ls.map V.str).length := by
        rw [List.length_map, hls2, List.length_append]
        omega
      rw [cutV_from hlen, ← List.map_drop, hls2, List.drop_left'] at e7
      · walk_at "v"
        refine w_new fun dt H8 hdt T8 e8 => ?_
        walk_at "v"
        refine w_catV (T8 _ _ (T7 _ _ e6)) e8 (by simp only [List.length_map, List.length_cons, List.length_nil]; omega) fun r H9 hr T9 e9 => ?_
        have e10 : H9 r = some (.lst ((tailW b.textS).map V.str)) := by
          rw [e9, ← ho, ← hL, List.map_append]
          rfl
        refine w_eqDs (dn_list ((T8.trans T9) _ _ e7) (ok := Any) trivial) (dn_list e10 (ok := Any) trivial) (lay_strs (tail_ascii fun x hx => text_ascii (text_good hx hg).2.2)) ?_
        exact q _ (T6.trans (T7.trans (T8.trans T9)))
      · rfl
    have e5 := T5 _ _ e4
    have T05 := T04.trans T5
    have ht5 := T05 _ _ ht
    cases hx : b.textS with
    | none =>
      rw [text_none hx] at d5
      cases d5
      refine w_c ?_
      walk_at "v"
      walk_at "if" <;> intro h
      · exact absurd rfl h
      walk_at "b"
      exact hfin none du [Str.ofString ""] H5 _ _ _ hx.symm T05 e5 rfl (by decide)
    | some u =>
      have d5' := d5
      rw [text_some hx] at d5'
      cases d5'
      have hul := good_text (text_good hx hg)
      refine w_c ?_
      walk_at "v"
      walk_at "if" <;> intro h
      · walk_at "v"
        refine ⟨bv, b, rfl, dbv.same T05, fun w2 H6 T6 d6 => ?_⟩
        rw [text_some hx] at d6
        cases d6
        walk_at "v"
        refine w_splitV rfl (by omega) fun r H7 hr T7 e7 => ?_
        have hrl : (Txt.split u (Str.ofString "\n")).length ≤ 402 := by
          have := PyProof.Rows.split_le u (Str.ofString "\n")
          omega
        refine lcL (its := (Txt.split u (Str.ofString "\n")).map V.str) (fun H8 T8 => SqL.of (T8 _ _ e7)) (by rw [List.length_map]; exact Nat.lt_of_le_of_lt hrl (by decide)) (fun v => match v with | .str y => .str (Str.ofString "|" ++ y) | v => v) (fun _ => true) (fun x => by exact rfl) (fun x hx H8 _ R r => ?_) (fun x hx _ H8 _ R r => ?_) (fun D H8 hD T8 e8 => ?_)
        · exact r H8 (Same.refl H8)
        · obtain ⟨y, hy, rfl⟩ := List.mem_map.mp hx
          have hyl := (split_sub hy).2
          walk_at "v"
          refine w_addS (sz (by show 1 + y.length ≤ _; omega)) ?_
          exact r H8 (Same.refl H8)
        · have e9 : H8 D = some (.lst ((rowsW u).map V.str)) := by
            rw [e8]
            unfold rowsW
            rw [List.filter_eq_self.mpr (fun _ _ => rfl), List.map_map, List.map_map]
            rfl
          have hrw : (rowsW u).length ≤ 402 := by
            unfold rowsW
            rw [List.length_map]
            exact hrl
          refine w_catV (T8 _ _ (T7 _ _ (T6 _ _ e5))) e9 (by simp only [List.length_map, List.length_cons, List.length_nil]; omega) fun du2 H9 hdu2 T9 e10 => ?_
          walk_at "b"
          refine hfin (some u) du2 (Str.ofString "" :: rowsW u) H9 _ _ _ hx.symm ((((T05.trans T6).trans T7).trans T8).trans T9) e10 rfl ?_
          rw [List.length_cons]
          omega
      · exact nomatch h
/-- law: slots 0:script 1:k 2:value 3:letter 4:turn 5:lines -/
def t_law (K : PySem.W.Frag) (C_Letter : Addr) : TS := (tSeq (tFor (iRng1 (tCons (tOp qAdd (tC (.int 1)) (tCB qMin2 (tCons (tCB (qLenSeq K) (tCons (tVar 0) tNil)) (tCons (tC (.int 11)) tNil)))) tNil)) (gName 1) (tSeq (tAsg (tCall (spDrawValue K) [] C8.E0 (tCons (tCall (spStream K) [] C8.E0 (tCons (tCall (spCell K) [] C8.E0 (tCons (tVar 0) (tCons (tVar 1) tNil))) (tCons (tVar 1) tNil))) tNil)) (gName 2))
  (tSeq (tAsg (tCall (spLawLetter K C_Letter) [] C8.E0 (tCons (tVar 2) tNil)) (gName 3))
  (tSeq (tFor (iRng1 (tCons (tC (.int 2)) tNil)) (gName 4) (tSeq (tAsg (tCall (spMail K C_Letter) [] C8.E0 (tCons (tVar 3) tNil)) (gName 5))
  (tSeq (tIfS (tNot (tB (tCall (spLawMail K) [] C8.E0 (tCons (tVar 5) (tCons (tVar 2) tNil))))) (tRet (tC (.bl false))) tNext)
  (tSeq (tAsg (tC (.str "")) (gSub (tVar 5) (tC (.int 0)) rSetL))
  (tDrop (tBM K "list" rAppend (tVar 5) (tCons (tC (.str "x")) tNil)))))))
  (tIfS (tTest (tOp (rNeD K) (tMeth C_Letter "value" (spValue K C_Letter) [] C8.E0 (tVar 3) tNil) (tVar 2))) (tRet (tC (.bl false))) tNext)))))
  (tRet (tC (.bl true))))
theorem l_law (h : spLaw K vs H Q E) : vs.length = 1 := by obtain ⟨a, ns, rfl, _⟩ := h; rfl
theorem r_law (LC : IsC_Letter K C) (h : spLaw K vs H Q E) : t_law K C { nx := fun _ H' => Q .non H', rt := Q } (start ["script", "k", "value", "letter", "turn", "lines"] vs) H := by
  obtain ⟨a, ns, rfl, hS, hn, q⟩ := h
  unfold t_law
  walk_at "s"
  refine w_for (w_iRng1 ?_)
  walk_at "w"
  rw [List.length_map]
  have hm : (if (11 : Int) < (ns.length : Int) then (11 : Int) else (ns.length : Int)) ≤ 11 := by
    by_cases e : (11 : Int) < (ns.length : Int)
    · rw [if_pos e]; decide
    · rw [if_neg e]; omega
  have hm0 : 0 ≤ (if (11 : Int) < (ns.length : Int) then (11 : Int) else (ns.length : Int)) := by
    by_cases e : (11 : Int) < (ns.length : Int)
    · rw [if_pos e]; decide
    · rw [if_neg e]; omega
  generalize (if (11 : Int) < (ns.length : Int) then (11 : Int) else (ns.length : Int)) = m at hm hm0
  refine w_rng (by omega) (by omega) (fun i σ H' => (∃ y1 y2 y3 y4 y5, σ = [some (.ref a), y1, y2, y3, y4, y5]) ∧ Same H H') ⟨⟨_, _, _, _, _, rfl⟩, Same.refl H⟩ (fun i σ H0 hi pv => ?_) (fun σ H0 pv => ?_)
  · obtain ⟨⟨y1, y2, y3, y4, y5, rfl⟩, s0⟩ := pv
    walk_at "w"
    refine ⟨a, ns, _, rfl, s0.seq hS, by omega, fun z => ?_⟩
    walk_at "w"
    refine ⟨z, _, rfl, fun p H1 hp t1 s1 => ?_⟩
    walk_at "w"
    refine ⟨p, rfl, s1, fun t au n s ps b sv bv H2 k2 s2 vok ntp ht dsv dbv => ?_⟩
    have hok := hdr_ok vok
    have k02 : Kp p H0 H2 := (Same.kp t1).trans k2
    have T2 : Same H0 H2 := k02.same hp
    walk_at "w"
    refine ⟨t, au, n, s, ps, b, sv, bv, rfl, ht, dsv.any, vok.pk.nd, Nat.le_trans vok.pk.len (by decide), fun x H3 hx T3 L3 => ?_⟩
    walk_at "w"
    have e2 : (2 : Int).toNat = 2 := rfl
    refine w_for (w_iRng1 ?_)
    walk_at "w"
    refine w_rng (by decide) (by decide) (fun i σ H' => (∃ y1 y5 y6, σ = [some (.ref a), y1, some (.ref t), some (.ref x), y5, y6]) ∧ Same H3 H') ⟨⟨_, _, _, rfl⟩, Same.refl H3⟩ (fun i σ H5 hi pv => ?_) (fun σ H5 pv => ?_)
    · obtain ⟨⟨y1, y5, y6, rfl⟩, T5⟩ := pv
      have T25 := T3.trans T5
      walk_at "w"
      refine ⟨x, au, n, s, ps, b, sv, bv, rfl, L3.same T5, (dsv.any).same T25, (dbv.any).same T25, hok, fun l2 H6 ls hl2 T6 e6 hls hm => ?_⟩
      walk_at "w"
      refine ⟨l2, t, ls, au, n, s, ps, b, sv, bv, rfl, e6, hls, hm, T6 _ _ (T25 _ _ ht), ((dsv.any).same T25).same T6, ((dbv.any).same T25).same T6, hok, vok.pk.len, fun H7 T7 => ?_⟩
      walk_at "w"
      have hlen : 1 ≤ ls.length := by
        obtain ⟨pss, _, rfl⟩ := hm
        unfold tailW
        simp only [List.length_append, List.length_cons]
        omega
      have e7 := T7 _ _ e6
      refine w_setL e7 (j := 0) ?_ ?_
      · rw [List.length_map]
        unfold ixN
        rw [if_pos (by omega), if_pos (by omega)]
        rfl
      walk_at "w"
      refine w_app upd_same (by rw [List.length_set, List.length_map]; exact Nat.lt_of_le_of_lt hls (by decide)) ?_
      walk_at "w"
      refine ⟨⟨_, _, _, rfl⟩, fun c o e => ?_⟩
      have e5 := T5 _ _ e
      have e6 := T7 _ _ (T6 _ _ e5)
      have ncl : c ≠ l2 := ne_of_none e5 hl2
      rw [upd_ne ncl, upd_ne ncl]
      exact e6
    · obtain ⟨⟨y1, y5, y6, rfl⟩, T5⟩ := pv
      have T25 := T3.trans T5
      obtain ⟨dx, d, hx5, _⟩ := id (L3.same T5)
      walk_at "w"
      refine w_methV rfl hx5 lfs_value ?_
      walk_at "w"
      refine ⟨x, au, n, s, ps, sv, bv, rfl, L3.same T5, ?_⟩
      intro u hu
      obtain ⟨G, g, TG, eG⟩ := newT (o := .tup [.str au, .int n, .int s, sv, bv]) hu
      rw [← g]
      walk_at "w"
      have dd : DnAll Any G [.str au, .int n, .int s, sv, bv] [.str au, .int n, .int s, seenD ps, b.toD] := .cons (.str au) (.cons (.int n) (.cons (.int s) (.cons (((dsv.any).same T25).same TG) (.cons (((dbv.any).same T25).same TG) .nil))))
      refine w_neDs (.tup trivial eG dd) (.tup trivial (TG _ _ (T25 _ _ ht)) dd) (lay5 (k := 2) (lay_name vok.nm) lay_int lay_int (lay_seen' vok.pk) (lay_body vok.bd)).shaped ?_
      walk_at "w"
      exact ⟨⟨_, _, _, _, _, rfl⟩, s0.trans (T2.trans (T25.trans TG))⟩
  · obtain ⟨⟨y1, y2, y3, y4, y5, rfl⟩, s0⟩ := pv
    walk_at "w"
    exact q _
end

section
variable {P : Program} {w : World} {K : PySem.W.Frag} {mg : Str → Option Value} {base : Heap} {C_Letter : Addr}
def topS (i : Nat) : Stmt := PySem.Challenge.pw_lettersonce_k13_mail_lines.main.body.getD i (.Pass ⟨0, 0, 0, 0⟩)
def inC (s : Stmt) (j : Nat) : Stmt := (C8.clsBody s).getD j (.Pass ⟨0, 0, 0, 0⟩)
abbrev s_text_of : Stmt := topS 2
theorem sc_text_of : FnScope ["body"] ["body"] (C8.fnScope s_text_of) := C8.fnScope_by (by decide +kernel)
theorem c_text_of {f : Addr} {fd : FuncData} (F : C8.Def K mg "text_of" s_text_of f fd) (b : Binds K fd ["body"] [])
   :
  C8.Cal P w K mg base 1 "text_of" (spTextOf K) [] :=
  C8.cal0 F b .nil sc_text_of (fun vs H Q E h => l_text_of h) (fun cdv A outer s H vs Q E hr h => ⟨t_text_of K,
  (pss_cons (ps_if (pt_cmpR op_eq (pe_ix ix_tup (pv 0) pe_int (fun _ _ => rfl)) pe_str (nomark _)) (pss_one (ps_ret (pe_ix ix_tup (pv 0) pe_int (fun _ _ => rfl)))) pss_nil)
  (pss_cons (ps_if (pt_cmpR op_in_seq (pe_ix ix_tup (pv 0) pe_int (fun _ _ => rfl)) (pe_tup (pa_cons pe_str (pa_cons pe_str pa_nil))) (by rfl)) (pss_one (ps_ret (pe_ix ix_tup (pv 0) pe_int (fun _ _ => rfl)))) pss_nil)
  (pss_one (ps_ret pe_non)))), r_text_of h⟩)
abbrev s__cut_of : Stmt := topS 6
theorem sc__cut_of : FnScope ["line", "start", "width", "behind", "cut"] ["line", "start", "width"] (C8.fnScope s__cut_of) := C8.fnScope_by (by decide +kernel)
theorem c__cut_of {f : Addr} {fd : FuncData} (F : C8.Def K mg "_cut_of" s__cut_of f fd) (b : Binds K fd ["line", "start", "width"] [])
   :
  C8.Cal P w K mg base 1 "_cut_of" (spCut K) [] :=
  C8.cal0 F b .nil sc__cut_of (fun vs H Q E h => l__cut_of h) (fun cdv A outer s H vs Q E hr h => ⟨t__cut_of K,
  (pss_cons (ps_set (i := 3) sc__cut_of.nd rfl (Or.inl rfl) (pe_op op_add (pe_op op_add (pv 1) (pv 2)) pe_int))
  (pss_cons (ps_set (i := 4) sc__cut_of.nd rfl (Or.inl rfl) (pe_bm PySem.F.plainAttrs_str PySem.F.slot_str_rfind PySem.F.type_str_rfind mt_rfind4 (pv 0) (pa_cons pe_str (pa_cons (pe_op op_add (pv 1) pe_int) (pa_cons (pv 3) pa_nil)))))
  (pss_cons (ps_if (pt_cmpR op_lt (pv 4) pe_int (nomark _)) (pss_one (ps_set (i := 4) sc__cut_of.nd rfl (Or.inl rfl) (pe_bm PySem.F.plainAttrs_str PySem.F.slot_str_find PySem.F.type_str_find mt_find3 (pv 0) (pa_cons pe_str (pa_cons (pv 3) pa_nil))))) pss_nil)
  (pss_one (ps_ret (pv 4)))))), r__cut_of h⟩)
abbrev s_Letter___init__ : Stmt := inC (topS 8) 0
theorem sc_Letter___init__ : FnScope ["self", "author", "number", "stamp", "seen", "body", "name", "count"] ["self", "author", "number", "stamp", "seen", "body"] (C8.fnScope s_Letter___init__) := C8.fnScope_by (by decide +kernel)
theorem c_Letter___init__ {f : Addr} {fd : FuncData} (M : Mk K C_Letter f) (hm : mg "Letter" = some (.ref C_Letter)) (F : C8.Fun K "__init__" "Letter.__init__" s_Letter___init__ f fd) (b : Binds K fd ["self", "author", "number", "stamp", "seen", "body"] [])
  (LC_Letter : IsC_Letter K C_Letter) :
  C8.Mak P w K mg base 1 "Letter" C_Letter (spInit K C_Letter) [] :=
  C8.mak0 M hm F b .nil sc_Letter___init__ (fun vs H Q E h => l_Letter___init__ h) (fun cdv A outer s H vs Q E hr h => ⟨t_Letter___init__ K C_Letter,
  (pss_cons (ps_fld (pv 0) (pv 1) rfl)
  (pss_cons (ps_fld (pv 0) (pv 2) rfl)
  (pss_cons (ps_fld (pv 0) (pv 3) rfl)
  (pss_cons (ps_fld (pv 0) (pv 4) rfl)
  (pss_cons (ps_fld (pv 0) (pv 5) rfl)
  (pss_one (ps_fld (pv 0) (pe_dc (own := [("name", 6), ("count", 7)]) (g := (gTup K 2 (gCons (gName 6) (gCons (gName 7) gNil)))) (tt := tYes) (by rfl) sc_Letter___init__.nd (pi_tup (pv 4)) (blkOk_by (own := [("name", 6), ("count", 7)]) (N := ["self", "author", "number", "stamp", "seen", "body", "name", "count"]) (sc := C8.fnScope s_Letter___init__) (by decide +kernel)) (fun _ _ _ _ _ => (pg_tup rfl (pgs_cons (pg_name (i := 6) sc_Letter___init__.nd rfl (Or.inl rfl)) (pgs_cons (pg_name (i := 7) sc_Letter___init__.nd rfl (Or.inl rfl)) pgs_nil)))) (fun _ _ _ _ _ => pts_nil) (fun _ _ _ _ _ => (pv 6)) (fun _ _ _ _ _ => (pv 7))) rfl))))))), r_Letter___init__ LC_Letter h⟩)
abbrev s_Letter_ref : Stmt := inC (topS 8) 1
theorem sc_Letter_ref : FnScope ["self"] ["self"] (C8.fnScope s_Letter_ref) := C8.fnScope_by (by decide +kernel)
theorem c_Letter_ref {f : Addr} {fd : FuncData} {p : Addr} (hp : PropOf K C_Letter "ref" p f) (F : C8.Fun K "ref" "Letter.ref" s_Letter_ref f fd) (b : Binds K fd ["self"] [])
  (LC_Letter : IsC_Letter K C_Letter) :
  Wp.Prp P w K mg base 1 C_Letter "ref" (spRefP K C_Letter) :=
  Wp.prp0 LC_Letter.cl hp F b sc_Letter_ref (fun vs H Q E h => l_Letter_ref h) (fun cdv A outer s H vs Q E hr h => ⟨t_Letter_ref K C_Letter,
  (pss_one (ps_ret (pe_tup (pa_cons (pe_fld (pv 0) rfl) (pa_cons (pe_fld (pv 0) rfl) pa_nil))))), r_Letter_ref LC_Letter h⟩)
abbrev s_Letter_value : Stmt := inC (topS 8) 5
theorem sc_Letter_value : FnScope ["self"] ["self"] (C8.fnScope s_Letter_value) := C8.fnScope_by (by decide +kernel)
theorem c_Letter_value {f : Addr} {fd : FuncData} (me : Meth K C_Letter "value" f) (F : C8.Fun K "value" "Letter.value" s_Letter_value f fd) (b : Binds K fd ["self"] [])
  (LC_Letter : IsC_Letter K C_Letter) :
  C8.Met P w K mg base 1 C_Letter "value" (spValue K C_Letter) [] :=
  C8.met0 LC_Letter.cl me F b sc_Letter_value (fun vs H Q E h => l_Letter_value h) (fun cdv A outer s H vs Q E hr h => ⟨t_Letter_value K C_Letter,
  (pss_one (ps_ret (pe_tup (pa_cons (pe_fld (pv 0) rfl) (pa_cons (pe_fld (pv 0) rfl) (pa_cons (pe_fld (pv 0) rfl) (pa_cons (pe_fld (pv 0) rfl) (pa_cons (pe_fld (pv 0) rfl) pa_nil)))))))), r_Letter_value LC_Letter h⟩)
abbrev s__pair_words : Stmt := topS 13
theorem sc__pair_words : FnScope ["pair", "name", "number"] ["pair"] (C8.fnScope s__pair_words) := C8.fnScope_by (by decide +kernel)
theorem c__pair_words {f : Addr} {fd : FuncData} (F : C8.Def K mg "_pair_words" s__pair_words f fd) (b : Binds K fd ["pair"] [])
   :
  C8.Cal P w K mg base 1 "_pair_words" (spPairWords K) [] :=
  C8.cal0 F b .nil sc__pair_words (fun vs H Q E h => l__pair_words h) (fun cdv A outer s H vs Q E hr h => ⟨t__pair_words K,
  (pss_cons (ps_asg (pv 0) (pg_tup rfl (pgs_cons (pg_name (i := 1) sc__pair_words.nd rfl (Or.inl rfl)) (pgs_cons (pg_name (i := 2) sc__pair_words.nd rfl (Or.inl rfl)) pgs_nil))))
  (pss_one (ps_ret (pe_joined (PJ.cons (pe_fmt (pv 1)) (PJ.cons pe_str (PJ.cons (pe_fmt (pv 2)) PJ.nil))))))), r__pair_words h⟩)
abbrev s__count_lines : Stmt := topS 15
theorem sc__count_lines : FnScope ["text"] ["text"] (C8.fnScope s__count_lines) := C8.fnScope_by (by decide +kernel)
theorem c__count_lines {f : Addr} {fd : FuncData} (F : C8.Def K mg "_count_lines" s__count_lines f fd) (b : Binds K fd ["text"] [])
  (n_str : mg "str" = none) :
  C8.Cal P w K mg base 1 "_count_lines" (spCountLines K) [] :=
  C8.cal0 F b .nil sc__count_lines (fun vs H Q E h => l__count_lines h) (fun cdv A outer s H vs Q E hr h => ⟨t__count_lines K,
  (pss_one (ps_ret (pe_callTy call_str_int (by rfl) n_str (by decide +kernel) (pa_cons (pe_op op_add (pe_bm PySem.F.plainAttrs_str PySem.F.slot_str_count PySem.F.type_str_count mt_count (pv 0) (pa_cons pe_str pa_nil)) pe_int) pa_nil)))), r__count_lines h⟩)
abbrev s__law_cell : Stmt := topS 21
theorem sc__law_cell : FnScope ["script", "k"] ["script", "k"] (C8.fnScope s__law_cell) := C8.fnScope_by (by decide +kernel)
theorem c__law_cell {f : Addr} {fd : FuncData} (F : C8.Def K mg "_law_cell" s__law_cell f fd) (b : Binds K fd ["script", "k"] [])
  (n_len : mg "len" = none) :
  C8.Cal P w K mg base 1 "_law_cell" (spCell K) [] :=
  C8.cal0 F b .nil sc__law_cell (fun vs H Q E h => l__law_cell h) (fun cdv A outer s H vs Q E hr h => ⟨t__law_cell K,
  (pss_cons (ps_if (pt_cmpR op_lt (pv 1) (pe_callB call_len_seq (by rfl) n_len (by decide +kernel) (pa_cons (pv 0) pa_nil)) (nomark _)) (pss_one (ps_ret (pe_ix ix_list (pv 0) (pv 1) (fun _ _ => rfl)))) pss_nil)
  (pss_one (ps_ret pe_int))), r__law_cell h⟩)
abbrev s__law_stream : Stmt := topS 22
theorem sc__law_stream : FnScope ["cell", "k", "digits"] ["cell", "k"] (C8.fnScope s__law_stream) := C8.fnScope_by (by decide +kernel)
theorem c__law_stream {f : Addr} {fd : FuncData} (F : C8.Def K mg "_law_stream" s__law_stream f fd) (b : Binds K fd ["cell", "k"] [])
  (n_int : mg "int" = none) :
  C8.Cal P w K mg base 1 "_law_stream" (spStream K) [] :=
  C8.cal0 F b .nil sc__law_stream (fun vs H Q E h => l__law_stream h) (fun cdv A outer s H vs Q E hr h => ⟨t__law_stream K,
  (pss_cons (ps_set (i := 2) sc__law_stream.nd rfl (Or.inl rfl) pe_int)
  (pss_cons (ps_if (pt_cmpR op_ge (pv 0) (pe_op op_pow pe_int pe_int) (nomark _)) (pss_one (ps_set (i := 2) sc__law_stream.nd rfl (Or.inl rfl) (pv 0))) pss_nil)
  (pss_one (ps_ret (pe_lst (pa_cons (pv 2) (pa_cons (pe_op op_mod (pe_callTy call_int1 (by rfl) n_int (by decide +kernel) (pa_cons (pe_op op_add (pe_op op_add (pe_op op_mul (pv 0) pe_int) (pe_op op_mul (pv 1) pe_int)) pe_int) pa_nil)) pe_int) pa_nil))))))), r__law_stream h⟩)
abbrev s__law_next : Stmt := topS 23
theorem sc__law_next : FnScope ["stream", "size", "drawn"] ["stream", "size"] (C8.fnScope s__law_next) := C8.fnScope_by (by decide +kernel)
theorem c__law_next {f : Addr} {fd : FuncData} (F : C8.Def K mg "_law_next" s__law_next f fd) (b : Binds K fd ["stream", "size"] [])
  (n_int : mg "int" = none) :
  C8.Cal P w K mg base 1 "_law_next" (spNext K) [] :=
  C8.cal0 F b .nil sc__law_next (fun vs H Q E h => l__law_next h) (fun cdv A outer s H vs Q E hr h => ⟨t__law_next K,
  (pss_cons (ps_if (pt_cmpR op_gt (pe_ix ix_list (pv 0) pe_int (fun _ _ => rfl)) pe_int (nomark _)) (pss_cons (ps_set (i := 2) sc__law_next.nd rfl (Or.inl rfl) (pe_op op_mod (pe_callTy call_int1 (by rfl) n_int (by decide +kernel) (pa_cons (pe_ix ix_list (pv 0) pe_int (fun _ _ => rfl)) pa_nil)) (pv 1)))
  (pss_cons (ps_asg (pe_op op_fdiv (pe_ix ix_list (pv 0) pe_int (fun _ _ => rfl)) (pv 1)) (pg_sub (pv 0) pe_int set_list))
  (pss_one (ps_ret (pv 2))))) pss_nil)
  (pss_cons (ps_asg (pe_op op_mod (pe_callTy call_int1 (by rfl) n_int (by decide +kernel) (pa_cons (pe_op op_add (pe_op op_mul (pe_ix ix_list (pv 0) pe_int (fun _ _ => rfl)) pe_int) pe_int) pa_nil)) pe_int) (pg_sub (pv 0) pe_int set_list))
  (pss_one (ps_ret (pe_op op_mod (pe_callTy call_int1 (by rfl) n_int (by decide +kernel) (pa_cons (pe_op op_fdiv (pe_op op_mod (pe_callTy call_int1 (by rfl) n_int (by decide +kernel) (pa_cons (pe_op op_add (pe_op op_mul (pe_ix ix_list (pv 0) pe_int (fun _ _ => rfl)) pe_int) pe_int) pa_nil)) pe_int) pe_int) pa_nil)) (pv 1)))))), r__law_next h⟩)
abbrev s__law_text_of : Stmt := topS 33
theorem sc__law_text_of : FnScope ["body"] ["body"] (C8.fnScope s__law_text_of) := C8.fnScope_by (by decide +kernel)
theorem c__law_text_of {f : Addr} {fd : FuncData} (F : C8.Def K mg "_law_text_of" s__law_text_of f fd) (b : Binds K fd ["body"] [])
  (n_len : mg "len" = none) :
  C8.Cal P w K mg base 1 "_law_text_of" (spTextOf K) [] :=
  C8.cal0 F b .nil sc__law_text_of (fun vs H Q E h => l__law_text_of h) (fun cdv A outer s H vs Q E hr h => ⟨t__law_text_of K,
  (pss_cons (ps_if (pt_cmpR op_in_seq (pe_ix ix_tup (pv 0) pe_int (fun _ _ => rfl)) (pe_lst (pa_cons pe_str (pa_cons pe_str (pa_cons pe_str pa_nil)))) (by rfl)) (pss_one (ps_ret (pe_ix ix_tup (pv 0) (pe_op op_sub (pe_callB call_len_seq (by rfl) n_len (by decide +kernel) (pa_cons (pv 0) pa_nil)) pe_int) (fun _ _ => rfl)))) pss_nil)
  (pss_one (ps_ret pe_non))), r__law_text_of h⟩)
abbrev s__law_folded : Stmt := topS 36
theorem sc__law_folded : FnScope ["lines", "line", "width", "rest", "k", "part", "size"] ["lines", "line", "width"] (C8.fnScope s__law_folded) := C8.fnScope_by (by decide +kernel)
theorem c__law_folded {f : Addr} {fd : FuncData} (F : C8.Def K mg "_law_folded" s__law_folded f fd) (b : Binds K fd ["lines", "line", "width"] [])
  (n_isinstance : mg "isinstance" = none) (n_list : mg "list" = none) (n_range : mg "range" = none) (n_len : mg "len" = none) (n_str : mg "str" = none) :
  C8.Cal P w K mg base 1 "_law_folded" (spLawFolded K) [] :=
  C8.cal0 F b .nil sc__law_folded (fun vs H Q E h => l__law_folded h) (fun cdv A outer s H vs Q E hr h => ⟨t__law_folded K,
  (pss_cons (ps_if (pt_not (pt_val (pe_callB call_isi (by rfl) n_isinstance (by decide +kernel) (pa_cons (pv 0) (pa_cons (pe_bltn (v := .ty "list") (by rfl) n_list PyProof.Rows.boot_list rfl) pa_nil))))) (pss_one (ps_ret pe_bl)) pss_nil)
  (pss_cons (ps_set (i := 3) sc__law_folded.nd rfl (Or.inl rfl) (pv 1))
  (pss_cons (ps_for PassesOwn.never rfl (pi_range1 (by rfl) n_range (pa_cons (pe_callB call_len_seq (by rfl) n_len (by decide +kernel) (pa_cons (pv 0) pa_nil)) pa_nil)) (pg_name (i := 4) sc__law_folded.nd rfl (Or.inl rfl)) (pss_cons (ps_set (i := 5) sc__law_folded.nd rfl (Or.inl rfl) (pe_ix ix_list (pv 0) (pv 4) (fun _ _ => rfl)))
  (pss_cons (ps_if (PW.pt (pw_or (pt_not (pt_val (pe_callB call_isi (by rfl) n_isinstance (by decide +kernel) (pa_cons (pv 5) (pa_cons (pe_bltn (v := .ty "str") (by rfl) n_str PyProof.Rows.boot_str rfl) pa_nil))))) (pw_or1 (pt_cmpR op_ne (pe_slice sl_str (pv 3) po_none (po_some (pe_callB call_len_str (by rfl) n_len (by decide +kernel) (pa_cons (pv 5) pa_nil)))) (pv 5) (nomark _))))) (pss_one (ps_ret pe_bl)) pss_nil)
  (pss_cons (ps_set (i := 6) sc__law_folded.nd rfl (Or.inl rfl) (pe_callB call_len_str (by rfl) n_len (by decide +kernel) (pa_cons (pv 5) pa_nil)))
  (pss_cons (ps_if (pt_cmpR op_eq (pv 4) (pe_op op_sub (pe_callB call_len_seq (by rfl) n_len (by decide +kernel) (pa_cons (pv 0) pa_nil)) pe_int) (nomark _)) (pss_one (ps_ret (pe_and (pe_cmpR op_eq (pv 6) (pe_callB call_len_str (by rfl) n_len (by decide +kernel) (pa_cons (pv 3) pa_nil)) (nomark _)) (pe_one (pe_or (pe_cmpR op_le (pv 6) (pv 2) (nomark _)) (pe_one (pe_cmpR op_notIn_sign pe_str (pe_slice sl_str (pv 3) (po_some pe_int) po_none) (by rfl)))))))) pss_nil)
  (pss_cons (ps_if (PW.pt (pw_or (pt_cmpR op_eq (pv 6) pe_int (nomark _)) (pw_or (pt_cmpR op_ge (pv 6) (pe_callB call_len_str (by rfl) n_len (by decide +kernel) (pa_cons (pv 3) pa_nil)) (nomark _)) (pw_or (pt_cmpR op_le (pe_callB call_len_str (by rfl) n_len (by decide +kernel) (pa_cons (pv 3) pa_nil)) (pv 2) (nomark _)) (pw_or1 (pt_cmpR op_ne (pe_ix ix_str (pv 3) (pv 6) (fun _ _ => rfl)) pe_str (nomark _))))))) (pss_one (ps_ret pe_bl)) pss_nil)
  (pss_cons (ps_if (PW.pt (pw_and (pt_cmpR op_le (pv 6) (pv 2) (nomark _)) (pw_and1 (pt_cmpR op_in_sign pe_str (pe_slice sl_str (pv 3) (po_some (pe_op op_add (pv 6) pe_int)) (po_some (pe_op op_add (pv 2) pe_int))) (by rfl))))) (pss_one (ps_ret pe_bl)) pss_nil)
  (pss_cons (ps_if (PW.pt (pw_and (pt_cmpR op_gt (pv 6) (pv 2) (nomark _)) (pw_and1 (pt_cmpR op_in_sign pe_str (pe_slice sl_str (pv 3) (po_some pe_int) (po_some (pv 6))) (by rfl))))) (pss_one (ps_ret pe_bl)) pss_nil)
  (pss_one (ps_set (i := 3) sc__law_folded.nd rfl (Or.inl rfl) (pe_slice sl_str (pv 3) (po_some (pv 6)) po_none)))))))))))
  (pss_one (ps_ret pe_bl))))), r__law_folded h⟩)
abbrev s_fold : Stmt := topS 5
theorem sc_fold : FnScope ["line", "width", "lines", "start", "cut"] ["line", "width"] (C8.fnScope s_fold) := C8.fnScope_by (by decide +kernel)
theorem c_fold {f : Addr} {fd : FuncData} (F : C8.Def K mg "fold" s_fold f fd) (b : Binds K fd ["line", "width"] [])
  (c__cut_of : C8.Cal P w K mg base 1 "_cut_of" (spCut K) []) (n_len : mg "len" = none) :
  C8.Cal P w K mg base 2 "fold" (spFold K) [] :=
  C8.cal0 F b .nil sc_fold (fun vs H Q E h => l_fold h) (fun cdv A outer s H vs Q E hr h => ⟨t_fold K,
  (pss_cons (ps_set (i := 2) sc_fold.nd rfl (Or.inl rfl) (pe_lst pa_nil))
  (pss_cons (ps_set (i := 3) sc_fold.nd rfl (Or.inl rfl) pe_int)
  (pss_cons (ps_while PassesOwn.never (pt_cmpR op_gt (pe_op op_sub (pe_callB call_len_str (by rfl) n_len (by decide +kernel) (pa_cons (pv 0) pa_nil)) (pv 3)) (pv 1) (nomark _)) (pss_cons (ps_set (i := 4) sc_fold.nd rfl (Or.inl rfl) (C8.pe_c c__cut_of hr (by decide) (by rfl) (pa_cons (pv 0) (pa_cons (pv 3) (pa_cons (pv 1) pa_nil)))))
  (pss_cons (ps_if (pt_cmpR op_lt (pv 4) pe_int (nomark _)) (pss_one ps_break) pss_nil)
  (pss_cons (ps_expr (pe_bm PySem.F.plainAttrs_list PySem.F.slot_list_append PySem.F.type_list_append mt_append (pv 2) (pa_cons (pe_slice sl_str (pv 0) (po_some (pv 3)) (po_some (pv 4))) pa_nil)))
  (pss_one (ps_set (i := 3) sc_fold.nd rfl (Or.inl rfl) (pv 4)))))))
  (pss_cons (ps_expr (pe_bm PySem.F.plainAttrs_list PySem.F.slot_list_append PySem.F.type_list_append mt_append (pv 2) (pa_cons (pe_slice sl_str (pv 0) (po_some (pv 3)) po_none) pa_nil)))
  (pss_one (ps_ret (pv 2))))))), r_fold h⟩)
abbrev s__body_parts : Stmt := topS 14
theorem sc__body_parts : FnScope ["body", "kind"] ["body"] (C8.fnScope s__body_parts) := C8.fnScope_by (by decide +kernel)
theorem c__body_parts {f : Addr} {fd : FuncData} (F : C8.Def K mg "_body_parts" s__body_parts f fd) (b : Binds K fd ["body"] [])
  (c__count_lines : C8.Cal P w K mg base 1 "_count_lines" (spCountLines K) []) (c__pair_words : C8.Cal P w K mg base 1 "_pair_words" (spPairWords K) []) (n_list : mg "list" = none) :
  C8.Cal P w K mg base 2 "_body_parts" (spBodyParts K) [] :=
  C8.cal0 F b .nil sc__body_parts (fun vs H Q E h => l__body_parts h) (fun cdv A outer s H vs Q E hr h => ⟨t__body_parts K,
  (pss_cons (ps_set (i := 1) sc__body_parts.nd rfl (Or.inl rfl) (pe_ix ix_tup (pv 0) pe_int (fun _ _ => rfl)))
  (pss_cons (ps_if (pt_cmpR op_eq (pv 1) pe_str (nomark _)) (pss_one (ps_ret (pe_lst (pa_cons (pe_ix ix_tup (pv 0) pe_int (fun _ _ => rfl)) (pa_cons (pe_bm PySem.F.plainAttrs_str PySem.F.slot_str_join PySem.F.type_str_join mt_join pe_str (pa_cons (pe_ix ix_tup (pv 0) pe_int (fun _ _ => rfl)) pa_nil)) pa_nil))))) pss_nil)
  (pss_cons (ps_if (pt_cmpR op_eq (pv 1) pe_str (nomark _)) (pss_one (ps_ret (pe_lst (pa_cons (C8.pe_c c__count_lines hr (by decide) (by rfl) (pa_cons (pe_ix ix_tup (pv 0) pe_int (fun _ _ => rfl)) pa_nil)) pa_nil)))) pss_nil)
  (pss_cons (ps_if (pt_cmpR op_in_seq (pv 1) (pe_tup (pa_cons pe_str (pa_cons pe_str pa_nil))) (by rfl)) (pss_one (ps_ret (pe_lst (pa_cons (C8.pe_c c__pair_words hr (by decide) (by rfl) (pa_cons (pe_ix ix_tup (pv 0) pe_int (fun _ _ => rfl)) pa_nil)) (pa_cons (C8.pe_c c__count_lines hr (by decide) (by rfl) (pa_cons (pe_ix ix_tup (pv 0) pe_int (fun _ _ => rfl)) pa_nil)) pa_nil))))) pss_nil)
  (pss_cons (ps_if (pt_cmpR op_eq (pv 1) pe_str (nomark _)) (pss_one (ps_ret (pe_lst (pa_cons (C8.pe_c c__pair_words hr (by decide) (by rfl) (pa_cons (pe_ix ix_tup (pv 0) pe_int (fun _ _ => rfl)) pa_nil)) pa_nil)))) pss_nil)
  (pss_cons (ps_if (pt_cmpR op_eq (pv 1) pe_str (nomark _)) (pss_one (ps_ret (pe_lst (pa_cons (C8.pe_c c__pair_words hr (by decide) (by rfl) (pa_cons (pe_ix ix_tup (pv 0) pe_int (fun _ _ => rfl)) pa_nil)) (pa_cons (pe_ix ix_tup (pv 0) pe_int (fun _ _ => rfl)) pa_nil))))) pss_nil)
  (pss_one (ps_ret (pe_callTy call_list_of (by rfl) n_list (by decide +kernel) (pa_cons (pe_slice sl_tup (pv 0) (po_some pe_int) po_none) pa_nil)))))))))), r__body_parts h⟩)
abbrev s__law_number : Stmt := topS 24
theorem sc__law_number : FnScope ["stream", "kind"] ["stream"] (C8.fnScope s__law_number) := C8.fnScope_by (by decide +kernel)
theorem c__law_number {f : Addr} {fd : FuncData} (F : C8.Def K mg "_law_number" s__law_number f fd) (b : Binds K fd ["stream"] [])
  (c__law_next : C8.Cal P w K mg base 1 "_law_next" (spNext K) []) :
  C8.Cal P w K mg base 2 "_law_number" (spDrawNumber K) [] :=
  C8.cal0 F b .nil sc__law_number (fun vs H Q E h => l__law_number h) (fun cdv A outer s H vs Q E hr h => ⟨t__law_number K,
  (pss_cons (ps_set (i := 1) sc__law_number.nd rfl (Or.inl rfl) (C8.pe_c c__law_next hr (by decide) (by rfl) (pa_cons (pv 0) (pa_cons pe_int pa_nil))))
  (pss_cons (ps_if (pt_cmpR op_eq (pv 1) pe_int (nomark _)) (pss_one (ps_ret pe_int)) pss_nil)
  (pss_cons (ps_if (pt_cmpR op_eq (pv 1) pe_int (nomark _)) (pss_one (ps_ret (pe_op op_sub (pe_op op_pow pe_int pe_int) (C8.pe_c c__law_next hr (by decide) (by rfl) (pa_cons (pv 0) (pa_cons pe_int pa_nil)))))) pss_nil)
  (pss_cons (ps_if (pt_cmpR op_eq (pv 1) pe_int (nomark _)) (pss_one (ps_ret (pe_op op_add (pe_op op_add pe_int (pe_op op_mul (C8.pe_c c__law_next hr (by decide) (by rfl) (pa_cons (pv 0) (pa_cons (pe_op op_pow pe_int pe_int) pa_nil))) (pe_op op_pow pe_int pe_int))) (C8.pe_c c__law_next hr (by decide) (by rfl) (pa_cons (pv 0) (pa_cons (pe_op op_pow pe_int pe_int) pa_nil)))))) pss_nil)
  (pss_one (ps_ret (pe_op op_add pe_int (C8.pe_c c__law_next hr (by decide) (by rfl) (pa_cons (pv 0) (pa_cons pe_int pa_nil)))))))))), r__law_number h⟩)
abbrev s__law_name : Stmt := topS 25
theorem sc__law_name : FnScope ["stream", "letters", "kind", "size", "name", "k"] ["stream"] (C8.fnScope s__law_name) := C8.fnScope_by (by decide +kernel)
theorem c__law_name {f : Addr} {fd : FuncData} (F : C8.Def K mg "_law_name" s__law_name f fd) (b : Binds K fd ["stream"] [])
  (c__law_next : C8.Cal P w K mg base 1 "_law_next" (spNext K) []) (n_range : mg "range" = none) :
  C8.Cal P w K mg base 2 "_law_name" (spDrawName K) [] :=
  C8.cal0 F b .nil sc__law_name (fun vs H Q E h => l__law_name h) (fun cdv A outer s H vs Q E hr h => ⟨t__law_name K,
  (pss_cons (ps_set (i := 1) sc__law_name.nd rfl (Or.inl rfl) pe_str)
  (pss_cons (ps_set (i := 2) sc__law_name.nd rfl (Or.inl rfl) (C8.pe_c c__law_next hr (by decide) (by rfl) (pa_cons (pv 0) (pa_cons pe_int pa_nil))))
  (pss_cons (ps_if (pt_cmpR op_eq (pv 2) pe_int (nomark _)) (pss_one (ps_ret (pe_ix ix_tup (pe_tup (pa_cons pe_str (pa_cons pe_str (pa_cons pe_str (pa_cons pe_str (pa_cons pe_str (pa_cons pe_str pa_nil))))))) (C8.pe_c c__law_next hr (by decide) (by rfl) (pa_cons (pv 0) (pa_cons pe_int pa_nil))) (fun _ _ => rfl)))) pss_nil)
  (pss_cons (ps_set (i := 3) sc__law_name.nd rfl (Or.inl rfl) (pe_ix ix_tup (pe_tup (pa_cons pe_int (pa_cons pe_int (pa_cons (C8.pe_c c__law_next hr (by decide) (by rfl) (pa_cons (pv 0) (pa_cons pe_int pa_nil))) pa_nil)))) (pe_op op_sub (pv 2) pe_int) (fun _ _ => rfl)))
  (pss_cons (ps_set (i := 4) sc__law_name.nd rfl (Or.inl rfl) (pe_ix ix_str (pv 1) (C8.pe_c c__law_next hr (by decide) (by rfl) (pa_cons (pv 0) (pa_cons pe_int pa_nil))) (fun _ _ => rfl)))
  (pss_cons (ps_for PassesOwn.never rfl (pi_range1 (by rfl) n_range (pa_cons (pv 3) pa_nil)) (pg_name (i := 5) sc__law_name.nd rfl (Or.inl rfl)) (pss_one (ps_set (i := 4) sc__law_name.nd rfl (Or.inl rfl) (pe_op op_add_str (pv 4) (pe_ix ix_str (pv 1) (C8.pe_c c__law_next hr (by decide) (by rfl) (pa_cons (pv 0) (pa_cons pe_int pa_nil))) (fun _ _ => rfl))))))
  (pss_one (ps_ret (pv 4))))))))), r__law_name h⟩)
abbrev s__law_line : Stmt := topS 27
theorem sc__law_line : FnScope ["stream", "size", "chars", "start", "step", "gap", "line", "k", "char"] ["stream", "size"] (C8.fnScope s__law_line) := C8.fnScope_by (by decide +kernel)
theorem c__law_line {f : Addr} {fd : FuncData} (F : C8.Def K mg "_law_line" s__law_line f fd) (b : Binds K fd ["stream", "size"] [])
  (c__law_next : C8.Cal P w K mg base 1 "_law_next" (spNext K) []) (n_range : mg "range" = none) (n_int : mg "int" = none) :
  C8.Cal P w K mg base 2 "_law_line" (spDrawLine K) [] :=
  C8.cal0 F b .nil sc__law_line (fun vs H Q E h => l__law_line h) (fun cdv A outer s H vs Q E hr h => ⟨t__law_line K,
  (pss_cons (ps_set (i := 2) sc__law_line.nd rfl (Or.inl rfl) pe_str)
  (pss_cons (ps_set (i := 2) sc__law_line.nd rfl (Or.inl rfl) (pe_op op_add_str (pv 2) pe_str))
  (pss_cons (ps_set (i := 3) sc__law_line.nd rfl (Or.inl rfl) (C8.pe_c c__law_next hr (by decide) (by rfl) (pa_cons (pv 0) (pa_cons pe_int pa_nil))))
  (pss_cons (ps_set (i := 4) sc__law_line.nd rfl (Or.inl rfl) (C8.pe_c c__law_next hr (by decide) (by rfl) (pa_cons (pv 0) (pa_cons pe_int pa_nil))))
  (pss_cons (ps_set (i := 5) sc__law_line.nd rfl (Or.inl rfl) (pe_op op_add pe_int (C8.pe_c c__law_next hr (by decide) (by rfl) (pa_cons (pv 0) (pa_cons pe_int pa_nil)))))
  (pss_cons (ps_set (i := 6) sc__law_line.nd rfl (Or.inl rfl) pe_str)
  (pss_cons (ps_for PassesOwn.never rfl (pi_range1 (by rfl) n_range (pa_cons (pv 1) pa_nil)) (pg_name (i := 7) sc__law_line.nd rfl (Or.inl rfl)) (pss_cons (ps_set (i := 8) sc__law_line.nd rfl (Or.inl rfl) (pe_ix ix_str (pv 2) (pe_op op_mod (pe_callTy call_int1 (by rfl) n_int (by decide +kernel) (pa_cons (pe_op op_add (pv 3) (pe_op op_mul (pv 4) (pv 7))) pa_nil)) pe_int) (fun _ _ => rfl)))
  (pss_cons (ps_if (pt_cmpR op_lt (pv 7) pe_int (nomark _)) (pss_one (ps_set (i := 8) sc__law_line.nd rfl (Or.inl rfl) (pe_ix ix_str (pv 2) (C8.pe_c c__law_next hr (by decide) (by rfl) (pa_cons (pv 0) (pa_cons pe_int pa_nil))) (fun _ _ => rfl)))) pss_nil)
  (pss_cons (ps_if (pt_cmpR op_eq (pe_op op_mod (pe_callTy call_int1 (by rfl) n_int (by decide +kernel) (pa_cons (pv 7) pa_nil)) (pv 5)) (pe_op op_sub (pv 5) pe_int) (nomark _)) (pss_one (ps_set (i := 8) sc__law_line.nd rfl (Or.inl rfl) pe_str)) pss_nil)
  (pss_one (ps_set (i := 6) sc__law_line.nd rfl (Or.inl rfl) (pe_op op_add_str (pv 6) (pv 8))))))))
  (pss_one (ps_ret (pv 6)))))))))), r__law_line h⟩)
abbrev s__law_header : Stmt := topS 34
theorem sc__law_header : FnScope ["value", "author", "number", "stamp", "seen", "body", "name", "count", "pairs", "kind", "lines"] ["value"] (C8.fnScope s__law_header) := C8.fnScope_by (by decide +kernel)
theorem c__law_header {f : Addr} {fd : FuncData} (F : C8.Def K mg "_law_header" s__law_header f fd) (b : Binds K fd ["value"] [])
  (c__law_text_of : C8.Cal P w K mg base 1 "_law_text_of" (spTextOf K) []) (n_str : mg "str" = none) (n_len : mg "len" = none) :
  C8.Cal P w K mg base 2 "_law_header" (spLawHeader K) [] :=
  C8.cal0 F b .nil sc__law_header (fun vs H Q E h => l__law_header h) (fun cdv A outer s H vs Q E hr h => ⟨t__law_header K,
  (pss_cons (ps_asg (pv 0) (pg_tup rfl (pgs_cons (pg_name (i := 1) sc__law_header.nd rfl (Or.inl rfl)) (pgs_cons (pg_name (i := 2) sc__law_header.nd rfl (Or.inl rfl)) (pgs_cons (pg_name (i := 3) sc__law_header.nd rfl (Or.inl rfl)) (pgs_cons (pg_name (i := 4) sc__law_header.nd rfl (Or.inl rfl)) (pgs_cons (pg_name (i := 5) sc__law_header.nd rfl (Or.inl rfl)) pgs_nil)))))))
  (pss_cons (ps_set (i := 8) sc__law_header.nd rfl (Or.inl rfl) (pe_bm PySem.F.plainAttrs_str PySem.F.slot_str_join PySem.F.type_str_join mt_join pe_str (pa_cons (pe_lc (own := [("name", 6), ("count", 7)]) (g := (gTup K 2 (gCons (gName 6) (gCons (gName 7) gNil)))) (tt := tYes) (by rfl) sc__law_header.nd (pi_tup (pv 4)) (blkOk_by (own := [("name", 6), ("count", 7)]) (N := ["value", "author", "number", "stamp", "seen", "body", "name", "count", "pairs", "kind", "lines"]) (sc := C8.fnScope s__law_header) (by decide +kernel)) (fun _ _ _ _ _ => (pg_tup rfl (pgs_cons (pg_name (i := 6) sc__law_header.nd rfl (Or.inl rfl)) (pgs_cons (pg_name (i := 7) sc__law_header.nd rfl (Or.inl rfl)) pgs_nil)))) (fun _ _ _ _ _ => pts_nil) (fun _ _ _ _ _ => (pe_op op_add_str (pe_op op_add_str (pv 6) pe_str) (pe_callTy call_str_int (by rfl) n_str (by decide +kernel) (pa_cons (pv 7) pa_nil))))) pa_nil)))
  (pss_cons (ps_set (i := 9) sc__law_header.nd rfl (Or.inl rfl) (pe_ix ix_tup (pv 5) pe_int (fun _ _ => rfl)))
  (pss_cons (ps_set (i := 10) sc__law_header.nd rfl (Or.inl rfl) (pe_lst (pa_cons (pe_op op_add_str (pe_op op_add_str (pe_op op_add_str pe_str (pv 1)) pe_str) (pe_callTy call_str_int (by rfl) n_str (by decide +kernel) (pa_cons (pv 2) pa_nil))) (pa_cons (pe_op op_add_str pe_str (pe_callTy call_str_int (by rfl) n_str (by decide +kernel) (pa_cons (pv 3) pa_nil))) (pa_cons (pe_op op_add_str pe_str (pv 8)) (pa_cons (pe_op op_add_str pe_str (pv 9)) pa_nil))))))
  (pss_cons (ps_if (pt_cmpR op_in_seq (pv 9) (pe_lst (pa_cons pe_str (pa_cons pe_str pa_nil))) (by rfl)) (pss_one (ps_expr (pe_bm PySem.F.plainAttrs_list PySem.F.slot_list_append PySem.F.type_list_append mt_append (pv 10) (pa_cons (pe_op op_add_str pe_str (pe_ix ix_tup (pv 5) pe_int (fun _ _ => rfl))) pa_nil)))) pss_nil)
  (pss_cons (ps_if (pt_cmpR op_eq (pv 9) pe_str (nomark _)) (pss_one (ps_expr (pe_bm PySem.F.plainAttrs_list PySem.F.slot_list_append PySem.F.type_list_append mt_append (pv 10) (pa_cons (pe_op op_add_str pe_str (pe_bm PySem.F.plainAttrs_str PySem.F.slot_str_join PySem.F.type_str_join mt_join pe_str (pa_cons (pe_ix ix_tup (pv 5) pe_int (fun _ _ => rfl)) pa_nil))) pa_nil)))) pss_nil)
  (pss_cons (ps_if (pt_cmpR op_in_seq (pv 9) (pe_lst (pa_cons pe_str (pa_cons pe_str (pa_cons pe_str (pa_cons pe_str pa_nil))))) (by rfl)) (pss_one (ps_expr (pe_bm PySem.F.plainAttrs_list PySem.F.slot_list_append PySem.F.type_list_append mt_append (pv 10) (pa_cons (pe_op op_add_str (pe_op op_add_str (pe_op op_add_str pe_str (pe_ix ix_tup (pe_ix ix_tup (pv 5) pe_int (fun _ _ => rfl)) pe_int (fun _ _ => rfl))) pe_str) (pe_callTy call_str_int (by rfl) n_str (by decide +kernel) (pa_cons (pe_ix ix_tup (pe_ix ix_tup (pv 5) pe_int (fun _ _ => rfl)) pe_int (fun _ _ => rfl)) pa_nil))) pa_nil)))) pss_nil)
  (pss_cons (ps_if (pt_cmpR op_in_seq (pv 9) (pe_lst (pa_cons pe_str (pa_cons pe_str (pa_cons pe_str pa_nil)))) (by rfl)) (pss_one (ps_expr (pe_bm PySem.F.plainAttrs_list PySem.F.slot_list_append PySem.F.type_list_append mt_append (pv 10) (pa_cons (pe_op op_add_str pe_str (pe_callTy call_str_int (by rfl) n_str (by decide +kernel) (pa_cons (pe_callB call_len_seq (by rfl) n_len (by decide +kernel) (pa_cons (pe_bm PySem.F.plainAttrs_str PySem.F.slot_str_split PySem.F.type_str_split mt_split (C8.pe_c c__law_text_of hr (by decide) (by rfl) (pa_cons (pv 5) pa_nil)) (pa_cons pe_str pa_nil)) pa_nil)) pa_nil))) pa_nil)))) pss_nil)
  (pss_cons (ps_if (pt_cmpR op_eq (pv 9) pe_str (nomark _)) (pss_one (ps_expr (pe_bm PySem.F.plainAttrs_list PySem.F.slot_list_append PySem.F.type_list_append mt_append (pv 10) (pa_cons (pe_op op_add_str pe_str (pe_ix ix_tup (pv 5) pe_int (fun _ _ => rfl))) pa_nil)))) pss_nil)
  (pss_cons (ps_if (pt_cmpR op_in_seq (pv 9) (pe_lst (pa_cons pe_str (pa_cons pe_str (pa_cons pe_str pa_nil)))) (by rfl)) (pss_one (ps_expr (pe_bm PySem.F.plainAttrs_list PySem.F.slot_list_append PySem.F.type_list_append mt_append (pv 10) (pa_cons (pe_op op_add_str pe_str (pe_ix ix_tup (pv 5) pe_int (fun _ _ => rfl))) pa_nil)))) pss_nil)
  (pss_one (ps_ret (pv 10))))))))))))), r__law_header h⟩)
abbrev s_header_lines : Stmt := topS 12
theorem sc_header_lines : FnScope ["letter", "kind", "pair", "seen", "parts", "field", "part"] ["letter"] (C8.fnScope s_header_lines) := C8.fnScope_by (by decide +kernel)
theorem c_header_lines {f : Addr} {fd : FuncData} (F : C8.Def K mg "header_lines" s_header_lines f fd) (b : Binds K fd ["letter"] [])
  (LC_Letter : IsC_Letter K C_Letter) (c__pair_words : C8.Cal P w K mg base 1 "_pair_words" (spPairWords K) []) (c_Letter_ref : Wp.Prp P w K mg base 1 C_Letter "ref" (spRefP K C_Letter)) (c__body_parts : C8.Cal P w K mg base 2 "_body_parts" (spBodyParts K) []) (n_str : mg "str" = none) (n_zip : mg "zip" = none) (m_HEAD : mg "HEAD" = some (.ref A_HEAD)) (TH_HEAD : IsM_HEAD K A_HEAD) (m_BEHIND : mg "BEHIND" = some (.ref A_BEHIND)) (M_BEHIND : Wp.MDict K w A_BEHIND (tabG kv_BEHIND)) (TH_BEHIND : IsM_BEHIND K kv_BEHIND) :
  C8.Cal P w K mg base 3 "header_lines" (spHeader K C_Letter) [] :=
  C8.cal0 F b .nil sc_header_lines (fun vs H Q E h => l_header_lines h) (fun cdv A outer s H vs Q E hr h => ⟨t_header_lines K C_Letter A_HEAD A_BEHIND kv_BEHIND,
  (pss_cons (ps_set (i := 1) sc_header_lines.nd rfl (Or.inl rfl) (pe_ix ix_tup (pe_fld (pv 0) rfl) pe_int (fun _ _ => rfl)))
  (pss_cons (ps_set (i := 3) sc_header_lines.nd rfl (Or.inl rfl) (pe_bm PySem.F.plainAttrs_str PySem.F.slot_str_join PySem.F.type_str_join mt_join pe_str (pa_cons (pe_lc (own := [("pair", 2)]) (g := (gName 2)) (tt := tYes) (by rfl) sc_header_lines.nd (pi_tup (pe_fld (pv 0) rfl)) (blkOk_by (own := [("pair", 2)]) (N := ["letter", "kind", "pair", "seen", "parts", "field", "part"]) (sc := C8.fnScope s_header_lines) (by decide +kernel)) (fun _ _ _ _ _ => (pg_name (i := 2) sc_header_lines.nd rfl (Or.inl rfl))) (fun _ _ _ _ _ => pts_nil) (fun _ _ _ _ _ => (C8.pe_c c__pair_words hr (by decide) (by rfl) (pa_cons (pv 2) pa_nil)))) pa_nil)))
  (pss_cons (ps_set (i := 4) sc_header_lines.nd rfl (Or.inl rfl) (pe_op op_cat (pe_lst (pa_cons (C8.pe_c c__pair_words hr (by decide) (by rfl) (pa_cons (Wp.pe_pp c_Letter_ref hr (by decide) (pv 0) rfl) pa_nil)) (pa_cons (pe_callTy call_str_int (by rfl) n_str (by decide +kernel) (pa_cons (pe_fld (pv 0) rfl) pa_nil)) (pa_cons (pv 3) (pa_cons (pv 1) pa_nil))))) (C8.pe_c c__body_parts hr (by decide) (by rfl) (pa_cons (pe_fld (pv 0) rfl) pa_nil))))
  (pss_one (ps_ret (pe_lc (own := [("field", 5), ("part", 6)]) (g := (gTup K 2 (gCons (gName 5) (gCons (gName 6) gNil)))) (tt := tYes) (by rfl) sc_header_lines.nd (ZMix.pi_zipM (by rfl) n_zip (pa_cons (pe_op op_catA (C8.pe_gc (by rfl) ⟨_, m_HEAD, rfl⟩) (pe_ix (ix_tab M_BEHIND) (C8.pe_gc (by rfl) ⟨_, m_BEHIND, rfl⟩) (pv 1) (fun _ _ => rfl))) (pa_cons (pv 4) pa_nil))) (blkOk_by (own := [("field", 5), ("part", 6)]) (N := ["letter", "kind", "pair", "seen", "parts", "field", "part"]) (sc := C8.fnScope s_header_lines) (by decide +kernel)) (fun _ _ _ _ _ => (pg_tup rfl (pgs_cons (pg_name (i := 5) sc_header_lines.nd rfl (Or.inl rfl)) (pgs_cons (pg_name (i := 6) sc_header_lines.nd rfl (Or.inl rfl)) pgs_nil)))) (fun _ _ _ _ _ => pts_nil) (fun _ _ _ _ _ => (pe_joined (PJ.cons (pe_fmt (pv 5)) (PJ.cons pe_str (PJ.cons (pe_fmt (pv 6)) PJ.nil))))))))))), r_header_lines LC_Letter TH_HEAD TH_BEHIND h⟩)
abbrev s__law_names : Stmt := topS 26
theorem sc__law_names : FnScope ["stream", "most", "start", "char", "names", "k", "name"] ["stream", "most"] (C8.fnScope s__law_names) := C8.fnScope_by (by decide +kernel)
theorem c__law_names {f : Addr} {fd : FuncData} (F : C8.Def K mg "_law_names" s__law_names f fd) (b : Binds K fd ["stream", "most"] [])
  (c__law_next : C8.Cal P w K mg base 1 "_law_next" (spNext K) []) (c__law_name : C8.Cal P w K mg base 2 "_law_name" (spDrawName K) []) (n_range : mg "range" = none) (n_sorted : mg "sorted" = none) :
  C8.Cal P w K mg base 3 "_law_names" (spDrawNames K) [] :=
  C8.cal0 F b .nil sc__law_names (fun vs H Q E h => l__law_names h) (fun cdv A outer s H vs Q E hr h => ⟨t__law_names K,
  (pss_cons (ps_if (PW.pt (pw_and (pt_cmpR op_gt (pv 1) pe_int (nomark _)) (pw_and1 (pt_cmpR op_eq (C8.pe_c c__law_next hr (by decide) (by rfl) (pa_cons (pv 0) (pa_cons pe_int pa_nil))) pe_int (nomark _))))) (pss_cons (ps_set (i := 2) sc__law_names.nd rfl (Or.inl rfl) (C8.pe_c c__law_next hr (by decide) (by rfl) (pa_cons (pv 0) (pa_cons pe_int pa_nil))))
  (pss_one (ps_ret (pe_lc (own := [("char", 3)]) (g := (gName 3)) (tt := tYes) (by rfl) sc__law_names.nd (pi_str (pe_slice sl_str pe_str (po_some (pv 2)) (po_some (pe_op op_sub (pe_op op_add (pv 2) (pv 1)) (C8.pe_c c__law_next hr (by decide) (by rfl) (pa_cons (pv 0) (pa_cons pe_int pa_nil))))))) (blkOk_by (own := [("char", 3)]) (N := ["stream", "most", "start", "char", "names", "k", "name"]) (sc := C8.fnScope s__law_names) (by decide +kernel)) (fun _ _ _ _ _ => (pg_name (i := 3) sc__law_names.nd rfl (Or.inl rfl))) (fun _ _ _ _ _ => pts_nil) (fun _ _ _ _ _ => (pe_op op_add_str pe_str (pv 3))))))) pss_nil)
  (pss_cons (ps_set (i := 4) sc__law_names.nd rfl (Or.inl rfl) (pe_lst pa_nil))
  (pss_cons (ps_for PassesOwn.never rfl (pi_range1 (by rfl) n_range (pa_cons (C8.pe_c c__law_next hr (by decide) (by rfl) (pa_cons (pv 0) (pa_cons (pe_op op_add (pv 1) pe_int) pa_nil))) pa_nil)) (pg_name (i := 5) sc__law_names.nd rfl (Or.inl rfl)) (pss_cons (ps_set (i := 6) sc__law_names.nd rfl (Or.inl rfl) (C8.pe_c c__law_name hr (by decide) (by rfl) (pa_cons (pv 0) pa_nil)))
  (pss_one (ps_if (pt_cmpR op_notIn_seq (pv 6) (pv 4) (by rfl)) (pss_one (ps_expr (pe_bm PySem.F.plainAttrs_list PySem.F.slot_list_append PySem.F.type_list_append mt_append (pv 4) (pa_cons (pv 6) pa_nil)))) pss_nil))))
  (pss_one (ps_ret (pe_callB cr_sortedS (by rfl) n_sorted (by decide +kernel) (pa_cons (pv 4) pa_nil))))))), r__law_names h⟩)
abbrev s__law_title : Stmt := topS 28
theorem sc__law_title : FnScope ["stream", "size"] ["stream"] (C8.fnScope s__law_title) := C8.fnScope_by (by decide +kernel)
theorem c__law_title {f : Addr} {fd : FuncData} (F : C8.Def K mg "_law_title" s__law_title f fd) (b : Binds K fd ["stream"] [])
  (c__law_next : C8.Cal P w K mg base 1 "_law_next" (spNext K) []) (c__law_line : C8.Cal P w K mg base 2 "_law_line" (spDrawLine K) []) :
  C8.Cal P w K mg base 3 "_law_title" (spDrawTitle K) [] :=
  C8.cal0 F b .nil sc__law_title (fun vs H Q E h => l__law_title h) (fun cdv A outer s H vs Q E hr h => ⟨t__law_title K,
  (pss_cons (ps_set (i := 1) sc__law_title.nd rfl (Or.inl rfl) (pe_ix ix_tup (pe_tup (pa_cons pe_int (pa_cons pe_int (pa_cons (C8.pe_c c__law_next hr (by decide) (by rfl) (pa_cons (pv 0) (pa_cons pe_int pa_nil))) (pa_cons (C8.pe_c c__law_next hr (by decide) (by rfl) (pa_cons (pv 0) (pa_cons pe_int pa_nil))) pa_nil))))) (C8.pe_c c__law_next hr (by decide) (by rfl) (pa_cons (pv 0) (pa_cons pe_int pa_nil))) (fun _ _ => rfl)))
  (pss_one (ps_ret (C8.pe_c c__law_line hr (by decide) (by rfl) (pa_cons (pv 0) (pa_cons (pv 1) pa_nil)))))), r__law_title h⟩)
abbrev s__law_text : Stmt := topS 29
theorem sc__law_text : FnScope ["stream", "size", "line", "gap", "shift", "text", "k"] ["stream"] (C8.fnScope s__law_text) := C8.fnScope_by (by decide +kernel)
theorem c__law_text {f : Addr} {fd : FuncData} (F : C8.Def K mg "_law_text" s__law_text f fd) (b : Binds K fd ["stream"] [])
  (c__law_next : C8.Cal P w K mg base 1 "_law_next" (spNext K) []) (c__law_line : C8.Cal P w K mg base 2 "_law_line" (spDrawLine K) []) (n_range : mg "range" = none) (n_int : mg "int" = none) :
  C8.Cal P w K mg base 3 "_law_text" (spDrawText K) [] :=
  C8.cal0 F b .nil sc__law_text (fun vs H Q E h => l__law_text h) (fun cdv A outer s H vs Q E hr h => ⟨t__law_text K,
  (pss_cons (ps_set (i := 1) sc__law_text.nd rfl (Or.inl rfl) (pe_ix ix_tup (pe_tup (pa_cons pe_int (pa_cons (pe_op op_sub pe_int (C8.pe_c c__law_next hr (by decide) (by rfl) (pa_cons (pv 0) (pa_cons pe_int pa_nil)))) (pa_cons (pe_op op_add pe_int (C8.pe_c c__law_next hr (by decide) (by rfl) (pa_cons (pv 0) (pa_cons pe_int pa_nil)))) (pa_cons (pe_op op_add pe_int (C8.pe_c c__law_next hr (by decide) (by rfl) (pa_cons (pv 0) (pa_cons pe_int pa_nil)))) pa_nil))))) (C8.pe_c c__law_next hr (by decide) (by rfl) (pa_cons (pv 0) (pa_cons pe_int pa_nil))) (fun _ _ => rfl)))
  (pss_cons (ps_set (i := 2) sc__law_text.nd rfl (Or.inl rfl) (C8.pe_c c__law_line hr (by decide) (by rfl) (pa_cons (pv 0) (pa_cons (pv 1) pa_nil))))
  (pss_cons (ps_set (i := 3) sc__law_text.nd rfl (Or.inl rfl) (pe_ix ix_tup (pe_tup (pa_cons pe_int (pa_cons pe_int (pa_cons (pe_op op_add pe_int (C8.pe_c c__law_next hr (by decide) (by rfl) (pa_cons (pv 0) (pa_cons pe_int pa_nil)))) (pa_cons pe_int (pa_cons pe_int (pa_cons pe_int pa_nil))))))) (C8.pe_c c__law_next hr (by decide) (by rfl) (pa_cons (pv 0) (pa_cons pe_int pa_nil))) (fun _ _ => rfl)))
  (pss_cons (ps_set (i := 4) sc__law_text.nd rfl (Or.inl rfl) (C8.pe_c c__law_next hr (by decide) (by rfl) (pa_cons (pv 0) (pa_cons pe_int pa_nil))))
  (pss_cons (ps_set (i := 5) sc__law_text.nd rfl (Or.inl rfl) pe_str)
  (pss_cons (ps_for PassesOwn.never rfl (pi_range1 (by rfl) n_range (pa_cons (pv 1) pa_nil)) (pg_name (i := 6) sc__law_text.nd rfl (Or.inl rfl)) (pss_one (ps_if (pt_cmpR op_eq (pe_op op_mod (pe_callTy call_int1 (by rfl) n_int (by decide +kernel) (pa_cons (pe_op op_add (pv 6) (pv 4)) pa_nil)) (pv 3)) pe_int (nomark _)) (pss_one (ps_set (i := 5) sc__law_text.nd rfl (Or.inl rfl) (pe_op op_add_str (pv 5) pe_str))) (pss_one (ps_set (i := 5) sc__law_text.nd rfl (Or.inl rfl) (pe_op op_add_str (pv 5) (pe_ix ix_str (pv 2) (pv 6) (fun _ _ => rfl))))))))
  (pss_one (ps_ret (pv 5))))))))), r__law_text h⟩)
abbrev s__law_letter : Stmt := topS 35
theorem sc__law_letter : FnScope ["value"] ["value"] (C8.fnScope s__law_letter) := C8.fnScope_by (by decide +kernel)
theorem c__law_letter {f : Addr} {fd : FuncData} (F : C8.Def K mg "_law_letter" s__law_letter f fd) (b : Binds K fd ["value"] [])
  (LC_Letter : IsC_Letter K C_Letter) (c_Letter___init__ : C8.Mak P w K mg base 1 "Letter" C_Letter (spInit K C_Letter) []) :
  C8.Cal P w K mg base 3 "_law_letter" (spLawLetter K C_Letter) [] :=
  C8.cal0 F b .nil sc__law_letter (fun vs H Q E h => l__law_letter h) (fun cdv A outer s H vs Q E hr h => ⟨t__law_letter K C_Letter,
  (pss_one (ps_ret (C8.pe_mk c_Letter___init__ hr (by decide) (by rfl) (pa_cons (pe_ix ix_tup (pv 0) pe_int (fun _ _ => rfl)) (pa_cons (pe_ix ix_tup (pv 0) pe_int (fun _ _ => rfl)) (pa_cons (pe_ix ix_tup (pv 0) pe_int (fun _ _ => rfl)) (pa_cons (pe_ix ix_tup (pv 0) pe_int (fun _ _ => rfl)) (pa_cons (pe_ix ix_tup (pv 0) pe_int (fun _ _ => rfl)) pa_nil)))))))), r__law_letter LC_Letter h⟩)
abbrev s__law_is_mail : Stmt := topS 37
theorem sc__law_is_mail : FnScope ["lines", "value", "line", "at", "head", "end", "due", "row"] ["lines", "value"] (C8.fnScope s__law_is_mail) := C8.fnScope_by (by decide +kernel)
theorem c__law_is_mail {f : Addr} {fd : FuncData} (F : C8.Def K mg "_law_is_mail" s__law_is_mail f fd) (b : Binds K fd ["lines", "value"] [])
  (c__law_header : C8.Cal P w K mg base 2 "_law_header" (spLawHeader K) []) (c__law_folded : C8.Cal P w K mg base 1 "_law_folded" (spLawFolded K) []) (c__law_text_of : C8.Cal P w K mg base 1 "_law_text_of" (spTextOf K) []) (n_isinstance : mg "isinstance" = none) (n_list : mg "list" = none) (n_len : mg "len" = none) (n_str : mg "str" = none) :
  C8.Cal P w K mg base 3 "_law_is_mail" (spLawMail K) [] :=
  C8.cal0 F b .nil sc__law_is_mail (fun vs H Q E h => l__law_is_mail h) (fun cdv A outer s H vs Q E hr h => ⟨t__law_is_mail K,
  (pss_cons (ps_if (PW.pt (pw_or (pt_not (pt_val (pe_callB call_isi (by rfl) n_isinstance (by decide +kernel) (pa_cons (pv 0) (pa_cons (pe_bltn (v := .ty "list") (by rfl) n_list PyProof.Rows.boot_list rfl) pa_nil))))) (pw_or1 (pt_cmpR op_gt (pe_callB call_len_seq (by rfl) n_len (by decide +kernel) (pa_cons (pe_lc (own := [("line", 2)]) (g := (gName 2)) (tt := (tNot (tB (tCB (rIsi K) (tCons (tVar 2) (tCons (tC (.ty "str")) tNil)))))) (by rfl) sc__law_is_mail.nd (pi_list (pv 0)) (blkOk_by (own := [("line", 2)]) (N := ["lines", "value", "line", "at", "head", "end", "due", "row"]) (sc := C8.fnScope s__law_is_mail) (by decide +kernel)) (fun _ _ _ _ _ => (pg_name (i := 2) sc__law_is_mail.nd rfl (Or.inl rfl))) (fun _ _ _ _ _ => (pts_one (pt_not (pt_val (pe_callB call_isi (by rfl) n_isinstance (by decide +kernel) (pa_cons (pv 2) (pa_cons (pe_bltn (v := .ty "str") (by rfl) n_str PyProof.Rows.boot_str rfl) pa_nil))))))) (fun _ _ _ _ _ => (pv 2))) pa_nil)) pe_int (nomark _))))) (pss_one (ps_ret pe_bl)) pss_nil)
  (pss_cons (ps_set (i := 3) sc__law_is_mail.nd rfl (Or.inl rfl) pe_int)
  (pss_cons (ps_for PassesOwn.never rfl (pi_list (C8.pe_c c__law_header hr (by decide) (by rfl) (pa_cons (pv 1) pa_nil))) (pg_name (i := 4) sc__law_is_mail.nd rfl (Or.inl rfl)) (pss_cons (ps_set (i := 5) sc__law_is_mail.nd rfl (Or.inl rfl) (pe_op op_add (pv 3) pe_int))
  (pss_cons (ps_for PassesOwn.never rfl (pi_list (pe_slice sl_list (pv 0) (po_some (pe_op op_add (pv 3) pe_int)) po_none)) (pg_name (i := 2) sc__law_is_mail.nd rfl (Or.inl rfl)) (pss_cons (ps_if (pt_cmpR op_ne (pe_slice sl_str (pv 2) po_none (po_some pe_int)) pe_str (nomark _)) (pss_one ps_break) pss_nil)
  (pss_one (ps_set (i := 5) sc__law_is_mail.nd rfl (Or.inl rfl) (pe_op op_add (pv 5) pe_int)))))
  (pss_cons (ps_if (pt_not (pt_val (C8.pe_c c__law_folded hr (by decide) (by rfl) (pa_cons (pe_slice sl_list (pv 0) (po_some (pv 3)) (po_some (pv 5))) (pa_cons (pv 4) (pa_cons pe_int pa_nil)))))) (pss_one (ps_ret pe_bl)) pss_nil)
  (pss_one (ps_set (i := 3) sc__law_is_mail.nd rfl (Or.inl rfl) (pv 5)))))))
  (pss_cons (ps_set (i := 6) sc__law_is_mail.nd rfl (Or.inl rfl) (pe_lst (pa_cons pe_str pa_nil)))
  (pss_cons (ps_if (pt_cmpR op_notN (C8.pe_c c__law_text_of hr (by decide) (by rfl) (pa_cons (pe_ix ix_tup (pv 1) pe_int (fun _ _ => rfl)) pa_nil)) pe_non (nomark _)) (pss_one (ps_set (i := 6) sc__law_is_mail.nd rfl (Or.inl rfl) (pe_op op_cat (pv 6) (pe_lc (own := [("row", 7)]) (g := (gName 7)) (tt := tYes) (by rfl) sc__law_is_mail.nd (pi_list (pe_bm PySem.F.plainAttrs_str PySem.F.slot_str_split PySem.F.type_str_split mt_split (C8.pe_c c__law_text_of hr (by decide) (by rfl) (pa_cons (pe_ix ix_tup (pv 1) pe_int (fun _ _ => rfl)) pa_nil)) (pa_cons pe_str pa_nil))) (blkOk_by (own := [("row", 7)]) (N := ["lines", "value", "line", "at", "head", "end", "due", "row"]) (sc := C8.fnScope s__law_is_mail) (by decide +kernel)) (fun _ _ _ _ _ => (pg_name (i := 7) sc__law_is_mail.nd rfl (Or.inl rfl))) (fun _ _ _ _ _ => pts_nil) (fun _ _ _ _ _ => (pe_op op_add_str pe_str (pv 7))))))) pss_nil)
  (pss_one (ps_ret (pe_cmpR (op_eqD hr.units) (pe_slice sl_list (pv 0) (po_some (pv 3)) po_none) (pe_op op_cat (pv 6) (pe_lst (pa_cons pe_str pa_nil))) (nomark _))))))))), r__law_is_mail h⟩)
abbrev s_mail_lines : Stmt := topS 19
theorem sc_mail_lines : FnScope ["letter", "lines", "line", "text"] ["letter"] (C8.fnScope s_mail_lines) := C8.fnScope_by (by decide +kernel)
theorem c_mail_lines {f : Addr} {fd : FuncData} (F : C8.Def K mg "mail_lines" s_mail_lines f fd) (b : Binds K fd ["letter"] [])
  (LC_Letter : IsC_Letter K C_Letter) (c_header_lines : C8.Cal P w K mg base 3 "header_lines" (spHeader K C_Letter) []) (c_fold : C8.Cal P w K mg base 2 "fold" (spFold K) []) (c_text_of : C8.Cal P w K mg base 1 "text_of" (spTextOf K) []) (g_WIDTH : ∃ u, mg "WIDTH" = some u ∧ RelV v_WIDTH u) (g_BAR : ∃ u, mg "BAR" = some u ∧ RelV v_BAR u) (g_PERIOD : ∃ u, mg "PERIOD" = some u ∧ RelV v_PERIOD u) :
  C8.Cal P w K mg base 4 "mail_lines" (spMail K C_Letter) [] :=
  C8.cal0 F b .nil sc_mail_lines (fun vs H Q E h => l_mail_lines h) (fun cdv A outer s H vs Q E hr h => ⟨t_mail_lines K C_Letter,
  (pss_cons (ps_set (i := 1) sc_mail_lines.nd rfl (Or.inl rfl) (pe_lst pa_nil))
  (pss_cons (ps_for PassesOwn.never rfl (pi_list (C8.pe_c c_header_lines hr (by decide) (by rfl) (pa_cons (pv 0) pa_nil))) (pg_name (i := 2) sc_mail_lines.nd rfl (Or.inl rfl)) (pss_one (ps_expr (pe_bm PySem.F.plainAttrs_list PySem.F.slot_list_extend PySem.F.type_list_extend mt_extend (pv 1) (pa_cons (C8.pe_c c_fold hr (by decide) (by rfl) (pa_cons (pv 2) (pa_cons (C8.pe_gc (by rfl) g_WIDTH) pa_nil))) pa_nil)))))
  (pss_cons (ps_expr (pe_bm PySem.F.plainAttrs_list PySem.F.slot_list_append PySem.F.type_list_append mt_append (pv 1) (pa_cons pe_str pa_nil)))
  (pss_cons (ps_set (i := 3) sc_mail_lines.nd rfl (Or.inl rfl) (C8.pe_c c_text_of hr (by decide) (by rfl) (pa_cons (pe_fld (pv 0) rfl) pa_nil)))
  (pss_cons (ps_if (pt_cmpR op_notN (pv 3) pe_non (nomark _)) (pss_one (ps_expr (pe_bm PySem.F.plainAttrs_list PySem.F.slot_list_extend PySem.F.type_list_extend mt_extend (pv 1) (pa_cons (pe_lc (own := [("line", 2)]) (g := (gName 2)) (tt := tYes) (by rfl) sc_mail_lines.nd (pi_list (pe_bm PySem.F.plainAttrs_str PySem.F.slot_str_split PySem.F.type_str_split mt_split (pv 3) (pa_cons pe_str pa_nil))) (blkOk_by (own := [("line", 2)]) (N := ["letter", "lines", "line", "text"]) (sc := C8.fnScope s_mail_lines) (by decide +kernel)) (fun _ _ _ _ _ => (pg_name (i := 2) sc_mail_lines.nd rfl (Or.inl rfl))) (fun _ _ _ _ _ => pts_nil) (fun _ _ _ _ _ => (pe_op op_add_str (C8.pe_gc (by rfl) g_BAR) (pv 2)))) pa_nil)))) pss_nil)
  (pss_cons (ps_expr (pe_bm PySem.F.plainAttrs_list PySem.F.slot_list_append PySem.F.type_list_append mt_append (pv 1) (pa_cons (C8.pe_gc (by rfl) g_PERIOD) pa_nil)))
  (pss_one (ps_ret (pv 1))))))))), r_mail_lines LC_Letter h⟩)
abbrev s__law_body : Stmt := topS 30
theorem sc__law_body : FnScope ["stream", "author", "kind", "title", "name", "ref"] ["stream", "author"] (C8.fnScope s__law_body) := C8.fnScope_by (by decide +kernel)
theorem c__law_body {f : Addr} {fd : FuncData} (F : C8.Def K mg "_law_body" s__law_body f fd) (b : Binds K fd ["stream", "author"] [])
  (c__law_next : C8.Cal P w K mg base 1 "_law_next" (spNext K) []) (c__law_title : C8.Cal P w K mg base 3 "_law_title" (spDrawTitle K) []) (c__law_names : C8.Cal P w K mg base 3 "_law_names" (spDrawNames K) []) (c__law_text : C8.Cal P w K mg base 3 "_law_text" (spDrawText K) []) (c__law_name : C8.Cal P w K mg base 2 "_law_name" (spDrawName K) []) (c__law_number : C8.Cal P w K mg base 2 "_law_number" (spDrawNumber K) []) (n_tuple : mg "tuple" = none) :
  C8.Cal P w K mg base 4 "_law_body" (spDrawBody K) [] :=
  C8.cal0 F b .nil sc__law_body (fun vs H Q E h => l__law_body h) (fun cdv A outer s H vs Q E hr h => ⟨t__law_body K,
  (pss_cons (ps_set (i := 2) sc__law_body.nd rfl (Or.inl rfl) (C8.pe_c c__law_next hr (by decide) (by rfl) (pa_cons (pv 0) (pa_cons pe_int pa_nil))))
  (pss_cons (ps_if (pt_cmpR op_eq (pv 2) pe_int (nomark _)) (pss_cons (ps_set (i := 3) sc__law_body.nd rfl (Or.inl rfl) (C8.pe_c c__law_title hr (by decide) (by rfl) (pa_cons (pv 0) pa_nil)))
  (pss_one (ps_ret (pe_tup (pa_cons pe_str (pa_cons (pv 3) (pa_cons (pe_callTy call_tuple_of (by rfl) n_tuple (by decide +kernel) (pa_cons (pe_lc (own := [("name", 4)]) (g := (gName 4)) (tt := (tTest (tOp rNe (tVar 4) (tVar 1)))) (by rfl) sc__law_body.nd (pi_list (C8.pe_c c__law_names hr (by decide) (by rfl) (pa_cons (pv 0) (pa_cons pe_int pa_nil)))) (blkOk_by (own := [("name", 4)]) (N := ["stream", "author", "kind", "title", "name", "ref"]) (sc := C8.fnScope s__law_body) (by decide +kernel)) (fun _ _ _ _ _ => (pg_name (i := 4) sc__law_body.nd rfl (Or.inl rfl))) (fun _ _ _ _ _ => (pts_one (pt_cmpR op_ne (pv 4) (pv 1) (nomark _)))) (fun _ _ _ _ _ => (pv 4))) pa_nil)) pa_nil))))))) pss_nil)
  (pss_cons (ps_if (pt_cmpR op_eq (pv 2) pe_int (nomark _)) (pss_one (ps_ret (pe_tup (pa_cons pe_str (pa_cons (C8.pe_c c__law_text hr (by decide) (by rfl) (pa_cons (pv 0) pa_nil)) pa_nil))))) pss_nil)
  (pss_cons (ps_if (pt_cmpR op_eq (pv 2) pe_int (nomark _)) (pss_one (ps_ret (pe_tup (pa_cons pe_str (pa_cons (C8.pe_c c__law_title hr (by decide) (by rfl) (pa_cons (pv 0) pa_nil)) pa_nil))))) pss_nil)
  (pss_cons (ps_if (pt_cmpR op_eq (pv 2) pe_int (nomark _)) (pss_one (ps_ret (pe_tup (pa_cons pe_str pa_nil)))) pss_nil)
  (pss_cons (ps_set (i := 4) sc__law_body.nd rfl (Or.inl rfl) (C8.pe_c c__law_name hr (by decide) (by rfl) (pa_cons (pv 0) pa_nil)))
  (pss_cons (ps_if (pt_cmpR op_gt (pv 2) pe_int (nomark _)) (pss_one (ps_ret (pe_tup (pa_cons (pe_ix ix_tup (pe_tup (pa_cons pe_str (pa_cons pe_str (pa_cons pe_str pa_nil)))) (pe_op op_sub (pv 2) pe_int) (fun _ _ => rfl)) (pa_cons (pv 4) pa_nil))))) pss_nil)
  (pss_cons (ps_set (i := 5) sc__law_body.nd rfl (Or.inl rfl) (pe_tup (pa_cons (C8.pe_c c__law_name hr (by decide) (by rfl) (pa_cons (pv 0) pa_nil)) (pa_cons (C8.pe_c c__law_number hr (by decide) (by rfl) (pa_cons (pv 0) pa_nil)) pa_nil))))
  (pss_cons (ps_if (pt_cmpR op_eq (pv 2) pe_int (nomark _)) (pss_one (ps_ret (pe_tup (pa_cons pe_str (pa_cons (pv 5) pa_nil))))) pss_nil)
  (pss_cons (ps_if (pt_cmpR op_eq (pv 2) pe_int (nomark _)) (pss_one (ps_ret (pe_tup (pa_cons pe_str (pa_cons (pv 5) (pa_cons (pv 4) pa_nil)))))) pss_nil)
  (pss_one (ps_ret (pe_tup (pa_cons (pe_ix ix_tup (pe_tup (pa_cons pe_str (pa_cons pe_str pa_nil))) (pe_op op_sub (pv 2) pe_int) (fun _ _ => rfl)) (pa_cons (pv 5) (pa_cons (C8.pe_c c__law_text hr (by decide) (by rfl) (pa_cons (pv 0) pa_nil)) pa_nil)))))))))))))))), r__law_body h⟩)
abbrev s__law_seen : Stmt := topS 31
theorem sc__law_seen : FnScope ["stream", "author", "number", "counts", "name", "k"] ["stream", "author", "number"] (C8.fnScope s__law_seen) := C8.fnScope_by (by decide +kernel)
theorem c__law_seen {f : Addr} {fd : FuncData} (F : C8.Def K mg "_law_seen" s__law_seen f fd) (b : Binds K fd ["stream", "author", "number"] [])
  (c__law_names : C8.Cal P w K mg base 3 "_law_names" (spDrawNames K) []) (c__law_next : C8.Cal P w K mg base 1 "_law_next" (spNext K) []) (c__law_number : C8.Cal P w K mg base 2 "_law_number" (spDrawNumber K) []) (n_range : mg "range" = none) (n_str : mg "str" = none) (n_tuple : mg "tuple" = none) (n_sorted : mg "sorted" = none) :
  C8.Cal P w K mg base 4 "_law_seen" (spDrawSeen K) [] :=
  C8.cal0 F b .nil sc__law_seen (fun vs H Q E h => l__law_seen h) (fun cdv A outer s H vs Q E hr h => ⟨t__law_seen K,
  (pss_cons (ps_set (i := 3) sc__law_seen.nd rfl (Or.inr rfl) (pe_disp (pps_cons (pv 1) (pv 2) pps_nil) (by rfl) (by rfl) (fun z => by cases z) (by decide)))
  (pss_cons (ps_for PassesOwn.never rfl (pi_list (C8.pe_c c__law_names hr (by decide) (by rfl) (pa_cons (pv 0) (pa_cons (pe_ix ix_tup (pe_tup (pa_cons pe_int (pa_cons pe_int (pa_cons pe_int (pa_cons pe_int pa_nil))))) (C8.pe_c c__law_next hr (by decide) (by rfl) (pa_cons (pv 0) (pa_cons pe_int pa_nil))) (fun _ _ => rfl)) pa_nil)))) (pg_name (i := 4) sc__law_seen.nd rfl (Or.inl rfl)) (pss_one (ps_if (pt_cmpR op_ne (pv 4) (pv 1) (nomark _)) (pss_one (ps_dput (Wp.hu1 hr) (pv 3) (pv 4) (C8.pe_c c__law_number hr (by decide) (by rfl) (pa_cons (pv 0) pa_nil)) rfl)) pss_nil)))
  (pss_cons (ps_if (pt_cmpR op_eq (C8.pe_c c__law_next hr (by decide) (by rfl) (pa_cons (pv 0) (pa_cons pe_int pa_nil))) pe_int (nomark _)) (pss_one (ps_for PassesOwn.never rfl (pi_range2 (by rfl) n_range (pa_cons pe_int (pa_cons (pe_op op_add pe_int (C8.pe_c c__law_next hr (by decide) (by rfl) (pa_cons (pv 0) (pa_cons pe_int pa_nil)))) pa_nil))) (pg_name (i := 5) sc__law_seen.nd rfl (Or.inl rfl)) (pss_one (ps_if (pt_cmpR op_ne (pe_op op_add_str pe_str (pe_callTy call_str_int (by rfl) n_str (by decide +kernel) (pa_cons (pv 5) pa_nil))) (pv 1) (nomark _)) (pss_one (ps_dput (Wp.hu1 hr) (pv 3) (pe_op op_add_str pe_str (pe_callTy call_str_int (by rfl) n_str (by decide +kernel) (pa_cons (pv 5) pa_nil))) (C8.pe_c c__law_number hr (by decide) (by rfl) (pa_cons (pv 0) pa_nil)) rfl)) pss_nil)))) pss_nil)
  (pss_one (ps_ret (pe_callTy call_tuple_of (by rfl) n_tuple (by decide +kernel) (pa_cons (pe_lc (own := [("name", 4)]) (g := (gName 4)) (tt := tYes) (by rfl) sc__law_seen.nd (pi_list (pe_callB (call_sortedD rfl) (by rfl) n_sorted (by decide +kernel) (pa_cons (pv 3) pa_nil))) (blkOk_by (own := [("name", 4)]) (N := ["stream", "author", "number", "counts", "name", "k"]) (sc := C8.fnScope s__law_seen) (by decide +kernel)) (fun _ _ _ _ _ => (pg_name (i := 4) sc__law_seen.nd rfl (Or.inl rfl))) (fun _ _ _ _ _ => pts_nil) (fun _ _ _ _ _ => (pe_tup (pa_cons (pv 4) (pa_cons (pe_dget (Wp.hu1 hr) (pv 3) (pv 4) (fun _ _ => rfl)) pa_nil))))) pa_nil))))))), r__law_seen h⟩)
abbrev s__law_value : Stmt := topS 32
theorem sc__law_value : FnScope ["stream", "author", "body", "number", "least", "stamp"] ["stream"] (C8.fnScope s__law_value) := C8.fnScope_by (by decide +kernel)
theorem c__law_value {f : Addr} {fd : FuncData} (F : C8.Def K mg "_law_value" s__law_value f fd) (b : Binds K fd ["stream"] [])
  (c__law_name : C8.Cal P w K mg base 2 "_law_name" (spDrawName K) []) (c__law_body : C8.Cal P w K mg base 4 "_law_body" (spDrawBody K) []) (c__law_number : C8.Cal P w K mg base 2 "_law_number" (spDrawNumber K) []) (c__law_next : C8.Cal P w K mg base 1 "_law_next" (spNext K) []) (c__law_seen : C8.Cal P w K mg base 4 "_law_seen" (spDrawSeen K) []) (n_max : mg "max" = none) (n_min : mg "min" = none) :
  C8.Cal P w K mg base 5 "_law_value" (spDrawValue K) [] :=
  C8.cal0 F b .nil sc__law_value (fun vs H Q E h => l__law_value h) (fun cdv A outer s H vs Q E hr h => ⟨t__law_value K,
  (pss_cons (ps_set (i := 1) sc__law_value.nd rfl (Or.inl rfl) (C8.pe_c c__law_name hr (by decide) (by rfl) (pa_cons (pv 0) pa_nil)))
  (pss_cons (ps_set (i := 2) sc__law_value.nd rfl (Or.inl rfl) (C8.pe_c c__law_body hr (by decide) (by rfl) (pa_cons (pv 0) (pa_cons (pv 1) pa_nil))))
  (pss_cons (ps_if (pt_cmpR op_eq (pe_ix ix_tup (pv 2) pe_int (fun _ _ => rfl)) pe_str (nomark _)) (pss_one (ps_ret (pe_tup (pa_cons (pv 1) (pa_cons pe_int (pa_cons pe_int (pa_cons (pe_tup (pa_cons (pe_tup (pa_cons (pv 1) (pa_cons pe_int pa_nil))) pa_nil)) (pa_cons (pv 2) pa_nil)))))))) pss_nil)
  (pss_cons (ps_set (i := 3) sc__law_value.nd rfl (Or.inl rfl) (C8.pe_c c__law_number hr (by decide) (by rfl) (pa_cons (pv 0) pa_nil)))
  (pss_cons (ps_set (i := 4) sc__law_value.nd rfl (Or.inl rfl) (pe_callB (call_max2 rfl) (by rfl) n_max (by decide +kernel) (pa_cons pe_int (pa_cons (pv 3) pa_nil))))
  (pss_cons (ps_set (i := 5) sc__law_value.nd rfl (Or.inl rfl) (pe_ix ix_tup (pe_tup (pa_cons (pv 4) (pa_cons (pe_op op_pow pe_int pe_int) (pa_cons (pe_callB (call_min2 rfl) (by rfl) n_min (by decide +kernel) (pa_cons (pe_op op_pow pe_int pe_int) (pa_cons (pe_op op_add (pv 4) (C8.pe_c c__law_number hr (by decide) (by rfl) (pa_cons (pv 0) pa_nil))) pa_nil))) pa_nil)))) (C8.pe_c c__law_next hr (by decide) (by rfl) (pa_cons (pv 0) (pa_cons pe_int pa_nil))) (fun _ _ => rfl)))
  (pss_one (ps_ret (pe_tup (pa_cons (pv 1) (pa_cons (pv 3) (pa_cons (pv 5) (pa_cons (C8.pe_c c__law_seen hr (by decide) (by rfl) (pa_cons (pv 0) (pa_cons (pv 1) (pa_cons (pv 3) pa_nil)))) (pa_cons (pv 2) pa_nil)))))))))))))), r__law_value h⟩)
abbrev s_law : Stmt := topS 38
theorem sc_law : FnScope ["script", "k", "value", "letter", "turn", "lines"] ["script"] (C8.fnScope s_law) := C8.fnScope_by (by decide +kernel)
theorem f_law {f : Addr} {fd : FuncData} (F : C8.Fun K "law" "law" s_law f fd)
  (LC_Letter : IsC_Letter K C_Letter) (c__law_value : C8.Cal P w K mg base 5 "_law_value" (spDrawValue K) []) (c__law_stream : C8.Cal P w K mg base 1 "_law_stream" (spStream K) []) (c__law_cell : C8.Cal P w K mg base 1 "_law_cell" (spCell K) []) (c__law_letter : C8.Cal P w K mg base 3 "_law_letter" (spLawLetter K C_Letter) []) (c_mail_lines : C8.Cal P w K mg base 4 "mail_lines" (spMail K C_Letter) []) (c__law_is_mail : C8.Cal P w K mg base 3 "_law_is_mail" (spLawMail K) []) (c_Letter_value : C8.Met P w K mg base 1 C_Letter "value" (spValue K C_Letter) []) (n_range : mg "range" = none) (n_min : mg "min" = none) (n_len : mg "len" = none) :
  FnOk P w K mg base C8.CX0 6 f fd ["script"] (spLaw K) :=
  C8.fn0 F sc_law (fun vs H Q E h => l_law h) (fun cdv A outer s H vs Q E hr h => ⟨t_law K C_Letter,
  (pss_cons (ps_for PassesOwn.never rfl (pi_range1 (by rfl) n_range (pa_cons (pe_op op_add pe_int (pe_callB (call_min2 rfl) (by rfl) n_min (by decide +kernel) (pa_cons (pe_callB call_len_seq (by rfl) n_len (by decide +kernel) (pa_cons (pv 0) pa_nil)) (pa_cons pe_int pa_nil)))) pa_nil)) (pg_name (i := 1) sc_law.nd rfl (Or.inl rfl)) (pss_cons (ps_set (i := 2) sc_law.nd rfl (Or.inl rfl) (C8.pe_c c__law_value hr (by decide) (by rfl) (pa_cons (C8.pe_c c__law_stream hr (by decide) (by rfl) (pa_cons (C8.pe_c c__law_cell hr (by decide) (by rfl) (pa_cons (pv 0) (pa_cons (pv 1) pa_nil))) (pa_cons (pv 1) pa_nil))) pa_nil)))
  (pss_cons (ps_set (i := 3) sc_law.nd rfl (Or.inl rfl) (C8.pe_c c__law_letter hr (by decide) (by rfl) (pa_cons (pv 2) pa_nil)))
  (pss_cons (ps_for PassesOwn.never rfl (pi_range1 (by rfl) n_range (pa_cons pe_int pa_nil)) (pg_name (i := 4) sc_law.nd rfl (Or.inl rfl)) (pss_cons (ps_set (i := 5) sc_law.nd rfl (Or.inl rfl) (C8.pe_c c_mail_lines hr (by decide) (by rfl) (pa_cons (pv 3) pa_nil)))
  (pss_cons (ps_if (pt_not (pt_val (C8.pe_c c__law_is_mail hr (by decide) (by rfl) (pa_cons (pv 5) (pa_cons (pv 2) pa_nil))))) (pss_one (ps_ret pe_bl)) pss_nil)
  (pss_cons (ps_asg pe_str (pg_sub (pv 5) pe_int set_list))
  (pss_one (ps_expr (pe_bm PySem.F.plainAttrs_list PySem.F.slot_list_append PySem.F.type_list_append mt_append (pv 5) (pa_cons pe_str pa_nil))))))))
  (pss_one (ps_if (pt_cmpR (op_neD hr.units) (C8.pe_mt0 c_Letter_value hr (by decide) (pv 3)) (pv 2) (nomark _)) (pss_one (ps_ret pe_bl)) pss_nil))))))
  (pss_one (ps_ret pe_bl))), r_law LC_Letter h⟩)
end
theorem all_mk {l : PySem.W.OpenLaw} {w : World} {K : PySem.W.Frag} {h : Heap} {mg : Str → Option Value} {fa f0 f1 f2 f3 f4 f5 f6 f7 f8 f9 f10 f11 f12 f13 f14 f15 f16 f17 f18 f19 f20 f21 f22 f23 f24 f25 f26 f27 f28 C_Letter A_HEAD A_BEHIND p3 : Addr} (X : K.In h) (G : h.Ns mainGlobals mg) (hfa : mg "law" = some (.ref fa))
    {od0 an0 od1 an1 od2 an2 od3 an3 od4 an4 od5 an5 od6 an6 od7 an7 od8 an8 od9 an9 od10 an10 od11 an11 od12 an12 od13 an13 od14 an14 od15 an15 od16 an16 od17 an17 od18 an18 od19 an19 od20 an20 od21 an21 od22 an22 od23 an23 od24 an24 od25 an25 od26 an26 od27 an27 od28 an28 : Option Addr} {sl0 sl1 sl2 sl3 sl4 sl5 sl6 sl7 sl8 sl9 sl10 sl11 sl12 sl13 sl14 sl15 sl16 sl17 sl18 sl19 sl20 sl21 sl22 sl23 sl24 sl25 sl26 sl27 sl28 : Array (Option Value)} {oc0 kV0 dc0 pm0 cd0 ct0 oc1 kV1 dc1 pm1 cd1 ct1 oc2 kV2 dc2 pm2 cd2 ct2 oc3 kV3 dc3 pm3 cd3 ct3 oc4 kV4 dc4 pm4 cd4 ct4 oc5 kV5 dc5 pm5 cd5 ct5 oc6 kV6 dc6 pm6 cd6 ct6 oc7 kV7 dc7 pm7 cd7 ct7 oc8 kV8 dc8 pm8 cd8 ct8 oc9 kV9 dc9 pm9 cd9 ct9 oc10 kV10 dc10 pm10 cd10 ct10 oc11 kV11 dc11 pm11 cd11 ct11 oc12 kV12 dc12 pm12 cd12 ct12 oc13 kV13 dc13 pm13 cd13 ct13 oc14 kV14 dc14 pm14 cd14 ct14 oc15 kV15 dc15 pm15 cd15 ct15 oc16 kV16 dc16 pm16 cd16 ct16 oc17 kV17 dc17 pm17 cd17 ct17 oc18 kV18 dc18 pm18 cd18 ct18 oc19 kV19 dc19 pm19 cd19 ct19 oc20 kV20 dc20 pm20 cd20 ct20 oc21 kV21 dc21 pm21 cd21 ct21 oc22 kV22 dc22 pm22 cd22 ct22 oc23 kV23 dc23 pm23 cd23 ct23 oc24 kV24 dc24 pm24 cd24 ct24 oc25 kV25 dc25 pm25 cd25 ct25 oc26 kV26 dc26 pm26 cd26 ct26 oc27 kV27 dc27 pm27 cd27 ct27 oc28 kV28 dc28 pm28 cd28 ct28 : Value} {rest3 : List Value}
    (aC_Letter : PySem.W.nsIn K mainGlobals "Letter" = some (some (.ref C_Letter))) (pg_Letter : PySem.W.plainGet K C_Letter Str.empty = true) (hd_Letter : PySem.W.hasDictIn K C_Letter = true) (po_Letter : PySem.W.plainOver K C_Letter = true) (sa_Letter : PySem.W.findIn K (.ref C_Letter) "__setattr__" = some (some (.builtin "object.__setattr__"))) (mk_Letter : PySem.W.makesIn K C_Letter = true) (kc_Letter : PySem.W.keepIn K (.ref C_Letter) = true)
    (nf_Letter_author : PySem.W.findIn K (.ref C_Letter) "author" = some none)
    (nf_Letter_number : PySem.W.findIn K (.ref C_Letter) "number" = some none)
    (nf_Letter_stamp : PySem.W.findIn K (.ref C_Letter) "stamp" = some none)
    (nf_Letter_seen : PySem.W.findIn K (.ref C_Letter) "seen" = some none)
    (nf_Letter_body : PySem.W.findIn K (.ref C_Letter) "body" = some none)
    (nf_Letter_counts : PySem.W.findIn K (.ref C_Letter) "_counts" = some none)
    (a0 : PySem.W.nsIn K mainGlobals "text_of" = some (some (.ref f0))) (l0 : K.lookup f0 = some ⟨oc0, od0, .func (PySem.W.fnOf "text_of" "text_of" (C8.fnArgs s_text_of) (C8.fnBody s_text_of) (C8.fnScope s_text_of) .none kV0 dc0 pm0 an0 cd0 ct0), sl0⟩) (c0 : PySem.W.codeIn K cd0 "text_of" = true) (k0 : PySem.W.keepIn K (.ref f0) = true)
    (a1 : PySem.W.nsIn K mainGlobals "_cut_of" = some (some (.ref f1))) (l1 : K.lookup f1 = some ⟨oc1, od1, .func (PySem.W.fnOf "_cut_of" "_cut_of" (C8.fnArgs s__cut_of) (C8.fnBody s__cut_of) (C8.fnScope s__cut_of) .none kV1 dc1 pm1 an1 cd1 ct1), sl1⟩) (c1 : PySem.W.codeIn K cd1 "_cut_of" = true) (k1 : PySem.W.keepIn K (.ref f1) = true)
    (a2 : PySem.W.findIn K (.ref C_Letter) "__init__" = some (some (.ref f2))) (i2 : PySem.W.isFn K (.ref f2) = true) (l2 : K.lookup f2 = some ⟨oc2, od2, .func (PySem.W.fnOf "__init__" "Letter.__init__" (C8.fnArgs s_Letter___init__) (C8.fnBody s_Letter___init__) (C8.fnScope s_Letter___init__) .none kV2 dc2 pm2 an2 cd2 ct2), sl2⟩) (c2 : PySem.W.codeIn K cd2 "Letter.__init__" = true) (k2 : PySem.W.keepIn K (.ref f2) = true)
    (a3 : PySem.W.findIn K (.ref C_Letter) "ref" = some (some (.ref p3))) (g3 : PySem.W.specialIn K (.ref p3) "__get__" = some (some (.builtin "property.__get__"))) (t3_ : PySem.W.takesIn K (.ref p3) = some true) (r3 : PySem.W.recIn K p3 "property" = some (.ref f3 :: rest3)) (l3 : K.lookup f3 = some ⟨oc3, od3, .func (PySem.W.fnOf "ref" "Letter.ref" (C8.fnArgs s_Letter_ref) (C8.fnBody s_Letter_ref) (C8.fnScope s_Letter_ref) .none kV3 dc3 pm3 an3 cd3 ct3), sl3⟩) (c3 : PySem.W.codeIn K cd3 "Letter.ref" = true)
    (a4 : PySem.W.findIn K (.ref C_Letter) "value" = some (some (.ref f4))) (i4 : PySem.W.isFn K (.ref f4) = true) (l4 : K.lookup f4 = some ⟨oc4, od4, .func (PySem.W.fnOf "value" "Letter.value" (C8.fnArgs s_Letter_value) (C8.fnBody s_Letter_value) (C8.fnScope s_Letter_value) .none kV4 dc4 pm4 an4 cd4 ct4), sl4⟩) (c4 : PySem.W.codeIn K cd4 "Letter.value" = true) (k4 : PySem.W.keepIn K (.ref f4) = true)
    (a5 : PySem.W.nsIn K mainGlobals "_pair_words" = some (some (.ref f5))) (l5 : K.lookup f5 = some ⟨oc5, od5, .func (PySem.W.fnOf "_pair_words" "_pair_words" (C8.fnArgs s__pair_words) (C8.fnBody s__pair_words) (C8.fnScope s__pair_words) .none kV5 dc5 pm5 an5 cd5 ct5), sl5⟩) (c5 : PySem.W.codeIn K cd5 "_pair_words" = true) (k5 : PySem.W.keepIn K (.ref f5) = true)
    (a6 : PySem.W.nsIn K mainGlobals "_count_lines" = some (some (.ref f6))) (l6 : K.lookup f6 = some ⟨oc6, od6, .func (PySem.W.fnOf "_count_lines" "_count_lines" (C8.fnArgs s__count_lines) (C8.fnBody s__count_lines) (C8.fnScope s__count_lines) .none kV6 dc6 pm6 an6 cd6 ct6), sl6⟩) (c6 : PySem.W.codeIn K cd6 "_count_lines" = true) (k6 : PySem.W.keepIn K (.ref f6) = true)
    (a7 : PySem.W.nsIn K mainGlobals "_law_cell" = some (some (.ref f7))) (l7 : K.lookup f7 = some ⟨oc7, od7, .func (PySem.W.fnOf "_law_cell" "_law_cell" (C8.fnArgs s__law_cell) (C8.fnBody s__law_cell) (C8.fnScope s__law_cell) .none kV7 dc7 pm7 an7 cd7 ct7), sl7⟩) (c7 : PySem.W.codeIn K cd7 "_law_cell" = true) (k7 : PySem.W.keepIn K (.ref f7) = true)
    (a8 : PySem.W.nsIn K mainGlobals "_law_stream" = some (some (.ref f8))) (l8 : K.lookup f8 = some ⟨oc8, od8, .func (PySem.W.fnOf "_law_stream" "_law_stream" (C8.fnArgs s__law_stream) (C8.fnBody s__law_stream) (C8.fnScope s__law_stream) .none kV8 dc8 pm8 an8 cd8 ct8), sl8⟩) (c8 : PySem.W.codeIn K cd8 "_law_stream" = true) (k8 : PySem.W.keepIn K (.ref f8) = true)
    (a9 : PySem.W.nsIn K mainGlobals "_law_next" = some (some (.ref f9))) (l9 : K.lookup f9 = some ⟨oc9, od9, .func (PySem.W.fnOf "_law_next" "_law_next" (C8.fnArgs s__law_next) (C8.fnBody s__law_next) (C8.fnScope s__law_next) .none kV9 dc9 pm9 an9 cd9 ct9), sl9⟩) (c9 : PySem.W.codeIn K cd9 "_law_next" = true) (k9 : PySem.W.keepIn K (.ref f9) = true)
    (a10 : PySem.W.nsIn K mainGlobals "_law_text_of" = some (some (.ref f10))) (l10 : K.lookup f10 = some ⟨oc10, od10, .func (PySem.W.fnOf "_law_text_of" "_law_text_of" (C8.fnArgs s__law_text_of) (C8.fnBody s__law_text_of) (C8.fnScope s__law_text_of) .none kV10 dc10 pm10 an10 cd10 ct10), sl10⟩) (c10 : PySem.W.codeIn K cd10 "_law_text_of" = true) (k10 : PySem.W.keepIn K (.ref f10) = true)
    (a11 : PySem.W.nsIn K mainGlobals "_law_folded" = some (some (.ref f11))) (l11 : K.lookup f11 = some ⟨oc11, od11, .func (PySem.W.fnOf "_law_folded" "_law_folded" (C8.fnArgs s__law_folded) (C8.fnBody s__law_folded) (C8.fnScope s__law_folded) .none kV11 dc11 pm11 an11 cd11 ct11), sl11⟩) (c11 : PySem.W.codeIn K cd11 "_law_folded" = true) (k11 : PySem.W.keepIn K (.ref f11) = true)
    (a12 : PySem.W.nsIn K mainGlobals "fold" = some (some (.ref f12))) (l12 : K.lookup f12 = some ⟨oc12, od12, .func (PySem.W.fnOf "fold" "fold" (C8.fnArgs s_fold) (C8.fnBody s_fold) (C8.fnScope s_fold) .none kV12 dc12 pm12 an12 cd12 ct12), sl12⟩) (c12 : PySem.W.codeIn K cd12 "fold" = true) (k12 : PySem.W.keepIn K (.ref f12) = true)
    (a13 : PySem.W.nsIn K mainGlobals "_body_parts" = some (some (.ref f13))) (l13 : K.lookup f13 = some ⟨oc13, od13, .func (PySem.W.fnOf "_body_parts" "_body_parts" (C8.fnArgs s__body_parts) (C8.fnBody s__body_parts) (C8.fnScope s__body_parts) .none kV13 dc13 pm13 an13 cd13 ct13), sl13⟩) (c13 : PySem.W.codeIn K cd13 "_body_parts" = true) (k13 : PySem.W.keepIn K (.ref f13) = true)
    (a14 : PySem.W.nsIn K mainGlobals "_law_number" = some (some (.ref f14))) (l14 : K.lookup f14 = some ⟨oc14, od14, .func (PySem.W.fnOf "_law_number" "_law_number" (C8.fnArgs s__law_number) (C8.fnBody s__law_number) (C8.fnScope s__law_number) .none kV14 dc14 pm14 an14 cd14 ct14), sl14⟩) (c14 : PySem.W.codeIn K cd14 "_law_number" = true) (k14 : PySem.W.keepIn K (.ref f14) = true)
    (a15 : PySem.W.nsIn K mainGlobals "_law_name" = some (some (.ref f15))) (l15 : K.lookup f15 = some ⟨oc15, od15, .func (PySem.W.fnOf "_law_name" "_law_name" (C8.fnArgs s__law_name) (C8.fnBody s__law_name) (C8.fnScope s__law_name) .none kV15 dc15 pm15 an15 cd15 ct15), sl15⟩) (c15 : PySem.W.codeIn K cd15 "_law_name" = true) (k15 : PySem.W.keepIn K (.ref f15) = true)
    (a16 : PySem.W.nsIn K mainGlobals "_law_line" = some (some (.ref f16))) (l16 : K.lookup f16 = some ⟨oc16, od16, .func (PySem.W.fnOf "_law_line" "_law_line" (C8.fnArgs s__law_line) (C8.fnBody s__law_line) (C8.fnScope s__law_line) .none kV16 dc16 pm16 an16 cd16 ct16), sl16⟩) (c16 : PySem.W.codeIn K cd16 "_law_line" = true) (k16 : PySem.W.keepIn K (.ref f16) = true)
    (a17 : PySem.W.nsIn K mainGlobals "_law_header" = some (some (.ref f17))) (l17 : K.lookup f17 = some ⟨oc17, od17, .func (PySem.W.fnOf "_law_header" "_law_header" (C8.fnArgs s__law_header) (C8.fnBody s__law_header) (C8.fnScope s__law_header) .none kV17 dc17 pm17 an17 cd17 ct17), sl17⟩) (c17 : PySem.W.codeIn K cd17 "_law_header" = true) (k17 : PySem.W.keepIn K (.ref f17) = true)
    (a18 : PySem.W.nsIn K mainGlobals "header_lines" = some (some (.ref f18))) (l18 : K.lookup f18 = some ⟨oc18, od18, .func (PySem.W.fnOf "header_lines" "header_lines" (C8.fnArgs s_header_lines) (C8.fnBody s_header_lines) (C8.fnScope s_header_lines) .none kV18 dc18 pm18 an18 cd18 ct18), sl18⟩) (c18 : PySem.W.codeIn K cd18 "header_lines" = true) (k18 : PySem.W.keepIn K (.ref f18) = true)
    (a19 : PySem.W.nsIn K mainGlobals "_law_names" = some (some (.ref f19))) (l19 : K.lookup f19 = some ⟨oc19, od19, .func (PySem.W.fnOf "_law_names" "_law_names" (C8.fnArgs s__law_names) (C8.fnBody s__law_names) (C8.fnScope s__law_names) .none kV19 dc19 pm19 an19 cd19 ct19), sl19⟩) (c19 : PySem.W.codeIn K cd19 "_law_names" = true) (k19 : PySem.W.keepIn K (.ref f19) = true)
    (a20 : PySem.W.nsIn K mainGlobals "_law_title" = some (some (.ref f20))) (l20 : K.lookup f20 = some ⟨oc20, od20, .func (PySem.W.fnOf "_law_title" "_law_title" (C8.fnArgs s__law_title) (C8.fnBody s__law_title) (C8.fnScope s__law_title) .none kV20 dc20 pm20 an20 cd20 ct20), sl20⟩) (c20 : PySem.W.codeIn K cd20 "_law_title" = true) (k20 : PySem.W.keepIn K (.ref f20) = true)
    (a21 : PySem.W.nsIn K mainGlobals "_law_text" = some (some (.ref f21))) (l21 : K.lookup f21 = some ⟨oc21, od21, .func (PySem.W.fnOf "_law_text" "_law_text" (C8.fnArgs s__law_text) (C8.fnBody s__law_text) (C8.fnScope s__law_text) .none kV21 dc21 pm21 an21 cd21 ct21), sl21⟩) (c21 : PySem.W.codeIn K cd21 "_law_text" = true) (k21 : PySem.W.keepIn K (.ref f21) = true)
    (a22 : PySem.W.nsIn K mainGlobals "_law_letter" = some (some (.ref f22))) (l22 : K.lookup f22 = some ⟨oc22, od22, .func (PySem.W.fnOf "_law_letter" "_law_letter" (C8.fnArgs s__law_letter) (C8.fnBody s__law_letter) (C8.fnScope s__law_letter) .none kV22 dc22 pm22 an22 cd22 ct22), sl22⟩) (c22 : PySem.W.codeIn K cd22 "_law_letter" = true) (k22 : PySem.W.keepIn K (.ref f22) = true)
    (a23 : PySem.W.nsIn K mainGlobals "_law_is_mail" = some (some (.ref f23))) (l23 : K.lookup f23 = some ⟨oc23, od23, .func (PySem.W.fnOf "_law_is_mail" "_law_is_mail" (C8.fnArgs s__law_is_mail) (C8.fnBody s__law_is_mail) (C8.fnScope s__law_is_mail) .none kV23 dc23 pm23 an23 cd23 ct23), sl23⟩) (c23 : PySem.W.codeIn K cd23 "_law_is_mail" = true) (k23 : PySem.W.keepIn K (.ref f23) = true)
    (a24 : PySem.W.nsIn K mainGlobals "mail_lines" = some (some (.ref f24))) (l24 : K.lookup f24 = some ⟨oc24, od24, .func (PySem.W.fnOf "mail_lines" "mail_lines" (C8.fnArgs s_mail_lines) (C8.fnBody s_mail_lines) (C8.fnScope s_mail_lines) .none kV24 dc24 pm24 an24 cd24 ct24), sl24⟩) (c24 : PySem.W.codeIn K cd24 "mail_lines" = true) (k24 : PySem.W.keepIn K (.ref f24) = true)
    (a25 : PySem.W.nsIn K mainGlobals "_law_body" = some (some (.ref f25))) (l25 : K.lookup f25 = some ⟨oc25, od25, .func (PySem.W.fnOf "_law_body" "_law_body" (C8.fnArgs s__law_body) (C8.fnBody s__law_body) (C8.fnScope s__law_body) .none kV25 dc25 pm25 an25 cd25 ct25), sl25⟩) (c25 : PySem.W.codeIn K cd25 "_law_body" = true) (k25 : PySem.W.keepIn K (.ref f25) = true)
    (a26 : PySem.W.nsIn K mainGlobals "_law_seen" = some (some (.ref f26))) (l26 : K.lookup f26 = some ⟨oc26, od26, .func (PySem.W.fnOf "_law_seen" "_law_seen" (C8.fnArgs s__law_seen) (C8.fnBody s__law_seen) (C8.fnScope s__law_seen) .none kV26 dc26 pm26 an26 cd26 ct26), sl26⟩) (c26 : PySem.W.codeIn K cd26 "_law_seen" = true) (k26 : PySem.W.keepIn K (.ref f26) = true)
    (a27 : PySem.W.nsIn K mainGlobals "_law_value" = some (some (.ref f27))) (l27 : K.lookup f27 = some ⟨oc27, od27, .func (PySem.W.fnOf "_law_value" "_law_value" (C8.fnArgs s__law_value) (C8.fnBody s__law_value) (C8.fnScope s__law_value) .none kV27 dc27 pm27 an27 cd27 ct27), sl27⟩) (c27 : PySem.W.codeIn K cd27 "_law_value" = true) (k27 : PySem.W.keepIn K (.ref f27) = true)
    (a28 : PySem.W.nsIn K mainGlobals "law" = some (some (.ref f28))) (l28 : K.lookup f28 = some ⟨oc28, od28, .func (PySem.W.fnOf "law" "law" (C8.fnArgs s_law) (C8.fnBody s_law) (C8.fnScope s_law) .none kV28 dc28 pm28 an28 cd28 ct28), sl28⟩) (c28 : PySem.W.codeIn K cd28 "law" = true) (k28 : PySem.W.keepIn K (.ref f28) = true)
    (z0 : PySem.W.nsIn K mainGlobals "str" = some none)
    (z1 : PySem.W.nsIn K mainGlobals "len" = some none)
    (z2 : PySem.W.nsIn K mainGlobals "int" = some none)
    (z3 : PySem.W.nsIn K mainGlobals "isinstance" = some none)
    (z4 : PySem.W.nsIn K mainGlobals "list" = some none)
    (z5 : PySem.W.nsIn K mainGlobals "range" = some none)
    (z6 : PySem.W.nsIn K mainGlobals "zip" = some none)
    (z7 : PySem.W.nsIn K mainGlobals "sorted" = some none)
    (z8 : PySem.W.nsIn K mainGlobals "tuple" = some none)
    (z9 : PySem.W.nsIn K mainGlobals "max" = some none)
    (z10 : PySem.W.nsIn K mainGlobals "min" = some none)
    (aM_HEAD : PySem.W.nsIn K mainGlobals "HEAD" = some (some (.ref A_HEAD)))
    {tHEAD_0 : Tok} {tHEAD_1 : Tok} {tHEAD_2 : Tok} {tHEAD_3 : Tok} {odHEAD : Option Addr} {noHEAD : Nat} {soHEAD : Array (Option Value)} (lM_HEAD : K.lookup A_HEAD = some ⟨.type "tuple", odHEAD, .seq #[(.str "From" tHEAD_0), (.str "Stamp" tHEAD_1), (.str "Seen" tHEAD_2), (.str "Kind" tHEAD_3)] noHEAD, soHEAD⟩)
    (aM_BEHIND : PySem.W.nsIn K mainGlobals "BEHIND" = some (some (.ref A_BEHIND)))
    {esBEHIND : Array DictEntry} {enBEHIND : Nat} {bBEHIND_0 : Addr} {bBEHIND_1 : Addr} {bBEHIND_2 : Addr} {bBEHIND_3 : Addr} {bBEHIND_4 : Addr} {bBEHIND_5 : Addr} {bBEHIND_6 : Addr} {bBEHIND_7 : Addr} {bBEHIND_8 : Addr} {bBEHIND_9 : Addr} {bBEHIND_10 : Addr} (lD_BEHIND : K.lookup A_BEHIND = some ⟨.type "dict", none, .dict esBEHIND enBEHIND, #[]⟩) (eM_BEHIND : Wp.EntLit w.params esBEHIND.toList [(("found" : Str), V.ref bBEHIND_0), (("say" : Str), V.ref bBEHIND_1), (("reply" : Str), V.ref bBEHIND_2), (("edit" : Str), V.ref bBEHIND_3), (("recall" : Str), V.ref bBEHIND_4), (("mark" : Str), V.ref bBEHIND_5), (("title" : Str), V.ref bBEHIND_6), (("add" : Str), V.ref bBEHIND_7), (("cut" : Str), V.ref bBEHIND_8), (("hand" : Str), V.ref bBEHIND_9), (("seen" : Str), V.ref bBEHIND_10)]) (lo_BEHIND : (A_BEHIND == sysModules) = false)
    {tBEHIND_0_0 : Tok} {tBEHIND_0_1 : Tok} {odBEHIND_0 : Option Addr} {noBEHIND_0 : Nat} {soBEHIND_0 : Array (Option Value)} (lM_BEHIND_0 : K.lookup bBEHIND_0 = some ⟨.type "tuple", odBEHIND_0, .seq #[(.str "Title" tBEHIND_0_0), (.str "Members" tBEHIND_0_1)] noBEHIND_0, soBEHIND_0⟩)
    {tBEHIND_1_0 : Tok} {odBEHIND_1 : Option Addr} {noBEHIND_1 : Nat} {soBEHIND_1 : Array (Option Value)} (lM_BEHIND_1 : K.lookup bBEHIND_1 = some ⟨.type "tuple", odBEHIND_1, .seq #[(.str "Lines" tBEHIND_1_0)] noBEHIND_1, soBEHIND_1⟩)
    {tBEHIND_2_0 : Tok} {tBEHIND_2_1 : Tok} {odBEHIND_2 : Option Addr} {noBEHIND_2 : Nat} {soBEHIND_2 : Array (Option Value)} (lM_BEHIND_2 : K.lookup bBEHIND_2 = some ⟨.type "tuple", odBEHIND_2, .seq #[(.str "Ref" tBEHIND_2_0), (.str "Lines" tBEHIND_2_1)] noBEHIND_2, soBEHIND_2⟩)
    {tBEHIND_3_0 : Tok} {tBEHIND_3_1 : Tok} {odBEHIND_3 : Option Addr} {noBEHIND_3 : Nat} {soBEHIND_3 : Array (Option Value)} (lM_BEHIND_3 : K.lookup bBEHIND_3 = some ⟨.type "tuple", odBEHIND_3, .seq #[(.str "Ref" tBEHIND_3_0), (.str "Lines" tBEHIND_3_1)] noBEHIND_3, soBEHIND_3⟩)
    {tBEHIND_4_0 : Tok} {odBEHIND_4 : Option Addr} {noBEHIND_4 : Nat} {soBEHIND_4 : Array (Option Value)} (lM_BEHIND_4 : K.lookup bBEHIND_4 = some ⟨.type "tuple", odBEHIND_4, .seq #[(.str "Ref" tBEHIND_4_0)] noBEHIND_4, soBEHIND_4⟩)
    {tBEHIND_5_0 : Tok} {tBEHIND_5_1 : Tok} {odBEHIND_5 : Option Addr} {noBEHIND_5 : Nat} {soBEHIND_5 : Array (Option Value)} (lM_BEHIND_5 : K.lookup bBEHIND_5 = some ⟨.type "tuple", odBEHIND_5, .seq #[(.str "Ref" tBEHIND_5_0), (.str "Word" tBEHIND_5_1)] noBEHIND_5, soBEHIND_5⟩)
    {tBEHIND_6_0 : Tok} {odBEHIND_6 : Option Addr} {noBEHIND_6 : Nat} {soBEHIND_6 : Array (Option Value)} (lM_BEHIND_6 : K.lookup bBEHIND_6 = some ⟨.type "tuple", odBEHIND_6, .seq #[(.str "Title" tBEHIND_6_0)] noBEHIND_6, soBEHIND_6⟩)
    {tBEHIND_7_0 : Tok} {odBEHIND_7 : Option Addr} {noBEHIND_7 : Nat} {soBEHIND_7 : Array (Option Value)} (lM_BEHIND_7 : K.lookup bBEHIND_7 = some ⟨.type "tuple", odBEHIND_7, .seq #[(.str "Name" tBEHIND_7_0)] noBEHIND_7, soBEHIND_7⟩)
    {tBEHIND_8_0 : Tok} {odBEHIND_8 : Option Addr} {noBEHIND_8 : Nat} {soBEHIND_8 : Array (Option Value)} (lM_BEHIND_8 : K.lookup bBEHIND_8 = some ⟨.type "tuple", odBEHIND_8, .seq #[(.str "Name" tBEHIND_8_0)] noBEHIND_8, soBEHIND_8⟩)
    {tBEHIND_9_0 : Tok} {odBEHIND_9 : Option Addr} {noBEHIND_9 : Nat} {soBEHIND_9 : Array (Option Value)} (lM_BEHIND_9 : K.lookup bBEHIND_9 = some ⟨.type "tuple", odBEHIND_9, .seq #[(.str "Name" tBEHIND_9_0)] noBEHIND_9, soBEHIND_9⟩)
    {odBEHIND_10 : Option Addr} {noBEHIND_10 : Nat} {soBEHIND_10 : Array (Option Value)} (lM_BEHIND_10 : K.lookup bBEHIND_10 = some ⟨.type "tuple", odBEHIND_10, .seq #[] noBEHIND_10, soBEHIND_10⟩)
    {t0 : Tok} (v0 : PySem.W.nsIn K mainGlobals "WIDTH" = some (some (.int 60 t0)))
    {t1 : Tok} (v1 : PySem.W.nsIn K mainGlobals "BAR" = some (some (.str "|" t1)))
    {t2 : Tok} (v2 : PySem.W.nsIn K mainGlobals "PERIOD" = some (some (.str "." t2)))
    : ∃ fd : FuncData, (∀ (s : Shared) (v : Value), BindsTo s fd ⟨[v], []⟩ [("script", v)]) ∧ ∀ base : Heap, K.In base → base.Ns mainGlobals mg → FnOk l.prog w K mg base C8.CX0 6 fa fd ["script"] (spLaw K) := by
  have e := hfa.symm.trans (PySem.W.mg_of X G a28)
  cases e
  have n_str : mg "str" = none := PySem.W.mg_none_of X G z0
  have n_len : mg "len" = none := PySem.W.mg_none_of X G z1
  have n_int : mg "int" = none := PySem.W.mg_none_of X G z2
  have n_isinstance : mg "isinstance" = none := PySem.W.mg_none_of X G z3
  have n_list : mg "list" = none := PySem.W.mg_none_of X G z4
  have n_range : mg "range" = none := PySem.W.mg_none_of X G z5
  have n_zip : mg "zip" = none := PySem.W.mg_none_of X G z6
  have n_sorted : mg "sorted" = none := PySem.W.mg_none_of X G z7
  have n_tuple : mg "tuple" = none := PySem.W.mg_none_of X G z8
  have n_max : mg "max" = none := PySem.W.mg_none_of X G z9
  have n_min : mg "min" = none := PySem.W.mg_none_of X G z10
  have g_WIDTH : ∃ u, mg "WIDTH" = some u ∧ RelV v_WIDTH u := ⟨_, PySem.W.mg_of X G v0, _, rfl⟩
  have g_BAR : ∃ u, mg "BAR" = some u ∧ RelV v_BAR u := ⟨_, PySem.W.mg_of X G v1, _, rfl⟩
  have g_PERIOD : ∃ u, mg "PERIOD" = some u ∧ RelV v_PERIOD u := ⟨_, PySem.W.mg_of X G v2, _, rfl⟩
  have m_HEAD := PySem.W.mg_of X G aM_HEAD
  have TH_HEAD : IsM_HEAD K A_HEAD := (TupK.mk' lM_HEAD (Nat.le_of_ble_eq_true rfl) (.cons ⟨_, rfl⟩ (.cons ⟨_, rfl⟩ (.cons ⟨_, rfl⟩ (.cons ⟨_, rfl⟩ .nil)))))
  have m_BEHIND := PySem.W.mg_of X G aM_BEHIND
  have M_BEHIND : Wp.MDict K w A_BEHIND (tabG [(("found" : Str), V.ref bBEHIND_0), (("say" : Str), V.ref bBEHIND_1), (("reply" : Str), V.ref bBEHIND_2), (("edit" : Str), V.ref bBEHIND_3), (("recall" : Str), V.ref bBEHIND_4), (("mark" : Str), V.ref bBEHIND_5), (("title" : Str), V.ref bBEHIND_6), (("add" : Str), V.ref bBEHIND_7), (("cut" : Str), V.ref bBEHIND_8), (("hand" : Str), V.ref bBEHIND_9), (("seen" : Str), V.ref bBEHIND_10)]) := Wp.mdictL lD_BEHIND eM_BEHIND lo_BEHIND
  have TH_BEHIND : IsM_BEHIND K [(("found" : Str), V.ref bBEHIND_0), (("say" : Str), V.ref bBEHIND_1), (("reply" : Str), V.ref bBEHIND_2), (("edit" : Str), V.ref bBEHIND_3), (("recall" : Str), V.ref bBEHIND_4), (("mark" : Str), V.ref bBEHIND_5), (("title" : Str), V.ref bBEHIND_6), (("add" : Str), V.ref bBEHIND_7), (("cut" : Str), V.ref bBEHIND_8), (("hand" : Str), V.ref bBEHIND_9), (("seen" : Str), V.ref bBEHIND_10)] := ⟨_, _, _, _, _, _, _, _, _, _, _, rfl, (TupK.mk' lM_BEHIND_0 (Nat.le_of_ble_eq_true rfl) (.cons ⟨_, rfl⟩ (.cons ⟨_, rfl⟩ .nil))), (TupK.mk' lM_BEHIND_1 (Nat.le_of_ble_eq_true rfl) (.cons ⟨_, rfl⟩ .nil)), (TupK.mk' lM_BEHIND_2 (Nat.le_of_ble_eq_true rfl) (.cons ⟨_, rfl⟩ (.cons ⟨_, rfl⟩ .nil))), (TupK.mk' lM_BEHIND_3 (Nat.le_of_ble_eq_true rfl) (.cons ⟨_, rfl⟩ (.cons ⟨_, rfl⟩ .nil))), (TupK.mk' lM_BEHIND_4 (Nat.le_of_ble_eq_true rfl) (.cons ⟨_, rfl⟩ .nil)), (TupK.mk' lM_BEHIND_5 (Nat.le_of_ble_eq_true rfl) (.cons ⟨_, rfl⟩ (.cons ⟨_, rfl⟩ .nil))), (TupK.mk' lM_BEHIND_6 (Nat.le_of_ble_eq_true rfl) (.cons ⟨_, rfl⟩ .nil)), (TupK.mk' lM_BEHIND_7 (Nat.le_of_ble_eq_true rfl) (.cons ⟨_, rfl⟩ .nil)), (TupK.mk' lM_BEHIND_8 (Nat.le_of_ble_eq_true rfl) (.cons ⟨_, rfl⟩ .nil)), (TupK.mk' lM_BEHIND_9 (Nat.le_of_ble_eq_true rfl) (.cons ⟨_, rfl⟩ .nil)), (TupK.mk' lM_BEHIND_10 (Nat.le_of_ble_eq_true rfl) .nil)⟩
  have LC_Letter : IsC_Letter K C_Letter := ⟨⟨pg_Letter, hd_Letter, po_Letter, sa_Letter⟩, nf_Letter_author, nf_Letter_number, nf_Letter_stamp, nf_Letter_seen, nf_Letter_body, nf_Letter_counts⟩
  have F0 : C8.Fun K "text_of" "text_of" s_text_of _ _ := ⟨⟨_, _, _, _, _, _, _, _, _, _, rfl, l0, c0⟩⟩
  have F1 : C8.Fun K "_cut_of" "_cut_of" s__cut_of _ _ := ⟨⟨_, _, _, _, _, _, _, _, _, _, rfl, l1, c1⟩⟩
  have F2 : C8.Fun K "__init__" "Letter.__init__" s_Letter___init__ _ _ := ⟨⟨_, _, _, _, _, _, _, _, _, _, rfl, l2, c2⟩⟩
  have F3 : C8.Fun K "ref" "Letter.ref" s_Letter_ref _ _ := ⟨⟨_, _, _, _, _, _, _, _, _, _, rfl, l3, c3⟩⟩
  have F4 : C8.Fun K "value" "Letter.value" s_Letter_value _ _ := ⟨⟨_, _, _, _, _, _, _, _, _, _, rfl, l4, c4⟩⟩
  have F5 : C8.Fun K "_pair_words" "_pair_words" s__pair_words _ _ := ⟨⟨_, _, _, _, _, _, _, _, _, _, rfl, l5, c5⟩⟩
  have F6 : C8.Fun K "_count_lines" "_count_lines" s__count_lines _ _ := ⟨⟨_, _, _, _, _, _, _, _, _, _, rfl, l6, c6⟩⟩
  have F7 : C8.Fun K "_law_cell" "_law_cell" s__law_cell _ _ := ⟨⟨_, _, _, _, _, _, _, _, _, _, rfl, l7, c7⟩⟩
  have F8 : C8.Fun K "_law_stream" "_law_stream" s__law_stream _ _ := ⟨⟨_, _, _, _, _, _, _, _, _, _, rfl, l8, c8⟩⟩
  have F9 : C8.Fun K "_law_next" "_law_next" s__law_next _ _ := ⟨⟨_, _, _, _, _, _, _, _, _, _, rfl, l9, c9⟩⟩
  have F10 : C8.Fun K "_law_text_of" "_law_text_of" s__law_text_of _ _ := ⟨⟨_, _, _, _, _, _, _, _, _, _, rfl, l10, c10⟩⟩
  have F11 : C8.Fun K "_law_folded" "_law_folded" s__law_folded _ _ := ⟨⟨_, _, _, _, _, _, _, _, _, _, rfl, l11, c11⟩⟩
  have F12 : C8.Fun K "fold" "fold" s_fold _ _ := ⟨⟨_, _, _, _, _, _, _, _, _, _, rfl, l12, c12⟩⟩
  have F13 : C8.Fun K "_body_parts" "_body_parts" s__body_parts _ _ := ⟨⟨_, _, _, _, _, _, _, _, _, _, rfl, l13, c13⟩⟩
  have F14 : C8.Fun K "_law_number" "_law_number" s__law_number _ _ := ⟨⟨_, _, _, _, _, _, _, _, _, _, rfl, l14, c14⟩⟩
  have F15 : C8.Fun K "_law_name" "_law_name" s__law_name _ _ := ⟨⟨_, _, _, _, _, _, _, _, _, _, rfl, l15, c15⟩⟩
  have F16 : C8.Fun K "_law_line" "_law_line" s__law_line _ _ := ⟨⟨_, _, _, _, _, _, _, _, _, _, rfl, l16, c16⟩⟩
  have F17 : C8.Fun K "_law_header" "_law_header" s__law_header _ _ := ⟨⟨_, _, _, _, _, _, _, _, _, _, rfl, l17, c17⟩⟩
  have F18 : C8.Fun K "header_lines" "header_lines" s_header_lines _ _ := ⟨⟨_, _, _, _, _, _, _, _, _, _, rfl, l18, c18⟩⟩
  have F19 : C8.Fun K "_law_names" "_law_names" s__law_names _ _ := ⟨⟨_, _, _, _, _, _, _, _, _, _, rfl, l19, c19⟩⟩
  have F20 : C8.Fun K "_law_title" "_law_title" s__law_title _ _ := ⟨⟨_, _, _, _, _, _, _, _, _, _, rfl, l20, c20⟩⟩
  have F21 : C8.Fun K "_law_text" "_law_text" s__law_text _ _ := ⟨⟨_, _, _, _, _, _, _, _, _, _, rfl, l21, c21⟩⟩
  have F22 : C8.Fun K "_law_letter" "_law_letter" s__law_letter _ _ := ⟨⟨_, _, _, _, _, _, _, _, _, _, rfl, l22, c22⟩⟩
  have F23 : C8.Fun K "_law_is_mail" "_law_is_mail" s__law_is_mail _ _ := ⟨⟨_, _, _, _, _, _, _, _, _, _, rfl, l23, c23⟩⟩
  have F24 : C8.Fun K "mail_lines" "mail_lines" s_mail_lines _ _ := ⟨⟨_, _, _, _, _, _, _, _, _, _, rfl, l24, c24⟩⟩
  have F25 : C8.Fun K "_law_body" "_law_body" s__law_body _ _ := ⟨⟨_, _, _, _, _, _, _, _, _, _, rfl, l25, c25⟩⟩
  have F26 : C8.Fun K "_law_seen" "_law_seen" s__law_seen _ _ := ⟨⟨_, _, _, _, _, _, _, _, _, _, rfl, l26, c26⟩⟩
  have F27 : C8.Fun K "_law_value" "_law_value" s__law_value _ _ := ⟨⟨_, _, _, _, _, _, _, _, _, _, rfl, l27, c27⟩⟩
  have F28 : C8.Fun K "law" "law" s_law _ _ := ⟨⟨_, _, _, _, _, _, _, _, _, _, rfl, l28, c28⟩⟩
  refine ⟨PySem.W.fnOf "law" "law" (C8.fnArgs s_law) (C8.fnBody s_law) (C8.fnScope s_law) .none kV28 dc28 pm28 an28 cd28 ct28, fun s v => .of_eq rfl, fun base _ _ => ?_⟩
  have c_text_of := c_text_of (P := l.prog) (w := w) (base := base) ⟨F0, PySem.W.mg_of X G a0, k0⟩ (F0.binds rfl fun _ _ _ _ _ _ us hl => match us, hl with | [_], _ => rfl) 
  have c__cut_of := c__cut_of (P := l.prog) (w := w) (base := base) ⟨F1, PySem.W.mg_of X G a1, k1⟩ (F1.binds rfl fun _ _ _ _ _ _ us hl => match us, hl with | [_, _, _], _ => rfl) 
  have c_Letter___init__ := c_Letter___init__ (P := l.prog) (w := w) (base := base) ⟨mk_Letter, a2, i2, kc_Letter⟩ (PySem.W.mg_of X G aC_Letter) F2 (F2.binds rfl fun _ _ _ _ _ _ us hl => match us, hl with | [_, _, _, _, _, _], _ => rfl) LC_Letter
  have c_Letter_ref := c_Letter_ref (P := l.prog) (w := w) (mg := mg) (base := base) ⟨a3, g3, t3_, ⟨_, r3⟩⟩ F3 (F3.binds rfl fun _ _ _ _ _ _ us hl => match us, hl with | [_], _ => rfl) LC_Letter
  have c_Letter_value := c_Letter_value (P := l.prog) (w := w) (mg := mg) (base := base) ⟨a4, i4, k4⟩ F4 (F4.binds rfl fun _ _ _ _ _ _ us hl => match us, hl with | [_], _ => rfl) LC_Letter
  have c__pair_words := c__pair_words (P := l.prog) (w := w) (base := base) ⟨F5, PySem.W.mg_of X G a5, k5⟩ (F5.binds rfl fun _ _ _ _ _ _ us hl => match us, hl with | [_], _ => rfl) 
  have c__count_lines := c__count_lines (P := l.prog) (w := w) (base := base) ⟨F6, PySem.W.mg_of X G a6, k6⟩ (F6.binds rfl fun _ _ _ _ _ _ us hl => match us, hl with | [_], _ => rfl) n_str
  have c__law_cell := c__law_cell (P := l.prog) (w := w) (base := base) ⟨F7, PySem.W.mg_of X G a7, k7⟩ (F7.binds rfl fun _ _ _ _ _ _ us hl => match us, hl with | [_, _], _ => rfl) n_len
  have c__law_stream := c__law_stream (P := l.prog) (w := w) (base := base) ⟨F8, PySem.W.mg_of X G a8, k8⟩ (F8.binds rfl fun _ _ _ _ _ _ us hl => match us, hl with | [_, _], _ => rfl) n_int
  have c__law_next := c__law_next (P := l.prog) (w := w) (base := base) ⟨F9, PySem.W.mg_of X G a9, k9⟩ (F9.binds rfl fun _ _ _ _ _ _ us hl => match us, hl with | [_, _], _ => rfl) n_int
  have c__law_text_of := c__law_text_of (P := l.prog) (w := w) (base := base) ⟨F10, PySem.W.mg_of X G a10, k10⟩ (F10.binds rfl fun _ _ _ _ _ _ us hl => match us, hl with | [_], _ => rfl) n_len
  have c__law_folded := c__law_folded (P := l.prog) (w := w) (base := base) ⟨F11, PySem.W.mg_of X G a11, k11⟩ (F11.binds rfl fun _ _ _ _ _ _ us hl => match us, hl with | [_, _, _], _ => rfl) n_isinstance n_list n_range n_len n_str
  have c_fold := c_fold (P := l.prog) (w := w) (base := base) ⟨F12, PySem.W.mg_of X G a12, k12⟩ (F12.binds rfl fun _ _ _ _ _ _ us hl => match us, hl with | [_, _], _ => rfl) c__cut_of n_len
  have c__body_parts := c__body_parts (P := l.prog) (w := w) (base := base) ⟨F13, PySem.W.mg_of X G a13, k13⟩ (F13.binds rfl fun _ _ _ _ _ _ us hl => match us, hl with | [_], _ => rfl) c__count_lines c__pair_words n_list
  have c__law_number := c__law_number (P := l.prog) (w := w) (base := base) ⟨F14, PySem.W.mg_of X G a14, k14⟩ (F14.binds rfl fun _ _ _ _ _ _ us hl => match us, hl with | [_], _ => rfl) c__law_next
  have c__law_name := c__law_name (P := l.prog) (w := w) (base := base) ⟨F15, PySem.W.mg_of X G a15, k15⟩ (F15.binds rfl fun _ _ _ _ _ _ us hl => match us, hl with | [_], _ => rfl) c__law_next n_range
  have c__law_line := c__law_line (P := l.prog) (w := w) (base := base) ⟨F16, PySem.W.mg_of X G a16, k16⟩ (F16.binds rfl fun _ _ _ _ _ _ us hl => match us, hl with | [_, _], _ => rfl) c__law_next n_range n_int
  have c__law_header := c__law_header (P := l.prog) (w := w) (base := base) ⟨F17, PySem.W.mg_of X G a17, k17⟩ (F17.binds rfl fun _ _ _ _ _ _ us hl => match us, hl with | [_], _ => rfl) c__law_text_of n_str n_len
  have c_header_lines := c_header_lines (P := l.prog) (w := w) (base := base) ⟨F18, PySem.W.mg_of X G a18, k18⟩ (F18.binds rfl fun _ _ _ _ _ _ us hl => match us, hl with | [_], _ => rfl) LC_Letter c__pair_words c_Letter_ref c__body_parts n_str n_zip m_HEAD TH_HEAD m_BEHIND M_BEHIND TH_BEHIND
  have c__law_names := c__law_names (P := l.prog) (w := w) (base := base) ⟨F19, PySem.W.mg_of X G a19, k19⟩ (F19.binds rfl fun _ _ _ _ _ _ us hl => match us, hl with | [_, _], _ => rfl) c__law_next c__law_name n_range n_sorted
  have c__law_title := c__law_title (P := l.prog) (w := w) (base := base) ⟨F20, PySem.W.mg_of X G a20, k20⟩ (F20.binds rfl fun _ _ _ _ _ _ us hl => match us, hl with | [_], _ => rfl) c__law_next c__law_line
  have c__law_text := c__law_text (P := l.prog) (w := w) (base := base) ⟨F21, PySem.W.mg_of X G a21, k21⟩ (F21.binds rfl fun _ _ _ _ _ _ us hl => match us, hl with | [_], _ => rfl) c__law_next c__law_line n_range n_int
  have c__law_letter := c__law_letter (P := l.prog) (w := w) (base := base) ⟨F22, PySem.W.mg_of X G a22, k22⟩ (F22.binds rfl fun _ _ _ _ _ _ us hl => match us, hl with | [_], _ => rfl) LC_Letter c_Letter___init__
  have c__law_is_mail := c__law_is_mail (P := l.prog) (w := w) (base := base) ⟨F23, PySem.W.mg_of X G a23, k23⟩ (F23.binds rfl fun _ _ _ _ _ _ us hl => match us, hl with | [_, _], _ => rfl) c__law_header c__law_folded c__law_text_of n_isinstance n_list n_len n_str
  have c_mail_lines := c_mail_lines (P := l.prog) (w := w) (base := base) ⟨F24, PySem.W.mg_of X G a24, k24⟩ (F24.binds rfl fun _ _ _ _ _ _ us hl => match us, hl with | [_], _ => rfl) LC_Letter c_header_lines c_fold c_text_of g_WIDTH g_BAR g_PERIOD
  have c__law_body := c__law_body (P := l.prog) (w := w) (base := base) ⟨F25, PySem.W.mg_of X G a25, k25⟩ (F25.binds rfl fun _ _ _ _ _ _ us hl => match us, hl with | [_, _], _ => rfl) c__law_next c__law_title c__law_names c__law_text c__law_name c__law_number n_tuple
  have c__law_seen := c__law_seen (P := l.prog) (w := w) (base := base) ⟨F26, PySem.W.mg_of X G a26, k26⟩ (F26.binds rfl fun _ _ _ _ _ _ us hl => match us, hl with | [_, _, _], _ => rfl) c__law_names c__law_next c__law_number n_range n_str n_tuple n_sorted
  have c__law_value := c__law_value (P := l.prog) (w := w) (base := base) ⟨F27, PySem.W.mg_of X G a27, k27⟩ (F27.binds rfl fun _ _ _ _ _ _ us hl => match us, hl with | [_], _ => rfl) c__law_name c__law_body c__law_number c__law_next c__law_seen n_max n_min
  exact f_law F28 LC_Letter c__law_value c__law_stream c__law_cell c__law_letter c_mail_lines c__law_is_mail c_Letter_value n_range n_min n_len
end T
open PySem PySem.W PyProof.Rows
set_option maxHeartbeats 0 in
theorem PySem.Challenge.cw_lettersonce_k13_mail_lines_holds : PySem.Challenge.rw_lettersonce_k13_mail_lines.Holds := by
  w_on; o_law; k_head; (case hw => w_witness2)
  k_fill
  refine L2.walk_of (l := PySem.Challenge.rw_lettersonce_k13_mail_lines) (n := 63) (k := 6) (x := "script") (CX := fun _ => C8.CX0) (sp := fun w => T.spLaw _) rfl (by decide) rfl ⟨rfl, by decide, by decide⟩ (fun w h Y => PySem.W.kIn_of Y) ?F (fun _ _ a ns hl _ hS => ⟨a, ns, rfl, hS, hl, fun _ => rfl⟩) (fun _ _ _ _ _ h => h)
  case F =>
    intro w mg fa h KX G hmg
    refine' T.all_mk KX G hmg ?aC_Letter ?pg_Letter ?hd_Letter ?po_Letter ?sa_Letter ?mk_Letter ?kc_Letter ?nf_Letter_author ?nf_Letter_number ?nf_Letter_stamp ?nf_Letter_seen ?nf_Letter_body ?nf_Letter_counts ?a0 ?l0 ?c0 ?k0 ?a1 ?l1 ?c1 ?k1 ?a2 ?i2 ?l2 ?c2 ?k2 ?a3 ?g3 ?t3_ ?r3 ?l3 ?c3 ?a4 ?i4 ?l4 ?c4 ?k4 ?a5 ?l5 ?c5 ?k5 ?a6 ?l6 ?c6 ?k6 ?a7 ?l7 ?c7 ?k7 ?a8 ?l8 ?c8 ?k8 ?a9 ?l9 ?c9 ?k9 ?a10 ?l10 ?c10 ?k10 ?a11 ?l11 ?c11 ?k11 ?a12 ?l12 ?c12 ?k12 ?a13 ?l13 ?c13 ?k13 ?a14 ?l14 ?c14 ?k14 ?a15 ?l15 ?c15 ?k15 ?a16 ?l16 ?c16 ?k16 ?a17 ?l17 ?c17 ?k17 ?a18 ?l18 ?c18 ?k18 ?a19 ?l19 ?c19 ?k19 ?a20 ?l20 ?c20 ?k20 ?a21 ?l21 ?c21 ?k21 ?a22 ?l22 ?c22 ?k22 ?a23 ?l23 ?c23 ?k23 ?a24 ?l24 ?c24 ?k24 ?a25 ?l25 ?c25 ?k25 ?a26 ?l26 ?c26 ?k26 ?a27 ?l27 ?c27 ?k27 ?a28 ?l28 ?c28 ?k28 ?z0 ?z1 ?z2 ?z3 ?z4 ?z5 ?z6 ?z7 ?z8 ?z9 ?z10 ?aM_HEAD ?lM_HEAD ?aM_BEHIND ?lD_BEHIND ?eM_BEHIND ?lo_BEHIND ?lM_BEHIND_0 ?lM_BEHIND_1 ?lM_BEHIND_2 ?lM_BEHIND_3 ?lM_BEHIND_4 ?lM_BEHIND_5 ?lM_BEHIND_6 ?lM_BEHIND_7 ?lM_BEHIND_8 ?lM_BEHIND_9 ?lM_BEHIND_10 ?v0 ?v1 ?v2
    (case aC_Letter => k_is); (case pg_Letter => k_is); (case hd_Letter => k_is); (case po_Letter => k_is); (case sa_Letter => k_is); (case mk_Letter => k_is); (case kc_Letter => k_is); (case nf_Letter_author => k_is); (case nf_Letter_number => k_is); (case nf_Letter_stamp => k_is); (case nf_Letter_seen => k_is); (case nf_Letter_body => k_is); (case nf_Letter_counts => k_is); (case a0 => k_is); (case l0 => k_is); (case c0 => k_is); (case k0 => k_is); (case a1 => k_is); (case l1 => k_is); (case c1 => k_is); (case k1 => k_is); (case a2 => k_is); (case i2 => k_is); (case l2 => k_is); (case c2 => k_is); (case k2 => k_is); (case a3 => k_is); (case g3 => k_is); (case t3_ => k_is); (case r3 => k_is); (case l3 => k_is); (case c3 => k_is); (case a4 => k_is); (case i4 => k_is); (case l4 => k_is); (case c4 => k_is); (case k4 => k_is); (case a5 => k_is); (case l5 => k_is); (case c5 => k_is); (case k5 => k_is); (case a6 => k_is); (case l6 => k_is); (case c6 => k_is); (case k6 => k_is); (case a7 => k_is); (case l7 => k_is); (case c7 => k_is); (case k7 => k_is); (case a8 => k_is); (case l8 => k_is); (case c8 => k_is); (case k8 => k_is); (case a9 => k_is); (case l9 => k_is); (case c9 => k_is); (case k9 => k_is); (case a10 => k_is); (case l10 => k_is); (case c10 => k_is); (case k10 => k_is); (case a11 => k_is); (case l11 => k_is); (case c11 => k_is); (case k11 => k_is); (case a12 => k_is); (case l12 => k_is); (case c12 => k_is); (case k12 => k_is); (case a13 => k_is); (case l13 => k_is); (case c13 => k_is); (case k13 => k_is); (case a14 => k_is); (case l14 => k_is); (case c14 => k_is); (case k14 => k_is); (case a15 => k_is); (case l15 => k_is); (case c15 => k_is); (case k15 => k_is); (case a16 => k_is); (case l16 => k_is); (case c16 => k_is); (case k16 => k_is); (case a17 => k_is); (case l17 => k_is); (case c17 => k_is); (case k17 => k_is); (case a18 => k_is); (case l18 => k_is); (case c18 => k_is); (case k18 => k_is); (case a19 => k_is); (case l19 => k_is); (case c19 => k_is); (case k19 => k_is); (case a20 => k_is); (case l20 => k_is); (case c20 => k_is); (case k20 => k_is); (case a21 => k_is); (case l21 => k_is); (case c21 => k_is); (case k21 => k_is); (case a22 => k_is); (case l22 => k_is); (case c22 => k_is); (case k22 => k_is); (case a23 => k_is); (case l23 => k_is); (case c23 => k_is); (case k23 => k_is); (case a24 => k_is); (case l24 => k_is); (case c24 => k_is); (case k24 => k_is); (case a25 => k_is); (case l25 => k_is); (case c25 => k_is); (case k25 => k_is); (case a26 => k_is); (case l26 => k_is); (case c26 => k_is); (case k26 => k_is); (case a27 => k_is); (case l27 => k_is); (case c27 => k_is); (case k27 => k_is); (case a28 => k_is); (case l28 => k_is); (case c28 => k_is); (case k28 => k_is); (case z0 => k_is); (case z1 => k_is); (case z2 => k_is); (case z3 => k_is); (case z4 => k_is); (case z5 => k_is); (case z6 => k_is); (case z7 => k_is); (case z8 => k_is); (case z9 => k_is); (case z10 => k_is); (case aM_HEAD => k_is); (case lM_HEAD => k_is); (case aM_BEHIND => k_is); (case lD_BEHIND => k_is); (case eM_BEHIND => exact ⟨⟨_, rfl, rfl, rfl⟩, ⟨⟨_, rfl, rfl, rfl⟩, ⟨⟨_, rfl, rfl, rfl⟩, ⟨⟨_, rfl, rfl, rfl⟩, ⟨⟨_, rfl, rfl, rfl⟩, ⟨⟨_, rfl, rfl, rfl⟩, ⟨⟨_, rfl, rfl, rfl⟩, ⟨⟨_, rfl, rfl, rfl⟩, ⟨⟨_, rfl, rfl, rfl⟩, ⟨⟨_, rfl, rfl, rfl⟩, ⟨⟨_, rfl, rfl, rfl⟩, trivial⟩⟩⟩⟩⟩⟩⟩⟩⟩⟩⟩); (case lo_BEHIND => rfl); (case lM_BEHIND_0 => k_is); (case lM_BEHIND_1 => k_is); (case lM_BEHIND_2 => k_is); (case lM_BEHIND_3 => k_is); (case lM_BEHIND_4 => k_is); (case lM_BEHIND_5 => k_is); (case lM_BEHIND_6 => k_is); (case lM_BEHIND_7 => k_is); (case lM_BEHIND_8 => k_is); (case lM_BEHIND_9 => k_is); (case lM_BEHIND_10 => k_is); (case v0 => k_is); (case v1 => k_is); (case v2 => k_is)
