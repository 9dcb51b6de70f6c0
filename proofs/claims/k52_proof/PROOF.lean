import PyProof.Rows.All
import Wide.All
import OpenK.AllK
import Wide.FinOn
import HandS.ForMost
import HandS.IsInst
import HandS.More
import PyProof.TypeEq
import PyProof.InstEq
import HandS.Codes
import HandS.TupLe
import HandS.Walk
import HandS.StrMore
import PyProof.StrBlock2
import HandS.Property
import HandS.DictComp
import HandS.HeadHook3
import HandS.Zip
import HandS.FStr
import HandS.TupAny
import PyProof.FitsInt
import KE.DataCmp
import HandS.Exc
import HandS.ExcOwn
import HandS.ExcIs
import HandS.TryOnly
import PyProof.EqAt
import PyProof.EqKinds
import PyProof.DictRoadsH
import HandS.Base
import HandS.Dict
import HandS.NoneIn
import HandS.SetKeys
import HandS.Star
import KE.KDictPairs
import KE.SortData
import HandS.Lambda
import HandS.SortKw
import HandS.EndTab
import KE.SortKeyHeap
import HandS.TupMul
import HandS.OwnIter
import HandS.IterVal
import OpenK.KOps
import HandS.DictTup
import PyProof.DictMoreH
import HandS.Conv
import HandS.DictSubView
import KE.KDictWalk
import HandS.TupLen
import PySem.Challenge.RW_lettersonce_k52_items_of_a_board
set_option Elab.async false
set_option linter.all false
set_option maxRecDepth 100000
set_option maxHeartbeats 4000000
namespace TyNe
open PySem PySem.Spec PyProof.Rows L2 PySem.TypeEq Builtin

theorem slot_type_ne : Slot "type" (cmpInfo .NotEq).2.1 "object.__ne__" :=
  .of (owner := "object") (n := "__ne__") (by rw [typeLookup_type, builtinLookup_eq_fast]; kernel_rfl) (by decide +kernel) (by decide +kernel) (by decide +kernel)
    (by first | exact .inl (by decide +kernel) | exact .inr (by decide +kernel)) (by rw [isSubtype_type]; kernel_rfl)
theorem slot_type_ne_refl : Slot "type" (cmpInfo .NotEq).2.2 "object.__ne__" :=
  .of (owner := "object") (n := "__ne__") (by rw [typeLookup_type, builtinLookup_eq_fast]; kernel_rfl) (by decide +kernel) (by decide +kernel) (by decide +kernel)
    (by first | exact .inl (by decide +kernel) | exact .inr (by decide +kernel)) (by rw [isSubtype_type]; kernel_rfl)
theorem slot_type_eq' : Slot "type" "__eq__" "object.__eq__" := slot_type_eq
section
variable {prog : Program} {w : World} {A : Around} {E : Value → Shared → Prop} {s : Shared}
theorem ne_entry_same {X : String} (hX : ∀ s' : Shared, s'.TypeIs (.type X) "type") {Q : Fin → Shared → Prop} (h : Q (.done (.ret (.bool false))) s) :
    wpAny (model prog w) A (Builtin.«object.__ne__» ⟨[.type X, .type X], []⟩) Q E s := by
  unfold Builtin.«object.__ne__»
  repeat (first
    | with_reducible refine wpAny_cRoomFor_or (.inl rfl) ?_
    | (refine wpAny_bind (m := callSpecialIfBound? (.type X) (Str.ofString "__eq__") [.type X]) (wpAny_callSpecialIfBound?_slot (hX s) slot_type_eq'
        (call_gives slot_type_eq' (hX s) F.entry_object_eq (F.args_object_eq_2 _ _) (object_eq_same rfl (by simp)) ?_)))
    | wp_step)
  show wpAny _ A _ Q E s
  repeat (first | exact h | exact wpAny_pure h | (refine wpAny_bind (m := truthy (.bool _)) (wpAny_truthy_bool ?_)) | wp_step)
theorem ne_entry_other {X Y : String} (hX : ∀ s' : Shared, s'.TypeIs (.type X) "type") (hne : (Value.type X == Value.type Y) = false) {Q : Fin → Shared → Prop} (h : Q (.done (.ret .notImplemented)) s) :
    wpAny (model prog w) A (Builtin.«object.__ne__» ⟨[.type X, .type Y], []⟩) Q E s := by
  unfold Builtin.«object.__ne__»
  repeat (first
    | with_reducible refine wpAny_cRoomFor_or (.inl rfl) ?_
    | (refine wpAny_bind (m := callSpecialIfBound? (.type X) (Str.ofString "__eq__") [.type Y]) (wpAny_callSpecialIfBound?_slot (hX s) slot_type_eq'
        (call_gives slot_type_eq' (hX s) F.entry_object_eq (F.args_object_eq_2 _ _) (object_eq_other rfl hne) ?_)))
    | wp_step)
  show wpAny _ A _ Q E s
  repeat (first | exact h | exact wpAny_pure h | wp_step)
theorem call_ne_same {X : String} (hX : ∀ s' : Shared, s'.TypeIs (.type X) "type") {Q : Value → Shared → Prop} (h : Q (.bool false) s) :
    wpAny (model prog w) A (call (.builtin "object.__ne__") [.type X, .type X]) Q E s :=
  wpAny_call_entry slot_type_ne (hX s) F.cmpEntry_ne (ne_entry_same hX ⟨_, rfl, h⟩) (F.cmpArgs_ne _ _)
theorem call_ne_other {X Y : String} (hX : ∀ s' : Shared, s'.TypeIs (.type X) "type") (hne : (Value.type X == Value.type Y) = false) {Q : Value → Shared → Prop} (h : Q .notImplemented s) :
    wpAny (model prog w) A (call (.builtin "object.__ne__") [.type X, .type Y]) Q E s :=
  wpAny_call_entry slot_type_ne (hX s) F.cmpEntry_ne (ne_entry_other hX hne ⟨_, rfl, h⟩) (F.cmpArgs_ne _ _)
theorem ne_type_same {Q : Value → Shared → Prop} {X : String} (hX : ∀ s' : Shared, s'.TypeIs (.type X) "type") (h : Q (.bool false) s) : wpAny (model prog w) A (compareOp .NotEq (.type X) (.type X)) Q E s := by
  show wpAny _ A (richCompare .NotEq _ _) Q E s
  exact wpAny_richCompare_same (T := "type") (hX s) (hX s) slot_type_ne (call_ne_same hX ⟨(by intro e; cases e), h⟩)
theorem rich_ne_decline {M : Model} {a b : Value} {T id : String} {k : Bool} {Q : Value → Shared → Prop} (ha : ∀ s' : Shared, s'.TypeIs a T) (hb : ∀ s' : Shared, s'.TypeIs b T)
    (h1 : Slot T (cmpInfo .NotEq).2.1 id) (h2 : Slot T (cmpInfo .NotEq).2.2 id) (hv : [a, b].any Value.onHeap = false) (hk : isSame a b = pure k)
    (hc : wpAny M A (call (.builtin id) [a, b]) (fun v s₁ => v = .notImplemented ∧ wpAny M A (call (.builtin id) [b, a]) (fun v s₂ => v = .notImplemented ∧ Q (.bool (!k)) s₂) E s₁) E s) :
    wpAny M A (richCompare .NotEq a b) Q E s := by
  rcases hi : cmpInfo CmpOp.NotEq with ⟨sym, f, r⟩
  rw [hi] at h1 h2
  simp only [richCompare, hi, (ha s).oneThing_none]
  try with_reducible refine wpAny_holding ?_
  refine wpAny_bind (wpAny_cRoomFor_or (.inl hv) ?_)
  refine wpAny_bind (wpAny_typeOf (ha s) (wpAny_bind (wpAny_typeOf (hb s) ?_)))
  simp only [bne_self_eq_false, Bool.false_eq_true, if_false, pure_bind, Bool.not_false, if_true]
  refine wpAny_bind (m := tryCompare a _ b) (wpAny_tryCompare_declines (ha s) h1 (wpAny_mono hc (fun v s₁ h₁ => ⟨h₁.1, ?_⟩) fun _ _ x => x))
  refine wpAny_bind (m := tryCompare b _ a) (wpAny_tryCompare_declines (hb s₁) h2 (wpAny_mono h₁.2 (fun v s₂ h₂ => ⟨h₂.1, ?_⟩) fun _ _ x => x))
  refine wpAny_bind (wpAny_rule (wpAny_bind (wpAny_of_eq hk (wpAny_pure h₂.2))))
theorem ne_type_other {Q : Value → Shared → Prop} {X Y : String} (hX : ∀ s' : Shared, s'.TypeIs (.type X) "type") (hY : ∀ s' : Shared, s'.TypeIs (.type Y) "type") (hne : (Value.type X == Value.type Y) = false) (h : Q (.bool true) s) : wpAny (model prog w) A (compareOp .NotEq (.type X) (.type Y)) Q E s := by
  have hne' : (Value.type Y == Value.type X) = false := by
    rw [Bool.eq_false_iff] at hne ⊢
    intro e
    exact hne (by rw [beq_iff_eq] at e ⊢; exact e.symm)
  show wpAny _ A (richCompare .NotEq _ _) Q E s
  exact rich_ne_decline (T := "type") (k := false) hX hY slot_type_ne slot_type_ne_refl rfl (by rw [isSame_plain rfl, hne])
    (call_ne_other hX hne ⟨rfl, call_ne_other hY hne' ⟨rfl, h⟩⟩)
end
/-- the types whose own type is plainly `type` -/
def Ty9 (a : String) : Prop := ∀ s' : Shared, s'.TypeIs (.type a) "type"
section
variable {X : Cx}
def rEqTy : R2 := fun x y H Q => ∃ a b, x = .ty a ∧ y = .ty b ∧ Ty9 a ∧ Ty9 b ∧ Q (.bl (decide (a = b))) H
def rNeTy : R2 := fun x y H Q => ∃ a b, x = .ty a ∧ y = .ty b ∧ Ty9 a ∧ Ty9 b ∧ Q (.bl (!decide (a = b))) H
theorem op_eqTy : OpR X (compareOp .Eq) rEqTy := by
  intro pins s σ H x y v u Q I rx ry h
  obtain ⟨a, b, rfl, rfl, ta, tb, q⟩ := h
  cases (show v = Value.type a from rx)
  cases (show u = Value.type b from ry)
  by_cases e : a = b
  · subst e
    exact eq_type_same ta (fin_bl I q (by simp))
  · exact eq_type_other ta tb (by rw [ty_beq]; exact decide_eq_false e) (fin_bl I q (by simp [e]))
theorem op_neTy : OpR X (compareOp .NotEq) rNeTy := by
  intro pins s σ H x y v u Q I rx ry h
  obtain ⟨a, b, rfl, rfl, ta, tb, q⟩ := h
  cases (show v = Value.type a from rx)
  cases (show u = Value.type b from ry)
  by_cases e : a = b
  · subst e
    exact ne_type_same ta (fin_bl I q (by simp))
  · exact ne_type_other ta tb (by rw [ty_beq]; exact decide_eq_false e) (fin_bl I q (by simp [e]))
end
end TyNe

namespace Wp
open PySem PySem.Spec PyProof.Rows L2 TyNe

/-! ### the rules' readings under short names -/
abbrev qAdd : R2 := rI0 fun i j => .int (i + j)
abbrev qSub : R2 := rI0 fun i j => .int (i - j)
abbrev qMul : R2 := rI CMul fun i j => .int (i * j)
abbrev qFdiv : R2 := rI CDiv fun i j => .int (i / j)
abbrev qMod : R2 := rI (fun _ j => 0 < j) fun i j => .int (i % j)
abbrev qPow : R2 := rI CPow fun i j => .int (i ^ j.toNat)
abbrev qNeg : V → Hp → VK → Prop := rU fun i => .int (-i)
abbrev qLt : R2 := rI0 fun i j => .bl (decide (i < j))
abbrev qLe : R2 := rI0 fun i j => .bl (decide (i ≤ j))
abbrev qGt : R2 := rI0 fun i j => .bl (decide (j < i))
abbrev qGe : R2 := rI0 fun i j => .bl (decide (j ≤ i))
abbrev qAddS : R2 := fun x y H Q => ∃ i j, x = .str i ∧ y = .str j ∧ i.length + j.length ≤ sizeLine ∧ Q (.str (i ++ j)) H
abbrev qInSign : R2 := fun x y H Q => ∃ (c : Nat) (z : Str), x = .str ⟨#[c]⟩ ∧ y = .str z ∧ Q (.bl (decide (c ∈ z.cps.toList))) H
abbrev qNinSign : R2 := fun x y H Q => ∃ (c : Nat) (z : Str), x = .str ⟨#[c]⟩ ∧ y = .str z ∧ Q (.bl (!decide (c ∈ z.cps.toList))) H
abbrev qLtS : R2 := fun x y H Q => ∃ i j, x = .str i ∧ y = .str j ∧ Q (.bl (decide (i.cps.toList < j.cps.toList))) H
abbrev qLeS : R2 := fun x y H Q => ∃ i j, x = .str i ∧ y = .str j ∧ Q (.bl (!decide (j.cps.toList < i.cps.toList))) H
abbrev qGtS : R2 := fun x y H Q => ∃ i j, x = .str i ∧ y = .str j ∧ Q (.bl (decide (j.cps.toList < i.cps.toList))) H
abbrev qGeS : R2 := fun x y H Q => ∃ i j, x = .str i ∧ y = .str j ∧ Q (.bl (!decide (i.cps.toList < j.cps.toList))) H
abbrev qIsBl : R2 := fun x y H Q => ∃ a b, x = .bl a ∧ y = .bl b ∧ Q (.bl (decide (a = b))) H
abbrev qLenStr : List V → Hp → VK → Prop := fun xs H Q => ∃ z, xs = [.str z] ∧ z.length ≤ sizeLine ∧ Q (.int z.length) H
abbrev qLenSeq (K : PySem.W.Frag) : List V → Hp → VK → Prop := fun xs H Q => ∃ p ys, xs = [.ref p] ∧ (SqL K H p ys ∨ SqT K H p ys) ∧ Q (.int ys.length) H
abbrev qInt1 : List V → Hp → VK → Prop := fun xs H Q => (∃ i, xs = [.int i] ∧ Q (.int i) H) ∨ ∃ k, xs = [.bl k] ∧ Q (.int (if k then 1 else 0)) H
abbrev qStrInt : List V → Hp → VK → Prop := fun xs H Q => ∃ i : Int, xs = [.int i] ∧ i.natAbs.log2 < 1920 ∧ Q (.str (toString i)) H
abbrev qTupleOf (K : PySem.W.Frag) : List V → Hp → VK → Prop := fun xs H Q => ∃ p ys, xs = [.ref p] ∧ ((SqL K H p ys ∧ ∀ l, H l = none → Q (.ref l) (upd H l (.tup ys))) ∨ (SqT K H p ys ∧ Q (.ref p) H))
abbrev qListOf (K : PySem.W.Frag) : List V → Hp → VK → Prop := fun xs H Q => ∃ p ys, xs = [.ref p] ∧ (SqL K H p ys ∨ SqT K H p ys) ∧ ∀ l, H l = none → Q (.ref l) (upd H l (.lst ys))
abbrev qIsN : R2 := fun x y H Q => y = .non ∧ Q (.bl (decide (x = .non))) H
abbrev qNotN : R2 := fun x y H Q => y = .non ∧ Q (.bl (!decide (x = .non))) H
abbrev qMax2 : List V → Hp → VK → Prop := fun xs H Q => ∃ i j, xs = [.int i, .int j] ∧ Q (.int (if j > i then j else i)) H
abbrev qMin2 : List V → Hp → VK → Prop := fun xs H Q => ∃ i j, xs = [.int i, .int j] ∧ Q (.int (if j < i then j else i)) H

/-! ### heaps -/
/-- what was tracked stands as it stood, but p -/
def Kp (p : Addr) (H H' : Hp) : Prop := ∀ b o, b ≠ p → H b = some o → H' b = some o
theorem Same.kp {p : Addr} {H H' : Hp} (h : Same H H') : Kp p H H' := fun b o _ e => h b o e
theorem Kp.refl {p : Addr} {H : Hp} : Kp p H H := fun _ _ _ e => e
theorem Kp.trans {p : Addr} {H H1 H2 : Hp} (a : Kp p H H1) (b : Kp p H1 H2) : Kp p H H2 := fun c o n e => b c o n (a c o n e)
theorem Kp.get {p : Addr} {H H' : Hp} (h : Kp p H H') {b : Addr} {o : HO} (n : b ≠ p) (e : H b = some o) : H' b = some o := h b o n e
theorem Kp.updp {p : Addr} {H H' : Hp} {o : HO} (h : Kp p H H') : Kp p H (upd H' p o) := fun b u n e => by
  rw [upd_ne n]
  exact h b u n e
theorem Kp.upd {p a : Addr} {H H' : Hp} {o : HO} (h : Kp p H H') (n : H a = none) : Kp p H (upd H' a o) := fun b u m e => by
  rw [upd_ne (ne_of_none e n)]
  exact h b u m e
theorem Same.upd {a : Addr} {H H' : Hp} {o : HO} (h : Same H H') (n : H a = none) : Same H (L2.upd H' a o) := fun b u e => by
  rw [upd_ne (ne_of_none e n)]
  exact h b u e
theorem Kp.same {p : Addr} {H H' : Hp} (h : Kp p H H') (n : H p = none) : Same H H' := fun b o e => h b o (ne_of_none e n) e
theorem Kp.free {p a : Addr} {H H' : Hp} (h : Kp p H H') (n : a ≠ p) (e : H' a = none) : H a = none := by
  cases q : H a with
  | none => rfl
  | some o => rw [h a o n q] at e; cases e
/-- a stream -/
def Stm (H : Hp) (p : Addr) : Prop := ∃ a b : Int, H p = some (.lst [.int a, .int b]) ∧ 0 ≤ a ∧ 0 ≤ b
theorem Stm.ne {H : Hp} {p a : Addr} (h : Stm H p) (e : H a = none) : a ≠ p := by
  obtain ⟨x, y, h, _⟩ := h
  exact (ne_of_none h e).symm
theorem Stm.same {H H' : Hp} {p : Addr} (h : Stm H p) (s : Same H H') : Stm H' p := by
  obtain ⟨x, y, h, r⟩ := h
  exact ⟨x, y, s _ _ h, r⟩
theorem Stm.up {H : Hp} {p a : Addr} {o : HO} (h : Stm H p) (e : H a = none) : Stm (L2.upd H a o) p := by
  obtain ⟨x, y, h, r⟩ := h
  exact ⟨x, y, by rw [upd_ne (ne_of_none h e)]; exact h, r⟩

/-! ### steps, in the order of the reading -/
section
variable {K : PySem.W.Frag} {σ : L2.St} {H : Hp} {Q : VK} {v : V} {ta tb tc te : TE} {tt uu : TT} {r r' : R2} {D : Ends} {t u : TS}
theorem w_var {i : Nat} (h : σ[i]? = some (some v)) (q : Q v H) : tVar i σ H Q := ⟨v, h, q⟩
theorem w_c (q : Q v H) : tC v σ H Q := q
theorem w_op (q : ta σ H fun x H1 => tb σ H1 fun y H2 => r x y H2 Q) : tOp r ta tb σ H Q := q
theorem w_un {r : V → Hp → VK → Prop} (q : ta σ H fun x H1 => r x H1 Q) : tUn r ta σ H Q := q
theorem w_I0 {g : Int → Int → V} {i j : Int} (q : Q (g i j) H) : rI0 g (.int i) (.int j) H Q := ⟨i, j, rfl, rfl, q⟩
theorem w_I {C : Int → Int → Prop} {g : Int → Int → V} {i j : Int} (c : C i j) (q : Q (g i j) H) : rI C g (.int i) (.int j) H Q := ⟨i, j, rfl, rfl, c, q⟩
theorem w_U {g : Int → V} {i : Int} (q : Q (g i) H) : rU g (.int i) H Q := ⟨i, rfl, q⟩
theorem w_eqI {i j : Int} (q : Q (.bl (decide (i = j))) H) : rEq (.int i) (.int j) H Q := ⟨rfl, by
  have e : decide (V.int i = V.int j) = decide (i = j) := by rw [decide_eq_decide]; exact ⟨fun z => V.int.inj z, fun z => by rw [z]⟩
  rw [e]; exact q⟩
theorem w_neI {i j : Int} (q : Q (.bl (decide (i ≠ j))) H) : rNe (.int i) (.int j) H Q := ⟨rfl, by
  have e : (!decide (V.int i = V.int j)) = decide (i ≠ j) := by rw [decide_not]; congr 1; rw [decide_eq_decide]; exact ⟨fun z => V.int.inj z, fun z => by rw [z]⟩
  rw [e]; exact q⟩
theorem w_eqS {i j : Str} (q : Q (.bl (decide (i = j))) H) : rEq (.str i) (.str j) H Q := ⟨rfl, by
  have e : decide (V.str i = V.str j) = decide (i = j) := by rw [decide_eq_decide]; exact ⟨fun z => V.str.inj z, fun z => by rw [z]⟩
  rw [e]; exact q⟩
theorem w_neS {i j : Str} (q : Q (.bl (decide (i ≠ j))) H) : rNe (.str i) (.str j) H Q := ⟨rfl, by
  have e : (!decide (V.str i = V.str j)) = decide (i ≠ j) := by rw [decide_not]; congr 1; rw [decide_eq_decide]; exact ⟨fun z => V.str.inj z, fun z => by rw [z]⟩
  rw [e]; exact q⟩
theorem w_eqB {i j : Bool} (q : Q (.bl (decide (i = j))) H) : rEq (.bl i) (.bl j) H Q := ⟨rfl, by
  have e : decide (V.bl i = V.bl j) = decide (i = j) := by rw [decide_eq_decide]; exact ⟨fun z => V.bl.inj z, fun z => by rw [z]⟩
  rw [e]; exact q⟩
theorem w_eqTy {a b : String} (ha : Ty9 a) (hb : Ty9 b) (q : Q (.bl (decide (a = b))) H) : rEqTy (.ty a) (.ty b) H Q := ⟨a, b, rfl, rfl, ha, hb, q⟩
theorem w_neTy {a b : String} (ha : Ty9 a) (hb : Ty9 b) (q : Q (.bl (decide (a ≠ b))) H) : rNeTy (.ty a) (.ty b) H Q := ⟨a, b, rfl, rfl, ha, hb, by rw [← decide_not]; exact q⟩
theorem w_addS {i j : Str} (h : i.length + j.length ≤ sizeLine) (q : Q (.str (i ++ j)) H) : qAddS (.str i) (.str j) H Q := ⟨i, j, rfl, rfl, h, q⟩
theorem w_inSign {c : Nat} {z : Str} (q : Q (.bl (decide (c ∈ z.cps.toList))) H) : qInSign (.str ⟨#[c]⟩) (.str z) H Q := ⟨c, z, rfl, rfl, q⟩
theorem w_ninSign {c : Nat} {z : Str} (q : Q (.bl (!decide (c ∈ z.cps.toList))) H) : qNinSign (.str ⟨#[c]⟩) (.str z) H Q := ⟨c, z, rfl, rfl, q⟩
theorem w_ixL {p : Addr} {xs : List V} {i : Int} (h : SqL K H p xs) (ha : atI xs i = some v) (q : Q v H) : rIxL K (.ref p) (.int i) H Q := ⟨p, xs, i, v, rfl, rfl, h, ha, q⟩
theorem w_ixT {p : Addr} {xs : List V} {i : Int} (h : SqT K H p xs) (ha : atI xs i = some v) (q : Q v H) : rIxT K (.ref p) (.int i) H Q := ⟨p, xs, i, v, rfl, rfl, h, ha, q⟩
theorem w_ixS {z : Str} {i : Int} {c : Nat} (h : z.length ≤ sizeLine) (ha : atI z.cps.toList i = some c) (q : Q (.str ⟨#[c]⟩) H) : rIxS (.str z) (.int i) H Q := ⟨z, i, c, rfl, rfl, h, ha, q⟩
theorem w_nil {R : List V → Hp → Prop} (q : R [] H) : tNil σ H R := q
theorem w_cons {tr : TA} {R : List V → Hp → Prop} (q : ta σ H fun x H1 => tr σ H1 fun xs H2 => R (x :: xs) H2) : tCons ta tr σ H R := q
theorem w_tup {tr : TA} (q : tr σ H fun xs H1 => xs.length ≤ sizeLine ∧ ∀ p, H1 p = none → Q (.ref p) (upd H1 p (.tup xs))) : tTup tr σ H Q := q
theorem w_lst {tr : TA} (q : tr σ H fun xs H1 => xs.length ≤ sizeLine ∧ ∀ p, H1 p = none → Q (.ref p) (upd H1 p (.lst xs))) : tLst tr σ H Q := q
theorem w_cb {r : List V → Hp → VK → Prop} {tr : TA} (q : tr σ H fun vs H1 => r vs H1 Q) : tCB r tr σ H Q := q
theorem w_lenStr {z : Str} (h : z.length ≤ sizeLine) (q : Q (.int z.length) H) : qLenStr [.str z] H Q := ⟨z, rfl, h, q⟩
theorem w_lenL {p : Addr} {xs : List V} (h : SqL K H p xs) (q : Q (.int xs.length) H) : qLenSeq K [.ref p] H Q := ⟨p, xs, rfl, .inl h, q⟩
theorem w_lenT {p : Addr} {xs : List V} (h : SqT K H p xs) (q : Q (.int xs.length) H) : qLenSeq K [.ref p] H Q := ⟨p, xs, rfl, .inr h, q⟩
theorem w_int1 {i : Int} (q : Q (.int i) H) : qInt1 [.int i] H Q := .inl ⟨i, rfl, q⟩
theorem w_int1b {c : Prop} [Decidable c] (q : Q (.int (if c then 1 else 0)) H) : qInt1 [.bl (decide c)] H Q := .inr ⟨_, rfl, by
  by_cases h : c
  · simp only [h, decide_true, if_true] at q ⊢; exact q
  · simp only [h, decide_false, if_false, Bool.false_eq_true] at q ⊢; exact q⟩
theorem w_strInt {i : Int} (h0 : 0 ≤ i) (h1 : i ≤ 100000000000000000000) (q : Q (.str (toString i)) H) : qStrInt [.int i] H Q := ⟨i, rfl, by
  have h2 : i.natAbs ≤ 100000000000000000000 := by omega
  have h3 : i.natAbs.log2 < 67 := by
    by_cases h : i.natAbs = 0
    · rw [h]; decide
    · exact (Nat.log2_lt h).mpr (Nat.lt_of_le_of_lt h2 (by decide))
  omega, q⟩
theorem w_tupleOfL {p : Addr} {ys : List V} (h : SqL K H p ys) (q : ∀ l, H l = none → Q (.ref l) (upd H l (.tup ys))) : qTupleOf K [.ref p] H Q := ⟨p, ys, rfl, .inl ⟨h, q⟩⟩
theorem w_tupleOfT {p : Addr} {ys : List V} (h : SqT K H p ys) (q : Q (.ref p) H) : qTupleOf K [.ref p] H Q := ⟨p, ys, rfl, .inr ⟨h, q⟩⟩
theorem w_listOf {p : Addr} {ys : List V} (h : SqL K H p ys ∨ SqT K H p ys) (q : ∀ l, H l = none → Q (.ref l) (upd H l (.lst ys))) : qListOf K [.ref p] H Q := ⟨p, ys, rfl, h, q⟩
theorem w_isN (q : Q (.bl (decide (v = .non))) H) : qIsN v .non H Q := ⟨rfl, q⟩
theorem w_notN (q : Q (.bl (!decide (v = .non))) H) : qNotN v .non H Q := ⟨rfl, q⟩
theorem w_bm {T : String} {r : V → List V → Hp → VK → Prop} {tr : TA} (q : te σ H fun x H1 => tyV K T x H1 ∧ tr σ H1 fun xs H2 => r x xs H2 Q) : tBM K T r te tr σ H Q := q
theorem w_tyL {p : Addr} {xs : List V} {A : Prop} (h : H p = some (.lst xs)) (q : A) : tyV K "list" (.ref p) H ∧ A := ⟨.inl ⟨rfl, xs, SqL.of h⟩, q⟩
theorem w_app {p : Addr} {xs : List V} (h : H p = some (.lst xs)) (z : xs.length < sizeLine) (q : Q .non (upd H p (.lst (xs ++ [v])))) : rAppend (.ref p) [v] H Q := ⟨p, xs, v, rfl, rfl, h, z, q⟩
theorem w_inL {neg : Bool} {p : Addr} {xs : List V} (h : SqL K H p xs) (f : flatV v = true) (fs : xs.all flatV = true) (q : Q (.bl (if neg then !inV v xs else inV v xs)) H) : rIn K neg v (.ref p) H Q := ⟨p, xs, rfl, .inl h, f, fs, q⟩
theorem w_inT {neg : Bool} {p : Addr} {xs : List V} (h : SqT K H p xs) (f : flatV v = true) (fs : xs.all flatV = true) (q : Q (.bl (if neg then !inV v xs else inV v xs)) H) : rIn K neg v (.ref p) H Q := ⟨p, xs, rfl, .inr h, f, fs, q⟩
theorem inV_strs (z : Str) (ys : List Str) : inV (.str z) (ys.map V.str) = decide (z ∈ ys) := by
  unfold inV
  rw [List.any_map, Bool.eq_iff_iff, List.any_eq_true, decide_eq_true_eq]
  constructor
  · rintro ⟨y, hy, e⟩
    have e' : (y == z) = true := e
    rw [beq_iff_eq] at e'
    exact e' ▸ hy
  · intro h
    refine ⟨z, h, ?_⟩
    show (z == z) = true
    exact beq_self_eq_true z
theorem flat_strs (ys : List Str) : (ys.map V.str).all flatV = true := by
  rw [List.all_map, List.all_eq_true]
  intro y _
  rfl
theorem w_max2 {i j : Int} (q : Q (.int (if j > i then j else i)) H) : qMax2 [.int i, .int j] H Q := ⟨i, j, rfl, q⟩
theorem w_min2 {i j : Int} (q : Q (.int (if j < i then j else i)) H) : qMin2 [.int i, .int j] H Q := ⟨i, j, rfl, q⟩
theorem w_test {R : Bool → Hp → Prop} (q : te σ H fun x H' => ∃ k, x = .bl k ∧ R k H') : tTest te σ H R := q
theorem w_B {R : Bool → Hp → Prop} (q : te σ H fun x H' => ∃ k, x = .bl k ∧ R k H') : tB te σ H R := q
theorem w_exb {b : Bool} {R : Bool → Prop} (q : R b) : ∃ k, V.bl b = .bl k ∧ R k := ⟨b, rfl, q⟩
theorem w_and {R : Bool → Hp → Prop} (q : tt σ H fun c H1 => if c = true then uu σ H1 R else R false H1) : tAnd tt uu σ H R := q
theorem w_or {R : Bool → Hp → Prop} (q : tt σ H fun c H1 => if c = true then R true H1 else uu σ H1 R) : tOr tt uu σ H R := q
theorem w_not {R : Bool → Hp → Prop} (q : tt σ H fun c H1 => R (!c) H1) : tNot tt σ H R := q
theorem w_andV (q : ta σ H fun x H1 => ∃ c, x = .bl c ∧ if c = true then tb σ H1 Q else Q (.bl false) H1) : tAndV ta tb σ H Q := q
theorem w_orV (q : ta σ H fun x H1 => ∃ c, x = .bl c ∧ if c = true then Q (.bl true) H1 else tb σ H1 Q) : tOrV ta tb σ H Q := q
theorem w_notV (q : ta σ H fun x H1 => ∃ c, x = .bl c ∧ Q (.bl (!c)) H1) : tNotV ta σ H Q := q
theorem w_if (q : tt σ H fun c H1 => if c = true then ta σ H1 Q else tb σ H1 Q) : tIf tt ta tb σ H Q := q
theorem w_chain (q : ta σ H fun x H1 => tb σ H1 fun y H2 => r x y H2 fun z H3 => ∃ k, z = .bl k ∧ (if k = true then tc σ H3 fun w' H4 => r' y w' H4 Q else Q (.bl false) H3)) : tChain r r' ta tb tc σ H Q := q
theorem w_ifS (q : tt σ H fun b H1 => if b = true then t D σ H1 else u D σ H1) : tIfS tt t u D σ H := q
theorem w_ifCut {Mid : L2.St → Hp → Prop} (k : ∀ σ' H', Mid σ' H' → D.nx σ' H') (q : ∀ R : L2.St → Hp → Prop, (∀ σ' H', Mid σ' H' → R σ' H') → tIfS tt t u { D with nx := R } σ H) : tIfS tt t u D σ H := q _ k
theorem cmul_l {i j : Int} (h0 : -1000000000000 ≤ i) (h1 : i ≤ 1000000000000) : CMul i j := .inl ⟨by omega, by omega⟩
theorem cmul_r {i j : Int} (h0 : -1000000000000 ≤ j) (h1 : j ≤ 1000000000000) : CMul i j := .inr ⟨by omega, by omega⟩
theorem w_ite {c A B : Prop} [Decidable c] (h1 : c → A) (h2 : ¬ c → B) : if decide c = true then A else B := by
  by_cases h : c
  · rw [if_pos (decide_eq_true h)]; exact h1 h
  · rw [if_neg (by rw [decide_eq_true_iff]; exact h)]; exact h2 h
theorem w_iteN {c A B : Prop} [Decidable c] (h1 : ¬ c → A) (h2 : c → B) : if (!decide c) = true then A else B := by
  by_cases h : c
  · rw [decide_eq_true h, if_neg (by decide)]; exact h2 h
  · rw [decide_eq_false h]; exact h1 h
theorem w_iteb {b : Bool} {A B : Prop} (h1 : b = true → A) (h2 : b = false → B) : if b = true then A else B := by
  cases b
  · rw [if_neg (by decide)]; exact h2 rfl
  · rw [if_pos rfl]; exact h1 rfl
theorem w_seq (q : t { D with nx := u D } σ H) : tSeq t u D σ H := q
theorem w_next (q : D.nx σ H) : tNext D σ H := q
theorem w_asg {g : TG} (q : te σ H fun x H1 => g x σ H1 D.nx) : tAsg te g D σ H := q
theorem w_name {i : Nat} {R : L2.St → Hp → Prop} (q : R (σ.set i (some v)) H) : gName i v σ H R := q
theorem w_sub {to ti : TE} {ts : TSet} {R : L2.St → Hp → Prop} (q : to σ H fun o H1 => ti σ H1 fun i H2 => ts o i v H2 fun H3 => R σ H3) : gSub to ti ts v σ H R := q
theorem w_setL {p : Addr} {xs : List V} {k : Int} {j : Nat} {R : Hp → Prop} (h : H p = some (.lst xs)) (hj : ixN xs.length k = some j) (q : R (upd H p (.lst (xs.set j v)))) : rSetL (.ref p) (.int k) v H R := ⟨p, xs, k, j, rfl, rfl, h, hj, q⟩
theorem w_ret (q : te σ H D.rt) : tRet te D σ H := q
theorem w_retN (q : D.rt .non H) : tRetN D σ H := q
theorem w_drop (q : te σ H fun _ H1 => D.nx σ H1) : tDrop te D σ H := q
theorem w_call {sp : Sp} {dvs : List V} {E : XK} {tr : TA} (q : tr σ H fun vs H1 => sp (vs ++ dvs) H1 Q E) : tCall sp dvs E tr σ H Q := q
theorem w_sl {r : V → Option Int → Option Int → Hp → VK → Prop} {tl th : TO} (q : te σ H fun x H1 => tl σ H1 fun l H2 => th σ H2 fun u H3 => r x l u H3 Q) : tSl r te tl th σ H Q := q
theorem w_noPart {R : Option Int → Hp → Prop} (q : R none H) : tNoPart σ H R := q
theorem w_part {R : Option Int → Hp → Prop} (q : te σ H fun x H1 => ∃ i, x = .int i ∧ R (some i) H1) : tPart te σ H R := q
theorem w_exi {i : Int} {R : Int → Prop} (q : R i) : ∃ k, V.int i = .int k ∧ R k := ⟨i, rfl, q⟩
theorem w_slS {z : Str} {lo hi : Option Int} (h : z.length ≤ sizeLine) (q : Q (.str (cutS z lo hi)) H) : rSlS (.str z) lo hi H Q := ⟨z, rfl, h, q⟩
theorem w_isi {x : V} {t : Value} {T : String} {b : Bool} (h : TyX K H x t) (k : PySem.W.kitOne K t (.type T) = some b) (q : Q (.bl b) H) : rIsi K [x, .ty T] H Q := ⟨x, _, t, _, b, rfl, .ty T, h, k, q⟩
theorem w_typ {x : V} {T : String} (h : TyB K H x T) (q : Q (.ty T) H) : rTyp K [x] H Q := ⟨x, T, rfl, h, q⟩
theorem w_cat {l b : Addr} {xs zs : List V} (h : H l = some (.lst xs)) (h' : H b = some (.lst zs)) (z : xs.length + zs.length ≤ sizeLine) (q : ∀ p, H p = none → Q (.ref p) (upd H p (.lst (xs ++ zs)))) : rCat (.ref l) (.ref b) H Q := ⟨l, b, xs, zs, rfl, rfl, h, h', z, q⟩
theorem w_isBl {a b : Bool} (q : Q (.bl (decide (a = b))) H) : qIsBl (.bl a) (.bl b) H Q := ⟨a, b, rfl, rfl, q⟩
theorem w_nf {A B : Prop} (q : A) : if (!false) = true then A else B := q
theorem w_nt {A B : Prop} (q : B) : if (!true) = true then A else B := q
theorem w_len0 {n : Nat} {A : Prop} (h : n ≤ sizeLine) (q : A) : n ≤ sizeLine ∧ A := ⟨h, q⟩
end
theorem sz {n : Nat} (h : n ≤ 100000) : n ≤ sizeLine := Nat.le_trans h (by decide)
theorem atI_of {α : Type} {xs : List α} {i : Int} {v : α} (h0 : 0 ≤ i) (h : xs[i.toNat]? = some v) : atI xs i = some v := by
  have e : ((i.toNat : Nat) : Int) = i := Int.toNat_of_nonneg h0
  rw [← e]
  exact atI_nat h
end Wp

namespace Wp
open PySem PySem.Spec PyProof.Rows L2 TyNe

/-! ### what is made of data -/
mutual
/-- v denotes d at H; every object on the way stands at an address that ok takes -/
inductive Dn (ok : Addr → Prop) (H : Hp) : V → PyData → Prop where
  | non : Dn ok H .non .none
  | bl (b : Bool) : Dn ok H (.bl b) (.bool b)
  | int (i : Int) : Dn ok H (.int i) (.int i)
  | str (x : Str) : Dn ok H (.str x) (.str x)
  | lst {a : Addr} {xs : List V} {ds : List PyData} (ha : ok a) (h : H a = some (.lst xs)) (hs : DnAll ok H xs ds) : Dn ok H (.ref a) (.list ds)
  | tup {a : Addr} {xs : List V} {ds : List PyData} (ha : ok a) (h : H a = some (.tup xs)) (hs : DnAll ok H xs ds) : Dn ok H (.ref a) (.tuple ds)
  | dic {a : Addr} {kvs : List (Key × V)} (ha : ok a) (h : H a = some (.dK kvs)) : Dn ok H (.ref a) (.dict [])
inductive DnAll (ok : Addr → Prop) (H : Hp) : List V → List PyData → Prop where
  | nil : DnAll ok H [] []
  | cons {v : V} {vs : List V} {d : PyData} {ds : List PyData} (h : Dn ok H v d) (hs : DnAll ok H vs ds) : DnAll ok H (v :: vs) (d :: ds)
end
mutual
theorem Dn.step {ok : Addr → Prop} {H H' : Hp} (k : ∀ a o, ok a → H a = some o → H' a = some o) {v : V} {d : PyData} : Dn ok H v d → Dn ok H' v d
  | .non => .non
  | .bl b => .bl b
  | .int i => .int i
  | .str x => .str x
  | .lst ha h hs => .lst ha (k _ _ ha h) (DnAll.step k hs)
  | .tup ha h hs => .tup ha (k _ _ ha h) (DnAll.step k hs)
  | .dic ha h => .dic ha (k _ _ ha h)
theorem DnAll.step {ok : Addr → Prop} {H H' : Hp} (k : ∀ a o, ok a → H a = some o → H' a = some o) {vs : List V} {ds : List PyData} : DnAll ok H vs ds → DnAll ok H' vs ds
  | .nil => .nil
  | .cons h hs => .cons (Dn.step k h) (DnAll.step k hs)
end
mutual
theorem Dn.weak {ok ok' : Addr → Prop} {H : Hp} (k : ∀ a o, ok a → H a = some o → ok' a) {v : V} {d : PyData} : Dn ok H v d → Dn ok' H v d
  | .non => .non
  | .bl b => .bl b
  | .int i => .int i
  | .str x => .str x
  | .lst ha h hs => .lst (k _ _ ha h) h (DnAll.weak k hs)
  | .tup ha h hs => .tup (k _ _ ha h) h (DnAll.weak k hs)
  | .dic ha h => .dic (k _ _ ha h) h
theorem DnAll.weak {ok ok' : Addr → Prop} {H : Hp} (k : ∀ a o, ok a → H a = some o → ok' a) {vs : List V} {ds : List PyData} : DnAll ok H vs ds → DnAll ok' H vs ds
  | .nil => .nil
  | .cons h hs => .cons (Dn.weak k h) (DnAll.weak k hs)
end
/-- off the address p -/
abbrev Off (p : Addr) : Addr → Prop := fun a => a ≠ p
abbrev Any : Addr → Prop := fun _ => True
theorem Dn.same {ok : Addr → Prop} {H H' : Hp} {v : V} {d : PyData} (h : Dn ok H v d) (s : Same H H') : Dn ok H' v d := h.step fun a o _ e => s a o e
theorem Dn.kp {p : Addr} {H H' : Hp} {v : V} {d : PyData} (h : Dn (Off p) H v d) (s : Kp p H H') : Dn (Off p) H' v d := h.step fun a o n e => s a o n e
theorem Dn.any {ok : Addr → Prop} {H : Hp} {v : V} {d : PyData} (h : Dn ok H v d) : Dn Any H v d := h.weak fun _ _ _ _ => trivial
theorem Dn.off {ok : Addr → Prop} {p : Addr} {H : Hp} {v : V} {d : PyData} (h : Dn ok H v d) (n : H p = none) : Dn (Off p) H v d := h.weak fun a o _ e => ne_of_none e n
theorem DnAll.same {ok : Addr → Prop} {H H' : Hp} {v : List V} {d : List PyData} (h : DnAll ok H v d) (s : Same H H') : DnAll ok H' v d := h.step fun a o _ e => s a o e
theorem DnAll.kp {p : Addr} {H H' : Hp} {v : List V} {d : List PyData} (h : DnAll (Off p) H v d) (s : Kp p H H') : DnAll (Off p) H' v d := h.step fun a o n e => s a o n e
theorem DnAll.any {ok : Addr → Prop} {H : Hp} {v : List V} {d : List PyData} (h : DnAll ok H v d) : DnAll Any H v d := h.weak fun _ _ _ _ => trivial
theorem DnAll.off {ok : Addr → Prop} {p : Addr} {H : Hp} {v : List V} {d : List PyData} (h : DnAll ok H v d) (n : H p = none) : DnAll (Off p) H v d := h.weak fun a o _ e => ne_of_none e n
theorem DnAll.len {ok : Addr → Prop} {H : Hp} : ∀ {vs : List V} {ds : List PyData}, DnAll ok H vs ds → vs.length = ds.length
  | _, _, .nil => rfl
  | _, _, .cons _ hs => congrArg (· + 1) (DnAll.len hs)
theorem DnAll.get {ok : Addr → Prop} {H : Hp} : ∀ {vs : List V} {ds : List PyData} {i : Nat} {v : V}, DnAll ok H vs ds → vs[i]? = some v → ∃ d, ds[i]? = some d ∧ Dn ok H v d
  | _, _, _, _, .nil, e => by simp at e
  | _, _, 0, _, .cons h _, e => by
    have e' := Option.some.inj e
    subst e'
    exact ⟨_, rfl, h⟩
  | _, _, i + 1, v, .cons _ hs, e => DnAll.get (i := i) hs e
theorem DnAll.app {ok : Addr → Prop} {H : Hp} : ∀ {vs ws : List V} {ds es : List PyData}, DnAll ok H vs ds → DnAll ok H ws es → DnAll ok H (vs ++ ws) (ds ++ es)
  | _, _, _, _, .nil, h => h
  | _, _, _, _, .cons h hs, h' => .cons h (DnAll.app hs h')
def tyN : PyData → String
  | .none => "NoneType" | .bool _ => "bool" | .int _ => "int" | .str _ => "str" | .list _ => "list" | .tuple _ => "tuple" | .dict _ => "dict"
theorem Dn.tyB {K : PySem.W.Frag} {ok : Addr → Prop} {H : Hp} {v : V} {d : PyData} (h : Dn ok H v d) : TyB K H v (tyN d) := by
  cases h with
  | non => exact .non
  | bl b => exact .bl b
  | int i => exact .int i
  | str x => exact .str x
  | lst ha h hs => exact .lst (SqL.of h)
  | tup ha h hs => exact .tup (SqT.of h)
  | dic ha h => exact .dK h
theorem Dn.tyX {K : PySem.W.Frag} {ok : Addr → Prop} {H : Hp} {v : V} {d : PyData} (h : Dn ok H v d) : TyX K H v (.type (tyN d)) := by
  cases h with
  | non => exact .base .non
  | bl b => exact .base (.bl b)
  | int i => exact .base (.int i)
  | str x => exact .base (.str x)
  | lst ha h hs => exact .base (.lst h)
  | tup ha h hs => exact .base (.tup h)
  | dic ha h => exact .base (.dK h)
theorem ty9 (d : PyData) : Ty9 (tyN d) := by
  cases d
  · exact TypeEq.meta_NoneType
  · exact TypeEq.meta_bool
  · exact TypeEq.meta_int
  · exact TypeEq.meta_str
  · exact TypeEq.meta_list
  · exact TypeEq.meta_tuple
  · exact TypeEq.meta_dict
theorem kit_str {K : PySem.W.Frag} (d : PyData) : PySem.W.kitOne K (.type (tyN d)) (.type "str") = some (decide (tyN d = "str")) := by
  have hh : ∀ a ∈ ["NoneType", "bool", "int", "str", "list", "tuple", "dict"], kitB a "str" = some (decide (a = "str")) := by decide +kernel
  exact kit_ty (hh _ (by cases d <;> simp [tyN]))
theorem kit_tuple {K : PySem.W.Frag} (d : PyData) : PySem.W.kitOne K (.type (tyN d)) (.type "tuple") = some (decide (tyN d = "tuple")) := by
  have hh : ∀ a ∈ ["NoneType", "bool", "int", "str", "list", "tuple", "dict"], kitB a "tuple" = some (decide (a = "tuple")) := by decide +kernel
  exact kit_ty (hh _ (by cases d <;> simp [tyN]))
theorem kit_list {K : PySem.W.Frag} (d : PyData) : PySem.W.kitOne K (.type (tyN d)) (.type "list") = some (decide (tyN d = "list")) := by
  have hh : ∀ a ∈ ["NoneType", "bool", "int", "str", "list", "tuple", "dict"], kitB a "list" = some (decide (a = "list")) := by decide +kernel
  exact kit_ty (hh _ (by cases d <;> simp [tyN]))
theorem kit_bool {K : PySem.W.Frag} (d : PyData) : PySem.W.kitOne K (.type (tyN d)) (.type "bool") = some (decide (tyN d = "bool")) := by
  have hh : ∀ a ∈ ["NoneType", "bool", "int", "str", "list", "tuple", "dict"], kitB a "bool" = some (decide (a = "bool")) := by decide +kernel
  exact kit_ty (hh _ (by cases d <;> simp [tyN]))
theorem kit_int {K : PySem.W.Frag} (d : PyData) : PySem.W.kitOne K (.type (tyN d)) (.type "int") = some (decide (tyN d = "int" ∨ tyN d = "bool")) := by
  have hh : ∀ a ∈ ["NoneType", "bool", "int", "str", "list", "tuple", "dict"], kitB a "int" = some (decide (a = "int" ∨ a = "bool")) := by decide +kernel
  exact kit_ty (hh _ (by cases d <;> simp [tyN]))

/-! ### loops -/
section
variable {K : PySem.W.Frag} {σ : L2.St} {H : Hp} {Q : VK} {ta : TA} {te : TE} {g : TG} {tb : TS} {D : Ends} {tt : TT}
theorem w_forR (q : ta σ H fun vs H1 => ∃ n : Int, vs = [.int n] ∧ -(2 ^ 62) ≤ n ∧ n < 2 ^ 62 ∧ ∃ Pv : Nat → L2.St → Hp → Prop, Pv 0 σ H1 ∧
    (∀ (i : Nat) σ H, (i : Int) < n → Pv i σ H → g (.int (i : Int)) σ H fun σ2 H2 => tb { D with nx := Pv (i + 1), ct := Pv (i + 1), bk := D.nx } σ2 H2) ∧ ∀ σ H, Pv n.toNat σ H → D.nx σ H)
    (mono : ∀ R R' : List V → Hp → Prop, (∀ vs H, R vs H → R' vs H) → ta σ H R → ta σ H R') : tFor (iRng1 ta) g tb D σ H := by
  refine mono _ _ (fun vs H1 h => ?_) q
  obtain ⟨n, rfl, h1, h2, Pv, p0, ps, pd⟩ := h
  refine ⟨n, rfl, h1, h2, for_range (lo := 0) (n := n.toNat) Pv p0 (fun i σ' H' hi p => ?_) pd⟩
  have e0 : (0 : Int) + (i : Int) = (i : Int) := Int.zero_add _
  rw [e0]
  exact ps i σ' H' (by omega) p
theorem w_for {wi : TI} (q : wi σ H fun J H1 => ∃ W : Nat → Nat → L2.St → Hp → Prop, (∃ m, W 0 m σ H1) ∧ ∀ i m σ H, W i m σ H →
  (J.stop i H ∧ D.nx σ H) ∨ (J.go i H ∧ ∃ N : L2.St → Hp → Prop, (∀ σ' H', N σ' H' → ∃ m', m' < m ∧ W (i + 1) m' σ' H') ∧ ∀ x H', J.yld i H x H' → g x σ H' fun σ2 H2 => tb { D with nx := N, ct := N, bk := D.nx } σ2 H2)) : tFor wi g tb D σ H := q
theorem w_iRng1 {R : It → Hp → Prop} (q : ta σ H fun vs H1 => ∃ j : Int, vs = [.int j] ∧ -(2 ^ 62) ≤ j ∧ j < 2 ^ 62 ∧ R (Itr 0 j.toNat) H1) : iRng1 ta σ H R := q
theorem w_iRng2 {R : It → Hp → Prop} (q : ta σ H fun vs H1 => ∃ i j : Int, vs = [.int i, .int j] ∧ (-(2 ^ 62) ≤ i ∧ i < 2 ^ 62 ∧ -(2 ^ 62) ≤ j ∧ j < 2 ^ 62) ∧ R (Itr i (j - i).toNat) H1) : iRng2 ta σ H R := q
theorem w_iList {R : It → Hp → Prop} (q : te σ H fun x H1 => ∃ a, x = .ref a ∧ (∃ xs, SqL K H1 a xs) ∧ R (Itl K a) H1) : iList K te σ H R := q
theorem w_iTup {R : It → Hp → Prop} (q : te σ H fun x H1 => ∃ a, x = .ref a ∧ (∃ xs, SqT K H1 a xs) ∧ R (Itt K a) H1) : iTup K te σ H R := q
theorem w_iStr {R : It → Hp → Prop} (q : te σ H fun v H1 => ∃ x, v = .str x ∧ R (Its x) H1) : iStr te σ H R := q
/-- the end of iRng1's reading in a for -/
theorem w_rng {n : Int} (h1 : -(2 ^ 62) ≤ n) (h2 : n < 2 ^ 62) (Pv : Nat → L2.St → Hp → Prop) (p0 : Pv 0 σ H)
    (ps : ∀ (i : Nat) σ H, (i : Int) < n → Pv i σ H → g (.int (i : Int)) σ H fun σ2 H2 => tb { D with nx := Pv (i + 1), ct := Pv (i + 1), bk := D.nx } σ2 H2) (pd : ∀ σ H, Pv n.toNat σ H → D.nx σ H) :
    ∃ j : Int, [V.int n] = [.int j] ∧ -(2 ^ 62) ≤ j ∧ j < 2 ^ 62 ∧ ∃ W : Nat → Nat → L2.St → Hp → Prop, (∃ m, W 0 m σ H) ∧ ∀ i m σ H, W i m σ H →
  ((Itr 0 j.toNat).stop i H ∧ D.nx σ H) ∨ ((Itr 0 j.toNat).go i H ∧ ∃ N : L2.St → Hp → Prop, (∀ σ' H', N σ' H' → ∃ m', m' < m ∧ W (i + 1) m' σ' H') ∧ ∀ x H', (Itr 0 j.toNat).yld i H x H' → g x σ H' fun σ2 H2 => tb { D with nx := N, ct := N, bk := D.nx } σ2 H2) := by
  refine ⟨n, rfl, h1, h2, for_range (lo := 0) (n := n.toNat) Pv p0 (fun i σ' H' hi p => ?_) pd⟩
  have e0 : (0 : Int) + (i : Int) = (i : Int) := Int.zero_add _
  rw [e0]
  exact ps i σ' H' (by omega) p
/-- the end of iList's reading in a for -/
theorem w_lstF {a : Addr} {xs : List V} (hx : SqL K H a xs) (Pv : Nat → L2.St → Hp → Prop) (p0 : Pv 0 σ H) (hl : ∀ i σ H, i ≤ xs.length → Pv i σ H → SqL K H a xs)
    (ps : ∀ i x σ H, xs[i]? = some x → Pv i σ H → g x σ H fun σ2 H2 => tb { D with nx := Pv (i + 1), ct := Pv (i + 1), bk := D.nx } σ2 H2) (pd : ∀ σ H, Pv xs.length σ H → D.nx σ H) :
    ∃ b, V.ref a = .ref b ∧ (∃ xs, SqL K H b xs) ∧ ∃ W : Nat → Nat → L2.St → Hp → Prop, (∃ m, W 0 m σ H) ∧ ∀ i m σ H, W i m σ H →
  ((Itl K b).stop i H ∧ D.nx σ H) ∨ ((Itl K b).go i H ∧ ∃ N : L2.St → Hp → Prop, (∀ σ' H', N σ' H' → ∃ m', m' < m ∧ W (i + 1) m' σ' H') ∧ ∀ x H', (Itl K b).yld i H x H' → g x σ H' fun σ2 H2 => tb { D with nx := N, ct := N, bk := D.nx } σ2 H2) :=
  ⟨a, rfl, ⟨xs, hx⟩, for_list (xs := xs) Pv p0 hl ps pd⟩
end
/-! ### comprehensions whose element and test leave all that was tracked -/
section
variable {K : PySem.W.Frag} {σ : L2.St} {H : Hp} {Q : VK} {te : TE} {tt : TT} {vs : List Nat} {g : TG}
theorem lc_fm {Qd : Addr → Hp → Prop} {J : It} {its : List V} {G : Hp → Prop} {Y : Nat → Hp → V → Hp → Prop} (w : Walk J its.length G Y) (hy : ∀ i H x H', i < its.length → Y i H x H' → H' = H ∧ its[i]? = some x)
    (hG : ∀ H1, Same H H1 → G H1) (f : V → V) (k : V → Bool) (bind : V → L2.St)
    (hg : ∀ x H1 (R : L2.St → Hp → Prop), R (bind x) H1 → g x (wipe σ vs) H1 R) (hw : ∀ x, wipe (bind x) vs = wipe σ vs)
    (ht : ∀ x ∈ its, ∀ H1, Same H H1 → ∀ R : Bool → Hp → Prop, (∀ H2, Same H1 H2 → R (k x) H2) → tt (bind x) H1 R)
    (he : ∀ x ∈ its, k x = true → ∀ H1, Same H H1 → ∀ R : VK, (∀ H2, Same H1 H2 → R (f x) H2) → te (bind x) H1 R)
    (hlen : its.length < sizeLine) (q : ∀ D H1, H D = none → Same H H1 → H1 D = some (.lst ((its.filter k).map f)) → Qd D H1) :
    ∀ D, H D = none → ∃ W : Nat → Nat → Hp → Prop, (∃ m, W 0 m (upd H D (.lst []))) ∧ ∀ i m H, W i m H →
  (J.stop i H ∧ Qd D H) ∨ (J.go i H ∧ ∃ Nx : Hp → Prop, (∀ H', Nx H' → ∃ m', m' < m ∧ W (i + 1) m' H') ∧ ∀ x H', J.yld i H x H' → g x (wipe σ vs) H' fun σ2 H2 => wipe σ2 vs = wipe σ vs ∧ tt σ2 H2 fun b H3 =>
    if b = true then te σ2 H3 fun y H4 => ∃ acc, H4 D = some (.lst acc) ∧ acc.length < sizeLine ∧ Nx (upd H4 D (.lst (acc ++ [y]))) else Nx H3) := by
  intro D hD
  refine lc_it w (Pv := fun i H' => Same H H' ∧ H' D = some (.lst (((its.take i).filter k).map f))) ⟨Same.upd (Same.refl H) hD, upd_same⟩ (fun i H' _ p => hG H' p.1) (fun i x H' H'' hi p y => ?_) (fun H' p => ?_)
  · obtain ⟨e, hx⟩ := hy i H' x H'' hi y
    subst e
    obtain ⟨s, hD'⟩ := p
    have hm : x ∈ its := List.mem_of_getElem? hx
    have et : its.take (i + 1) = its.take i ++ [x] := by rw [List.take_add_one, hx]; rfl
    refine hg x H'' _ ⟨hw x, ht x hm H'' s _ fun H2 s2 => ?_⟩
    cases hk : k x with
    | true =>
      rw [if_pos rfl]
      refine he x hm hk H2 (s.trans s2) _ fun H3 s3 => ?_
      have hD3 : H3 D = some (.lst (((its.take i).filter k).map f)) := s3 _ _ (s2 _ _ hD')
      refine ⟨_, hD3, ?_, ?_, ?_⟩
      · rw [List.length_map]
        have h1 := List.length_filter_le k (its.take i)
        have h2 : (its.take i).length ≤ its.length := by rw [List.length_take]; omega
        omega
      · exact fun b o e => by
          rw [upd_ne (ne_of_none e hD)]
          exact s3 _ _ (s2 _ _ (s _ _ e))
      · rw [upd_same, et, List.filter_append, List.map_append, List.filter_cons_of_pos hk]
        rfl
    | false =>
      rw [if_neg (by decide)]
      refine ⟨s.trans s2, ?_⟩
      rw [et, List.filter_append, List.filter_cons_of_neg (by simp [hk]), List.filter_nil, List.append_nil]
      exact s2 _ _ hD'
  · obtain ⟨s, hD'⟩ := p
    rw [List.take_length] at hD'
    exact q D H' hD s hD'
/-- over a text, one name bound -/
def sgns (z : Str) : List V := z.cps.toList.map fun c => V.str ⟨#[c]⟩
theorem sgns_len {z : Str} : (sgns z).length = z.cps.size := by unfold sgns; simp
theorem w_lc {wi : TI} (q : wi σ H fun J H1 => ∀ D, H1 D = none → ∃ W : Nat → Nat → Hp → Prop, (∃ m, W 0 m (upd H1 D (.lst []))) ∧ ∀ i m H, W i m H →
  (J.stop i H ∧ Q (.ref D) H) ∨ (J.go i H ∧ ∃ Nx : Hp → Prop, (∀ H', Nx H' → ∃ m', m' < m ∧ W (i + 1) m' H') ∧ ∀ x H', J.yld i H x H' → g x (wipe σ vs) H' fun σ2 H2 => wipe σ2 vs = wipe σ vs ∧ tt σ2 H2 fun b H3 =>
    if b = true then te σ2 H3 fun y H4 => ∃ acc, H4 D = some (.lst acc) ∧ acc.length < sizeLine ∧ Nx (upd H4 D (.lst (acc ++ [y]))) else Nx H3)) : tLc wi g tt te vs σ H Q := q
theorem lcStr {Qd : Addr → Hp → Prop} {z : Str} {i : Nat} (hz : z.length ≤ 100000) (f : V → V) (k : V → Bool) (hw : ∀ x, wipe ((wipe σ vs).set i (some x)) vs = wipe σ vs)
    (ht : ∀ x ∈ sgns z, ∀ H1, Same H H1 → ∀ R : Bool → Hp → Prop, (∀ H2, Same H1 H2 → R (k x) H2) → tt ((wipe σ vs).set i (some x)) H1 R)
    (he : ∀ x ∈ sgns z, k x = true → ∀ H1, Same H H1 → ∀ R : VK, (∀ H2, Same H1 H2 → R (f x) H2) → te ((wipe σ vs).set i (some x)) H1 R)
    (q : ∀ D H1, H D = none → Same H H1 → H1 D = some (.lst (((sgns z).filter k).map f)) → Qd D H1) :
    ∀ D, H D = none → ∃ W : Nat → Nat → Hp → Prop, (∃ m, W 0 m (upd H D (.lst []))) ∧ ∀ j m H, W j m H →
  ((Its z).stop j H ∧ Qd D H) ∨ ((Its z).go j H ∧ ∃ Nx : Hp → Prop, (∀ H', Nx H' → ∃ m', m' < m ∧ W (j + 1) m' H') ∧ ∀ x H', (Its z).yld j H x H' → gName i x (wipe σ vs) H' fun σ2 H2 => wipe σ2 vs = wipe σ vs ∧ tt σ2 H2 fun b H3 =>
    if b = true then te σ2 H3 fun y H4 => ∃ acc, H4 D = some (.lst acc) ∧ acc.length < sizeLine ∧ Nx (upd H4 D (.lst (acc ++ [y]))) else Nx H3) := by
  have hl : (sgns z).length < sizeLine := by
    rw [sgns_len]
    exact Nat.lt_of_le_of_lt hz (by decide)
  refine lc_fm (its := sgns z) (by rw [sgns_len]; exact walk_str) (fun j H x H' hj y => ?_) (fun _ _ => trivial) f k (fun x => (wipe σ vs).set i (some x)) (fun x H1 R r => r) hw ht he hl q
  obtain ⟨e, c, hc, rfl⟩ := y
  refine ⟨e, ?_⟩
  unfold sgns
  rw [List.getElem?_map, Array.getElem?_toList, hc]
  rfl
theorem lcL {Qd : Addr → Hp → Prop} {a : Addr} {its : List V} {i : Nat} (hS : ∀ H1, Same H H1 → SqL K H1 a its) (hl : its.length < sizeLine) (f : V → V) (k : V → Bool) (hw : ∀ x, wipe ((wipe σ vs).set i (some x)) vs = wipe σ vs)
    (ht : ∀ x ∈ its, ∀ H1, Same H H1 → ∀ R : Bool → Hp → Prop, (∀ H2, Same H1 H2 → R (k x) H2) → tt ((wipe σ vs).set i (some x)) H1 R)
    (he : ∀ x ∈ its, k x = true → ∀ H1, Same H H1 → ∀ R : VK, (∀ H2, Same H1 H2 → R (f x) H2) → te ((wipe σ vs).set i (some x)) H1 R)
    (q : ∀ D H1, H D = none → Same H H1 → H1 D = some (.lst ((its.filter k).map f)) → Qd D H1) :
    ∃ b, V.ref a = .ref b ∧ (∃ xs, SqL K H b xs) ∧ ∀ D, H D = none → ∃ W : Nat → Nat → Hp → Prop, (∃ m, W 0 m (upd H D (.lst []))) ∧ ∀ j m H, W j m H →
  ((Itl K b).stop j H ∧ Qd D H) ∨ ((Itl K b).go j H ∧ ∃ Nx : Hp → Prop, (∀ H', Nx H' → ∃ m', m' < m ∧ W (j + 1) m' H') ∧ ∀ x H', (Itl K b).yld j H x H' → gName i x (wipe σ vs) H' fun σ2 H2 => wipe σ2 vs = wipe σ vs ∧ tt σ2 H2 fun b H3 =>
    if b = true then te σ2 H3 fun y H4 => ∃ acc, H4 D = some (.lst acc) ∧ acc.length < sizeLine ∧ Nx (upd H4 D (.lst (acc ++ [y]))) else Nx H3) :=
  ⟨a, rfl, ⟨its, hS H (Same.refl H)⟩, lc_fm (its := its) walk_list (fun j H x H' hj y => y) hS f k (fun x => (wipe σ vs).set i (some x)) (fun x H1 R r => r) hw ht he hl q⟩
theorem lcT {Qd : Addr → Hp → Prop} {a : Addr} {its : List V} {i : Nat} (hS : ∀ H1, Same H H1 → SqT K H1 a its) (hl : its.length < sizeLine) (f : V → V) (k : V → Bool) (hw : ∀ x, wipe ((wipe σ vs).set i (some x)) vs = wipe σ vs)
    (ht : ∀ x ∈ its, ∀ H1, Same H H1 → ∀ R : Bool → Hp → Prop, (∀ H2, Same H1 H2 → R (k x) H2) → tt ((wipe σ vs).set i (some x)) H1 R)
    (he : ∀ x ∈ its, k x = true → ∀ H1, Same H H1 → ∀ R : VK, (∀ H2, Same H1 H2 → R (f x) H2) → te ((wipe σ vs).set i (some x)) H1 R)
    (q : ∀ D H1, H D = none → Same H H1 → H1 D = some (.lst ((its.filter k).map f)) → Qd D H1) :
    ∃ b, V.ref a = .ref b ∧ (∃ xs, SqT K H b xs) ∧ ∀ D, H D = none → ∃ W : Nat → Nat → Hp → Prop, (∃ m, W 0 m (upd H D (.lst []))) ∧ ∀ j m H, W j m H →
  ((Itt K b).stop j H ∧ Qd D H) ∨ ((Itt K b).go j H ∧ ∃ Nx : Hp → Prop, (∀ H', Nx H' → ∃ m', m' < m ∧ W (j + 1) m' H') ∧ ∀ x H', (Itt K b).yld j H x H' → gName i x (wipe σ vs) H' fun σ2 H2 => wipe σ2 vs = wipe σ vs ∧ tt σ2 H2 fun b H3 =>
    if b = true then te σ2 H3 fun y H4 => ∃ acc, H4 D = some (.lst acc) ∧ acc.length < sizeLine ∧ Nx (upd H4 D (.lst (acc ++ [y]))) else Nx H3) :=
  ⟨a, rfl, ⟨its, hS H (Same.refl H)⟩, lc_fm (its := its) walk_tup (fun j H x H' hj y => y) hS f k (fun x => (wipe σ vs).set i (some x)) (fun x H1 R r => r) hw ht he hl q⟩
theorem w_exs {z : Str} {R : Str → Prop} (q : R z) : ∃ x, V.str z = .str x ∧ R x := ⟨z, rfl, q⟩
theorem w_lcStr {z : Str} {tz : TE} {i : Nat} (hz : z.length ≤ 100000) (f : V → V) (k : V → Bool)
    (hq : ∀ R : It → Hp → Prop, R (Its z) H → iStr tz σ H R) (hw : ∀ x, wipe ((wipe σ vs).set i (some x)) vs = wipe σ vs)
    (ht : ∀ x ∈ sgns z, ∀ H1, Same H H1 → ∀ R : Bool → Hp → Prop, (∀ H2, Same H1 H2 → R (k x) H2) → tt ((wipe σ vs).set i (some x)) H1 R)
    (he : ∀ x ∈ sgns z, k x = true → ∀ H1, Same H H1 → ∀ R : VK, (∀ H2, Same H1 H2 → R (f x) H2) → te ((wipe σ vs).set i (some x)) H1 R)
    (q : ∀ D H1, H D = none → Same H H1 → H1 D = some (.lst (((sgns z).filter k).map f)) → Q (.ref D) H1) :
    tLc (iStr tz) (gName i) tt te vs σ H Q := hq _ (lcStr hz f k hw ht he q)
theorem w_all {a : Addr} {bs : List Bool} (h : SqL K H a (bs.map V.bl)) (q : Q (.bl (bs.all id)) H) : rAll K [.ref a] H Q := ⟨a, bs, rfl, h, q⟩
end
end Wp

namespace Wp
open PySem PySem.Spec PyProof.Rows L2 TyNe

/-! ### what an expression yields, as data, while one stream at p is drawn from -/
def EvS (p : Addr) (te : TE) (σ : L2.St) (H : Hp) (P : PyData → Prop) : Prop := ∀ H1, Kp p H H1 → Stm H1 p → ∀ Q : VK, (∀ v d H2, Kp p H1 H2 → Stm H2 p → P d → Dn (Off p) H2 v d → Q v H2) → te σ H1 Q
def EvSs (p : Addr) (ta : TA) (σ : L2.St) (H : Hp) (P : List PyData → Prop) : Prop := ∀ H1, Kp p H H1 → Stm H1 p → ∀ Q : List V → Hp → Prop, (∀ vs ds H2, Kp p H1 H2 → Stm H2 p → P ds → DnAll (Off p) H2 vs ds → Q vs H2) → ta σ H1 Q
section
variable {p : Addr} {te : TE} {ta : TA} {σ : L2.St} {H : Hp} {P P' : PyData → Prop} {R : List PyData → Prop}
theorem EvS.weak (h : EvS p te σ H P) (k : ∀ d, P d → P' d) : EvS p te σ H P' := fun H1 a s Q q => h H1 a s Q fun v d H2 b s' x y => q v d H2 b s' (k d x) y
theorem EvSs.weak {R' : List PyData → Prop} (h : EvSs p ta σ H R) (k : ∀ d, R d → R' d) : EvSs p ta σ H R' := fun H1 a s Q q => h H1 a s Q fun v d H2 b s' x y => q v d H2 b s' (k d x) y
theorem evs_non (h : P .none) : EvS p (tC .non) σ H P := fun H1 _ s Q q => q _ _ H1 Kp.refl s h .non
theorem evs_bl {b : Bool} (h : P (.bool b)) : EvS p (tC (.bl b)) σ H P := fun H1 _ s Q q => q _ _ H1 Kp.refl s h (.bl b)
theorem evs_int {i : Int} (h : P (.int i)) : EvS p (tC (.int i)) σ H P := fun H1 _ s Q q => q _ _ H1 Kp.refl s h (.int i)
theorem evs_str {x : Str} (h : P (.str x)) : EvS p (tC (.str x)) σ H P := fun H1 _ s Q q => q _ _ H1 Kp.refl s h (.str x)
theorem evs_var {i : Nat} {v : V} {d : PyData} (e : σ[i]? = some (some v)) (hd : Dn (Off p) H v d) (h : P d) : EvS p (tVar i) σ H P := fun H1 k s Q q => ⟨v, e, q v d H1 Kp.refl s h (hd.kp k)⟩
theorem evss_nil (h : R []) : EvSs p tNil σ H R := fun H1 _ s Q q => q _ _ H1 Kp.refl s h .nil
theorem evss_cons {R' : List PyData → Prop} (h : EvS p te σ H P) (hs : EvSs p ta σ H R) (k : ∀ d r, P d → R r → R' (d :: r)) : EvSs p (tCons te ta) σ H R' := fun H1 a s Q q =>
  h H1 a s _ fun v d H2 b s2 x y => hs H2 (a.trans b) s2 _ fun vs ds H3 c s3 xs ys => q (v :: vs) (d :: ds) H3 (b.trans c) s3 (k d ds x xs) (.cons (y.kp c) ys)
theorem evs_tup (h : EvSs p ta σ H R) (k : ∀ ds, R ds → ds.length ≤ 100000 ∧ P (.tuple ds)) : EvS p (tTup ta) σ H P := fun H1 a s Q q =>
  h H1 a s _ fun vs ds H2 b s2 x y => ⟨sz (by rw [y.len]; exact (k ds x).1), fun t ht => by
    have hn : t ≠ p := (Stm.ne s2 ht)
    exact q (.ref t) (.tuple ds) _ (b.upd (b.free hn ht)) (s2.up ht) (k ds x).2 (.tup hn upd_same (y.step fun c o n e => by rw [upd_ne (ne_of_none e ht)]; exact e))⟩
theorem evs_lst (h : EvSs p ta σ H R) (k : ∀ ds, R ds → ds.length ≤ 100000 ∧ P (.list ds)) : EvS p (tLst ta) σ H P := fun H1 a s Q q =>
  h H1 a s _ fun vs ds H2 b s2 x y => ⟨sz (by rw [y.len]; exact (k ds x).1), fun t ht => by
    have hn : t ≠ p := (Stm.ne s2 ht)
    exact q (.ref t) (.list ds) _ (b.upd (b.free hn ht)) (s2.up ht) (k ds x).2 (.lst hn upd_same (y.step fun c o n e => by rw [upd_ne (ne_of_none e ht)]; exact e))⟩
theorem evs_dnew (h : P (.dict [])) : EvS p tDNewK σ H P := fun H1 a s Q q t ht =>
  have hn : t ≠ p := (Stm.ne s ht)
  q (.ref t) (.dict []) _ (Kp.refl.upd ht) (s.up ht) h (.dic hn upd_same)
theorem evs_disp1 {k : Str} {v : Int} (h : P (.dict [])) : EvS p (tDisp [(tC (.str k), tC (.int v))]) σ H P := fun H1 a s Q q t ht =>
  have hn : t ≠ p := (Stm.ne s ht)
  ⟨upd_same, [(Sum.inr k, .int v)], rfl, (show 1 ≤ 15 by decide), q (.ref t) (.dict []) _ ((Kp.refl.upd ht).upd ht) (by
    obtain ⟨x, y, e, r⟩ := s
    exact ⟨x, y, by rw [upd_ne (ne_of_none e ht), upd_ne (ne_of_none e ht)]; exact e, r⟩) h (.dic hn upd_same)⟩
theorem evs_call {sp : Sp} (h : ∀ vs ds H1, Kp p H H1 → Stm H1 p → R ds → DnAll (Off p) H1 vs ds → ∀ Q : VK, (∀ v d H2, Kp p H1 H2 → Stm H2 p → P d → Dn (Off p) H2 v d → Q v H2) → sp vs H1 Q C8.E0) (ha : EvSs p ta σ H R) : EvS p (tCall sp [] C8.E0 ta) σ H P := fun H1 a s Q q =>
  ha H1 a s _ fun vs ds H2 b s2 x y => by
    show sp (vs ++ []) H2 Q C8.E0
    rw [List.append_nil]
    exact h vs ds H2 (a.trans b) s2 x y Q fun v d H3 c s3 x3 y3 => q v d H3 (b.trans c) s3 x3 y3
/-- used in a reading -/
theorem EvS.use {Q : VK} (h : EvS p te σ H P) (s : Stm H p) (q : ∀ v d H2, Kp p H H2 → Stm H2 p → P d → Dn (Off p) H2 v d → Q v H2) : te σ H Q := h H Kp.refl s Q q
theorem EvSs.use {Q : List V → Hp → Prop} (h : EvSs p ta σ H R) (s : Stm H p) (q : ∀ vs ds H2, Kp p H H2 → Stm H2 p → R ds → DnAll (Off p) H2 vs ds → Q vs H2) : ta σ H Q := h H Kp.refl s Q q
end
end Wp

namespace Wp
open PySem PySem.Spec PyProof.Rows L2 TyNe

/-! ### text * int -/
abbrev qMulS : R2 := fun x y H Q => ∃ (z : Str) (n : Int), x = .str z ∧ y = .int n ∧ MulOk z n ∧ Q (.str (Txt.mul z n)) H
theorem op_mulS {X : Cx} : OpR X (binaryOp .Mult) qMulS := by
  intro pins s σ H x y v u Q I rx ry h
  obtain ⟨i, j, rfl, rfl, hz, q⟩ := h
  obtain ⟨t, rfl⟩ := rx
  obtain ⟨t', rfl⟩ := ry
  exact SB.mul hz fun t' k => ⟨.str (Txt.mul i j), H, I.tok _, ⟨_, rfl⟩, q⟩
theorem foldl_size : ∀ (l : List (Array Nat)) (a : Array Nat), (l.foldl (· ++ ·) a).size = a.size + (l.map Array.size).sum
  | [], a => by simp
  | x :: l, a => by
    rw [List.foldl_cons, foldl_size l, Array.size_append, List.map_cons, List.sum_cons]
    omega
theorem rep_sum (n k : Nat) : ((List.replicate n k) : List Nat).sum = n * k := by
  induction n with
  | zero => simp
  | succ n ih => rw [List.replicate_succ, List.sum_cons, ih, Nat.succ_mul, Nat.add_comm]
theorem mul_len (x : Str) {n : Int} (h : 0 ≤ n) : (Txt.mul x n).length ≤ x.length * n.toNat := by
  unfold Txt.mul
  by_cases h1 : n < 1
  · rw [if_pos h1]
    exact Nat.zero_le _
  · rw [if_neg h1]
    by_cases h2 : (n == 1 || x.length == 0) = true
    · rw [if_pos h2]
      have : 1 ≤ n.toNat := by omega
      exact Nat.le_mul_of_pos_right _ this
    · rw [if_neg h2]
      show ((List.replicate n.toNat x.cps).foldl (· ++ ·) (#[] : Array Nat)).size ≤ _
      rw [foldl_size, List.map_replicate, rep_sum]
      show 0 + n.toNat * x.cps.size ≤ x.cps.size * n.toNat
      rw [Nat.zero_add, Nat.mul_comm]
      exact Nat.le_refl _
theorem mulOk {x : Str} {n : Int} (h0 : 0 ≤ n) (h1 : n ≤ 1000) (hx : x.length ≤ 10000) : MulOk x n := by
  refine ⟨?_, fun a b => ?_, fun a b => ?_⟩
  · rw [decide_eq_false (by omega), decide_eq_false (by omega)]
    rfl
  · have e : (2 ^ 63 - 1 : Int) / n ≥ (2 ^ 63 - 1 : Int) / 1000 := by
      rw [ge_iff_le, Int.le_ediv_iff_mul_le (by omega)]
      have e2 : (2 ^ 63 - 1 : Int) / 1000 = 9223372036854775 := by decide
      rw [e2]
      have := Int.mul_le_mul_of_nonneg_left h1 (show (0 : Int) ≤ 9223372036854775 by decide)
      omega
    have e2 : (2 ^ 63 - 1 : Int) / 1000 = 9223372036854775 := by decide
    omega
  · unfold Builtin.Str.tooLong
    have h2 : n.toNat ≤ 1000 := by omega
    have h3 : x.length * n.toNat ≤ 10000 * 1000 := Nat.mul_le_mul hx h2
    exact decide_eq_false (by
      have : (10000 * 1000 : Nat) ≤ sizeLine := by decide
      omega)
section
variable {H : Hp} {Q : VK}
theorem w_mulS {z : Str} {n : Int} (h0 : 0 ≤ n) (h1 : n ≤ 1000) (hx : z.length ≤ 10000) (q : (Txt.mul z n).length ≤ z.length * n.toNat → Q (.str (Txt.mul z n)) H) : qMulS (.str z) (.int n) H Q := ⟨z, n, rfl, rfl, mulOk h0 h1 hx, q (mul_len z h0)⟩
end

/-! ### the place of a sign -/
abbrev q_rfind4 : V → List V → Hp → VK → Prop := fun x xs H Q => ∃ (a b : Str) (i j : Int), x = .str a ∧ xs = [.str b, .int i, .int j] ∧ Q (.int (Txt.rfindIn a b i j)) H
abbrev q_find3 : V → List V → Hp → VK → Prop := fun x xs H Q => ∃ (a b : Str) (i : Int), x = .str a ∧ xs = [.str b, .int i] ∧ Q (.int (Txt.find3 a b i)) H
open Builtin Builtin.Str StrLaws in
theorem at_one {x : Str} {c hi i : Nat} (h : hi ≤ x.length) : At x ⟨#[c]⟩ hi i ↔ i < hi ∧ x.cps.toList[i]? = some c := by
  have e : (⟨#[c]⟩ : Str).length = 1 := rfl
  constructor
  · rintro ⟨h1, h2⟩
    rw [e] at h1
    exact ⟨by omega, (subAt_one x c i).mp ⟨by rw [e]; omega, h2⟩⟩
  · rintro ⟨h1, h2⟩
    exact ⟨by rw [e]; omega, ((subAt_one x c i).mpr h2).2⟩
open Builtin Builtin.Str StrLaws in
/-- the last c in [lo, hi) -/
theorem last_one (x : Str) (c lo hi : Nat) (h : hi ≤ x.length) : (lastOccurrence x ⟨#[c]⟩ lo hi = none ∧ ∀ i, lo ≤ i → i < hi → x.cps.toList[i]? ≠ some c) ∨
    ∃ i, lastOccurrence x ⟨#[c]⟩ lo hi = some i ∧ lo ≤ i ∧ i < hi ∧ x.cps.toList[i]? = some c ∧ ∀ k, i < k → k < hi → x.cps.toList[k]? ≠ some c := by
  rw [last_eq]
  have key := last_run x ⟨#[c]⟩ hi (List.range' lo (hi + 1 - lo)) [] none (fun _ h => nomatch h) (fun _ h => nomatch h) (by simpa using List.pairwise_lt_range' (s := lo) (n := hi + 1 - lo))
  have mem : ∀ i, lo ≤ i → i < hi → i ∈ [] ++ List.range' lo (hi + 1 - lo) := fun i h1 h2 => by
    simp [List.mem_range']
    exact ⟨i - lo, by omega, by omega⟩
  cases hr : (forIn (List.range' lo (hi + 1 - lo)) none (lastBody x ⟨#[c]⟩ hi)).run with
  | none =>
    rw [hr] at key
    exact .inl ⟨rfl, fun i h1 h2 e => key i (mem i h1 h2) ((at_one h).mpr ⟨h2, e⟩)⟩
  | some a =>
    rw [hr] at key
    have ka := (at_one h).mp key.1
    refine .inr ⟨a, rfl, ?_, ka.1, ka.2, fun k h1 h2 e => ?_⟩
    · -- it was among the places looked at
      have hmem : ∀ (l : List Nat) (st : Option Nat) (r : Nat), (forIn l st (lastBody x ⟨#[c]⟩ hi)).run = some r → r ∈ l ∨ st = some r := by
        intro l
        induction l with
        | nil => intro st r e; exact .inr e
        | cons b l ih =>
          intro st r e
          rw [List.forIn_cons] at e
          unfold lastBody at e
          split at e
          · rcases ih _ _ e with hm | hm
            · exact .inl (List.mem_cons_of_mem _ hm)
            · exact .inl (by cases hm; exact List.mem_cons_self ..)
          · rcases ih _ _ e with hm | hm
            · exact .inl (List.mem_cons_of_mem _ hm)
            · exact .inr hm
      rcases hmem _ _ _ hr with hm | hm
      · simp [List.mem_range'] at hm
        omega
      · exact nomatch hm
    · by_cases hk : lo ≤ k
      · exact key.2 k (mem k hk h2) h1 ((at_one h).mpr ⟨h2, e⟩)
      · exact key.2 k (by
          have hk2 : k < lo := by omega
          have : lo ≤ a := by
            have hmem : ∀ (l : List Nat) (st : Option Nat) (r : Nat), (forIn l st (lastBody x ⟨#[c]⟩ hi)).run = some r → r ∈ l ∨ st = some r := by
              intro l
              induction l with
              | nil => intro st r e; exact .inr e
              | cons b l ih =>
                intro st r e
                rw [List.forIn_cons] at e
                unfold lastBody at e
                split at e
                · rcases ih _ _ e with hm | hm
                  · exact .inl (List.mem_cons_of_mem _ hm)
                  · exact .inl (by cases hm; exact List.mem_cons_self ..)
                · rcases ih _ _ e with hm | hm
                  · exact .inl (List.mem_cons_of_mem _ hm)
                  · exact .inr hm
            rcases hmem _ _ _ hr with hm | hm
            · simp [List.mem_range'] at hm
              omega
            · exact nomatch hm
          omega) h1 ((at_one h).mpr ⟨h2, e⟩)
open Builtin Builtin.Str StrLaws in
/-- the first c from lo on -/
theorem first_one (x : Str) (c lo : Nat) : (occurrences x ⟨#[c]⟩ lo x.length 1 = [] ∧ ∀ i, lo ≤ i → x.cps.toList[i]? ≠ some c) ∨
    ∃ i r, occurrences x ⟨#[c]⟩ lo x.length 1 = i :: r ∧ lo ≤ i ∧ x.cps.toList[i]? = some c ∧ ∀ k, lo ≤ k → k < i → x.cps.toList[k]? ≠ some c := by
  rw [occ_eq]
  have inr : ∀ i c, x.cps.toList[i]? = some c → i < x.length := fun i c e => by
    have h := (List.getElem?_eq_some_iff.mp e).1
    simpa [Str.length] using h
  rcases occ_first x ⟨#[c]⟩ x.length 1 (Nat.le_refl _) (List.range' lo (x.length + 1 - lo)) lo (fun i hi => by simp [List.mem_range'] at hi; omega) with ⟨h0, hn⟩ | ⟨pre, a, post, e, h0, ha, hn⟩
  · refine .inl ⟨by rw [h0], fun i h1 e => ?_⟩
    have := inr i c e
    exact hn i (by simp [List.mem_range']; exact ⟨i - lo, by omega, by omega⟩) ((at_one (Nat.le_refl _)).mpr ⟨this, e⟩)
  · have hm : a ∈ List.range' lo (x.length + 1 - lo) := by rw [e]; simp
    have hlo : lo ≤ a := by simp [List.mem_range'] at hm; omega
    have ka := (at_one (Nat.le_refl _)).mp ha
    generalize hl : (forIn (List.range' lo (x.length + 1 - lo)) ((#[] : Array Nat), lo) (occBody x ⟨#[c]⟩ x.length 1)).run.fst = arr at h0
    rw [← Array.getElem?_toList] at h0
    cases hal : arr.toList with
    | nil => rw [hal] at h0; exact nomatch h0
    | cons b r =>
      rw [hal] at h0
      have hb : b = a := Option.some.inj h0
      subst hb
      refine .inr ⟨b, r, rfl, hlo, ka.2, fun k h1 h2 ek => ?_⟩
      have hk := inr k c ek
      refine hn k ?_ ((at_one (Nat.le_refl _)).mpr ⟨hk, ek⟩)
      have hp : (List.range' lo (x.length + 1 - lo)).Pairwise (· < ·) := by simpa using List.pairwise_lt_range' (s := lo) (n := x.length + 1 - lo)
      rw [e] at hp
      have hmk : k ∈ pre ++ b :: post := by rw [← e]; simp [List.mem_range']; exact ⟨k - lo, by omega, by omega⟩
      rcases List.mem_append.mp hmk with g | g
      · exact g
      · rcases List.mem_cons.mp g with g | g
        · omega
        · have := (List.pairwise_cons.mp (List.pairwise_append.mp hp).2.1).1 k g
          omega
end Wp

namespace Wp
open PySem PySem.Spec PyProof.Rows L2 TyNe

/-! ### a property of an own class -/
structure Prp (P : Program) (w : World) (K : PySem.W.Frag) (mg : Str → Option Value) (base : Heap) (k : Nat) (C : Addr) (m : Str) (sp : Sp) : Prop where
  ex : ∃ (f p : Addr) (fd : FuncData) (ps : List Str), Cls K C ∧ PropOf K C m p f ∧ FnOk P w K mg base C8.CX0 k f fd ps sp ∧ Binds K fd ps []
theorem prp0 {P : Program} {w : World} {K : PySem.W.Frag} {mg : Str → Option Value} {base : Heap} {m x qual : Str} {C p : Addr} {st : Stmt} {f : Addr} {fd : FuncData} {N ps : List Str} {k : Nat} {sp : Sp} (c : Cls K C) (hp : PropOf K C m p f) (F : C8.Fun K x qual st f fd) (b : Binds K fd ps []) (S : FnScope N ps (C8.fnScope st)) (len : ∀ vs H Q E, sp vs H Q E → vs.length = ps.length)
    (hbody : ∀ (cdv : Value) (A : Around) (outer : List Env) (s : Shared) (H : Hp) (vs : List V) (Q : VK) (E : XK), Room k (A.deeper (envOfC qual (C8.fnScope st) s.heap.objs.size f cdv)) → sp vs H Q E →
      ∃ t, PSs (cxOf C8.CX0 P w K mg base N qual (C8.fnScope st) f cdv A outer s H E).nox (C8.fnBody st) t ∧ t { nx := fun _ H' => Q .non H', rt := Q } (start N vs) H) : Prp P w K mg base (k + 1) C m sp :=
  ⟨f, p, fd, ps, c, hp, C8.fn0 F S len hbody, b⟩
theorem pe_pp {X : Cx} {k j : Nat} {C : Addr} {m : Str} {sp : Sp} {e : Expr} {pos : Pos} {ta : TE} (c : Prp X.prog X.w X.K X.mg X.base k C m sp) (hr : Room j X.A) (hk : k + 1 ≤ j) (he : PE X e ta)
    (hab : attributeBase e m X.env (eval e X.env) = eval e X.env) : PE X (.Attribute e m pos) (tProp C sp [] C8.E0 ta) := by
  obtain ⟨f, p, fd, ps, hc, hp, F, b⟩ := c.ex
  exact pe_prop he hc hp F (hr.mono hk) b .nil C8.pass0 hab
theorem hu1 {j : Nat} {A : Around} (hr : Room j A) : A.units + 1 < cLine := by
  have := hr.units
  omega
abbrev qSortedD : List V → Hp → VK → Prop := fun xs H Q => ∃ (a : Addr) (kvs : List (Key × V)) (ks : List Str), xs = [.ref a] ∧ Rd H a (.dK kvs) ∧ kvs.map (·.1) = ks.map Sum.inr ∧ ks.length < 64 ∧
    ∀ ys p, ys.Perm ks → sortedS ys = true → H p = none → Q (.ref p) (upd H p (.lst (ys.map V.str)))

section
variable {K : PySem.W.Frag} {σ : L2.St} {H : Hp} {v : V} {Q : VK} {D : Ends} {te ta td ty tv tx : TE}
theorem w_yes {R : Bool → Hp → Prop} (q : R true H) : tYes σ H R := q
theorem iteT_ {A B : Prop} (q : A) : if (true : Bool) = true then A else B := q
theorem gc {t : TG} {u : TGs} {v : V} {r : List V} {Q : L2.St → Hp → Prop} (q : t v σ H fun σ' H' => u r σ' H' Q) : gCons t u (v :: r) σ H Q := ⟨v, r, rfl, q⟩
theorem gn {Q : L2.St → Hp → Prop} (q : Q σ H) : gNil [] σ H Q := ⟨rfl, q⟩
theorem w_fld {f : Str} (q : ta σ H fun x H1 => ∃ a C dx fs v, x = .ref a ∧ H1 a = some (.ins C dx fs) ∧ Cls K C ∧ NoAttr K C f ∧ fs.lookup f = some v ∧ Q v H1) : tFld K ta f σ H Q := q
theorem w_prop {C : Addr} {sp : Sp} {dvs : List V} {E : XK} (q : ta σ H fun x H1 => ∃ a dx fs, x = .ref a ∧ H1 a = some (.ins C dx fs) ∧ sp (.ref a :: dvs) H1 Q E) : tProp C sp dvs E ta σ H Q := q
theorem w_meth {C : Addr} {m : Str} {sp : Sp} {dvs : List V} {E : XK} {t : TA} (q : ta σ H fun x H1 => ∃ a dx fs, x = .ref a ∧ H1 a = some (.ins C dx fs) ∧ fs.lookup m = none ∧ t σ H1 fun vs H2 => sp (x :: (vs ++ dvs)) H2 Q E) : tMeth C m sp dvs E ta t σ H Q := q
theorem w_make {C : Addr} {sp : Sp} {dvs : List V} {E : XK} {t : TA} (q : t σ H fun vs H1 => ∀ x dx, H1 x = none → H1 dx = none → dx ≠ x → sp (.ref x :: (vs ++ dvs)) (upd (upd H1 dx (.own x)) x (.ins C dx [])) (fun v H2 => v = .non ∧ Q (.ref x) H2) E) : tMake C sp dvs E t σ H Q := q
theorem w_dget (q : td σ H fun x H1 => ty σ H1 fun y H2 => ∃ a v, x = .ref a ∧ DGet H2 a y (some v) ∧ Q v H2) : tDGet td ty σ H Q := q
theorem w_dget2 (q : td σ H fun x H1 => ∃ a, x = .ref a ∧ IsD H1 a ∧ ty σ H1 fun y H2 => tx σ H2 fun z H3 => ∃ o, DGet H3 a y o ∧ Q (o.getD z) H3) : tDGet2 td ty tx σ H Q := q
theorem w_dput (q : tv σ H fun v H1 => td σ H1 fun x H2 => ty σ H2 fun y H3 => ∃ a H4, x = .ref a ∧ DPut H3 a y v H4 ∧ D.nx σ H4) : sDPut td ty tv D σ H := q
theorem w_sfld {f : Str} (q : tv σ H fun y H1 => ta σ H1 fun x H2 => ∃ a C dx fs, x = .ref a ∧ H2 a = some (.ins C dx fs) ∧ Cls K C ∧ NoAttr K C f ∧ fs.length < 1000 ∧ D.nx σ (upd H2 a (.ins C dx (putF f y fs)))) : sFld K ta tv f D σ H := q
end
end Wp

namespace Wp
open PySem PySem.Spec PyProof.Rows L2 TyNe He

/-! ### a dict of the module with text keys, asked by get -/
structure MDict (K : PySem.W.Frag) (w : World) (d : Addr) (g : Str → Option V) : Prop where
  ex : ∃ es n, KDict K w d es n ∧ ∀ z, ∃ r, PySem.W.nsIn K d z = some r ∧ RelO (g z) r
/-- NAME.get(k, x) -/
def tKGet2 (g : Str → Option V) (ty tx : TE) : TE := fun σ H Q => ty σ H fun y H1 => tx σ H1 fun z H2 => ∃ w : Str, y = .str w ∧ Q ((g w).getD z) H2
theorem pe_kget2 {X : Cx} {d : Addr} {g : Str → Option V} {x : Str} {e f : Expr} {p apos cpos : Pos} {ty tx : TE} (M : MDict X.K X.w d g) (hg : Gl X x) (hm : X.mg x = some (.ref d)) (he : PE X e ty) (hf : PE X f tx)
    (m : M2 X (.Name x p) "get" apos e f cpos) (hd : (x == ("__debug__" : Str)) = false := by decide) : PE X (.Call (.Attribute (.Name x p) "get" apos) [e, f] [] cpos) (tKGet2 g ty tx) := by
  obtain ⟨es, n, D, hn⟩ := M.ex
  refine ⟨fun pins s σ H Q I h => ?_⟩
  refine wpAny_Call_method m.base m.few m.line PySem.F.plainAttrs_dict PySem.F.slot_dict_get PySem.F.type_dict_get (thn ((C8.pe_gc (pos := p) (v := .ref d) hg ⟨_, hm, rfl⟩ hd).run pins s σ H (fun v H1 => v = .ref d ∧ ty σ H1 fun y H1 => tx σ H1 fun z H2 => ∃ w : Str, y = .str w ∧ Q ((g w).getD z) H2) I ⟨rfl, h⟩) fun u s1 ⟨x, H1, I1, rx, ex, q1⟩ => ?_)
  subst ex
  obtain rfl : u = Value.ref d := rx
  have mo : ∀ {s' : Shared} {σ' : L2.St} {H' : Hp}, Inv X pins σ' H' s' → s'.heap.MapOf (strKind X.prog X.w) d (fun k => findBy Value.isStrOf es k) := fun I' => PySem.W.mapOf_K (prog := X.prog) I'.kIn D.at_ D.lit
  refine ⟨(mo I1).typeIs, (mo I1).noDict, ?_⟩
  rw [m.trees]
  refine Calls.callWith_builtin rfl (Calls.evalArgs_plain (Calls.spliced_cons (thn (he.run pins s1 σ H1 _ I1 q1) fun iv s2 ⟨y, H2, I2, ry, q2⟩ =>
    Calls.spliced_cons (thn (hf.run pins s2 σ H2 _ I2 q2) fun fv s3 ⟨z, H3, I3, rz, w, ey, q3⟩ => Calls.spliced_nil ?_))))
  subst ey
  obtain ⟨t, rfl⟩ := ry
  obtain ⟨r, hr, rel⟩ := hn w
  refine call_meetsIn PySem.F.slot_dict_get (mo I3).typeIs PySem.F.entry_dict_get (PySem.F.args_dict_get_3 _ _ _) (meets_dict_get_default (strKind X.prog X.w) d (PySem.strKind_is X.prog X.w w t) D.low fv) ⟨_, mo I3, ?_⟩
  rw [PySem.W.find_K D.at_ hr]
  exact ⟨_, H3, I3.tok _, rel.getD rz, q3⟩
/-- from the keys, and what stands at each -/
theorem mdict {K : PySem.W.Frag} {w : World} {d : Addr} {kvs : List (Str × V)} (hk : dicW K d = some (keysIn w.params (kvs.map (·.1)))) (hv : ∀ p ∈ kvs, ∃ u, PySem.W.nsIn K d p.1 = some (some u) ∧ RelV p.2 u) :
    MDict K w d (fun z => (kvs.find? fun p => decide (p.1 = z)).map (·.2)) := by
  obtain ⟨es, n, D⟩ := dicW_ok hk
  refine ⟨es, n, D, fun z => ?_⟩
  cases hf : kvs.find? fun p => decide (p.1 = z) with
  | some p =>
    have hp := List.mem_of_find?_eq_some hf
    have hz0 := List.find?_some hf
    have hz : p.1 = z := of_decide_eq_true hz0
    obtain ⟨u, h1, h2⟩ := hv p hp
    rw [hz] at h1
    exact ⟨some u, h1, h2⟩
  | none =>
    refine ⟨none, ?_, trivial⟩
    have he : es.toList.map He.keyOf = keysIn w.params (kvs.map (·.1)) := by
      unfold dicW at hk
      rw [D.at_] at hk
      have hl := D.low
      simp [hl] at hk
      exact hk
    have hkey : ∀ e ∈ es.toList, ∃ x t, e.key = .str x t ∧ x ≠ z := fun e hm => by
      have h1 : He.keyOf e ∈ keysIn w.params (kvs.map (·.1)) := by rw [← he]; exact List.mem_map.mpr ⟨e, hm, rfl⟩
      obtain ⟨k, hkm, h2⟩ := List.mem_map.mp h1
      obtain ⟨p, hpm, rfl⟩ := List.mem_map.mp hkm
      obtain ⟨x, t, e1, e2⟩ := D.lit.all e hm
      refine ⟨x, t, e1, fun ez => ?_⟩
      unfold He.keyOf at h2
      rw [e1] at h2
      have h3 := congrArg Prod.fst (Option.some.inj h2)
      exact (List.find?_eq_none.mp hf p hpm) (decide_eq_true (h3.trans ez))
    unfold PySem.W.nsIn
    rw [D.at_]
    dsimp only
    have f0 : es.toList.find? (·.key.isStr z) = none := List.find?_eq_none.mpr fun e hm h => by
      obtain ⟨x, t, e1, e2⟩ := hkey e hm
      rw [e1] at h
      exact e2 (beq_iff_eq.mp h)
    have a0 : es.toList.any (·.refKey) = false := List.any_eq_false.mpr fun e hm h => by
      obtain ⟨x, t, e1, e2⟩ := hkey e hm
      unfold DictEntry.refKey at h
      rw [e1] at h
      exact nomatch h
    rw [f0, a0]
    rfl
end Wp

/-! zip of a tuple and a list -/
namespace ZMix
open PySem PySem.Spec PyProof.Rows L2 RZ
section
variable {prog : Program} {w : World} {A : Around} {E : Value → Shared → Prop} {s : Shared}
/-- what a zip object looks like: the tuple's iterator first, then the list's -/
structure Zst (h : Heap) (z TI TO i j p l : Addr) (n : Nat) (f : Value) : Prop where
  Z : IsZip h z TI TO f
  I : IsPair h TI (.ref i) (.ref j)
  O : ∃ a b, IsPair h TO a b
  P : h.IsTupleIter i p n
  L : h.IsListIter j l n
theorem step {z TI TO i j p l : Addr} {n : Nat} {xs ys : Array Value} {x y : Value} {Q : Value → Shared → Prop} (D : ZipApart z TI TO i j p l) (S : Zst s.heap z TI TO i j p l n .none)
    (hp : s.heap.IsTuple p xs) (hl : s.heap.IsList l ys) (hx : xs[n]? = some x) (hy : ys[n]? = some y)
    (q : ∀ h', Zst h' z TI TO i j p l (n + 1) (rawInt s.heap.objs.size) → IsPair h' s.heap.objs.size x y → h'.objs.size = s.heap.objs.size + 1 →
      (∀ c o, c ≠ z ∧ c ≠ TO ∧ c ≠ i ∧ c ≠ j → s.heap.get? c = some o → h'.get? c = some o) → Q (.ref s.heap.objs.size) { s with heap := h' }) :
    wpAny (model prog w) A (Builtin.«zip.__next__» ⟨[.ref z], []⟩) (fun r s' => ∃ v, r = .done (.ret v) ∧ Q v s') E s := by
  obtain ⟨a, b, hO⟩ := S.O
  show wpAny _ _ (field (.ref z) 2 >>= _) _ _ _; refine wpAny_bind (wpAny_field S.Z rfl (x := .bool false) rfl ?_)
  show wpAny _ _ (field (.ref z) 3 >>= _) _ _ _; refine wpAny_bind (wpAny_field S.Z rfl (x := .ref TI) rfl (wpAny_bind (wpAny_seqItems S.I rfl ?_)))
  show wpAny _ _ (Builtin.SmallTypes.ownedTupleIsFree (.ref z) >>= _) _ _ _; refine wpAny_bind ?_; unfold Builtin.SmallTypes.ownedTupleIsFree
  refine wpAny_bind (wpAny_field S.Z rfl (x := .none) rfl (wpAny_pure ?_)); simp only [if_true]
  refine wpAny_bind (wpAny_rule (wpAny_bind (wpAny_field S.Z rfl (x := .ref TO) rfl (wpAny_bind (wpAny_setField_rec S.Z (by simp) fun k1 u1 e1 => wpAny_bind ?_)))))
  have Z1 : IsZip k1 z TI TO .ellipsis := u1
  simp only [List.zipIdx_cons, List.zipIdx_nil, List.forIn_cons, List.forIn_nil]; refine wpAny_bind (wpAny_bind (wpAny_onRaise ?_))
  show wpAny _ _ (Builtin.SmallTypes.nextOf (.ref i) >>= _) _ _ _; refine wpAny_bind (nextOf_tuple_item (S.P.extBut e1.extBut D.i1z) (hp.extBut e1.extBut D.l1z) hx fun k2 P2 e2 => wpAny_pure ?_)
  have O2 : IsPair k2 TO a b := e2.extBut _ _ D.TOi1 (e1.extBut _ _ D.TOz hO)
  refine wpAny_bind (wpAny_seqItems O2 rfl (wpAny_bind (wpAny_updateSeq_pair O2 fun k3 u3 e3 => wpAny_bind (wpAny_letGo (wpAny_pure (wpAny_bind (wpAny_bind (wpAny_onRaise ?_))))))))
  have O3 : IsPair k3 TO x b := u3
  have up13 : ∀ c o, c ≠ TO → c ≠ i → k1.get? c = some o → k3.get? c = some o := fun c o c1 c2 e => e3.extBut _ _ c1 (e2.extBut _ _ c2 e)
  have up3 : ∀ c o, c ≠ z → c ≠ TO → c ≠ i → s.heap.get? c = some o → k3.get? c = some o := fun c o c0 c1 c2 e => up13 c o c1 c2 (e1.extBut _ _ c0 e)
  show wpAny _ _ (Builtin.SmallTypes.nextOf (.ref j) >>= _) _ _ _
  refine wpAny_bind (wpAny_nextOf_list_item (S.L.at fun o e => up3 j o D.i2z D.TOi2.symm D.i12.symm e) (hl.at fun o e => up3 l o D.l2z D.l2TO D.l2i1 e) hy fun k4 L4 e4 => wpAny_pure ?_)
  have O4 : IsPair k4 TO x b := e4.extBut _ _ D.TOi2 O3
  refine wpAny_bind (wpAny_seqItems O4 rfl (wpAny_bind (wpAny_updateSeq_pair O4 fun k5 u5 e5 => wpAny_bind (wpAny_letGo (wpAny_pure (wpAny_pure ?_))))))
  have O5 : IsPair k5 TO x y := u5
  refine wpAny_bind (wpAny_seqItems O5 rfl (wpAny_bind (wpAny_newTuple ?_)))
  have sz : k5.objs.size = s.heap.objs.size := by rw [e5.1, e4.1, e3.1, e2.1, e1.1]
  have up5 : ∀ c o, c ≠ TO → c ≠ i → c ≠ j → k1.get? c = some o → k5.get? c = some o := fun c o c1 c2 c3 e => e5.extBut _ _ c1 (e4.extBut _ _ c3 (up13 c o c1 c2 e))
  have Z5 : IsZip k5 z TI TO .ellipsis := up5 _ _ D.TOz.symm D.i1z.symm D.i2z.symm Z1
  have P5 : k5.IsTupleIter i p (n + 1) := P2.at fun o e => e5.extBut _ _ D.TOi1.symm (e4.extBut _ _ D.i12 (e3.extBut _ _ D.TOi1.symm e))
  have L5 : k5.IsListIter j l (n + 1) := L4.extBut e5.extBut D.TOi2.symm
  have lz : z < k5.objs.size := Heap.lt_size Z5
  show wpAny _ _ (Builtin.SmallTypes.ownedTupleHandOut (.ref z) (.ref k5.objs.size) >>= _) _ _ _; refine wpAny_bind ?_; unfold Builtin.SmallTypes.ownedTupleHandOut
  have Z6 : IsZip (k5.push { cls := .type "tuple", data := .seq #[x, y] }) z TI TO .ellipsis := Heap.get?_push_of_some _ Z5
  refine wpAny_bind (wpAny_setField_rec Z6 (by simp) fun k7 u7 e7 => ?_)
  have Z7 : IsZip k7 z TI TO (rawInt k5.objs.size) := u7
  refine wpAny_setField_rec Z7 (by simp) fun k8 u8 e8 => ?_
  have Z8 : IsZip k8 z TI TO (rawInt k5.objs.size) := u8
  have up8 : ∀ c o, c ≠ z → k5.get? c = some o → k8.get? c = some o := fun c o c0 e => e8.extBut _ _ c0 (e7.extBut _ _ c0 (Heap.get?_push_of_some _ e))
  have T8 : IsPair k8 k5.objs.size x y := e8.extBut _ _ (Nat.ne_of_gt lz) (e7.extBut _ _ (Nat.ne_of_gt lz) (Heap.get?_push_size _ rfl))
  have s8 : k8.objs.size = k5.objs.size + 1 := by rw [e8.1, e7.1, Heap.size_push]
  rw [sz] at Z8 T8 s8
  have I8 : IsPair k8 TI (.ref i) (.ref j) := up8 _ _ D.TIz (up5 _ _ D.TITO D.TIi1 D.TIi2 (e1.extBut _ _ D.TIz S.I))
  refine wpAny_pure ⟨_, rfl, ?_⟩
  rw [show k5.objs.size = s.heap.objs.size from sz]
  exact q k8 ⟨Z8, I8, ⟨x, y, up8 _ _ D.TOz O5⟩, P5.at fun o e => up8 _ o D.i1z e, L5.at fun o e => up8 _ o D.i2z e⟩ T8 s8 fun c o c0 e => up8 c o c0.1 (up5 c o c0.2.1 c0.2.2.1 c0.2.2.2 (e1.extBut _ _ c0.1 e))
theorem stop {z TI TO i j p l : Addr} {n : Nat} {xs ys : Array Value} {Q : PySem.Fin → Shared → Prop} (hh : A.handled = none) (D : ZipApart z TI TO i j p l) (S : Zst s.heap z TI TO i j p l n .none)
    (hp : s.heap.IsTuple p xs) (hl : s.heap.IsList l ys) (he : xs[n]? = none ∨ ys[n]? = none)
    (q : ∀ h' e, (∀ c o, c ≠ z ∧ c ≠ TO ∧ c ≠ i ∧ c ≠ j → s.heap.get? c = some o → h'.get? c = some o) → (∃ o, h'.get? e = some o ∧ o.cls = .type "StopIteration") → E (.ref e) { s with heap := h' }) :
    wpAny (model prog w) A (Builtin.«zip.__next__» ⟨[.ref z], []⟩) Q E s := by
  obtain ⟨a, b, hO⟩ := S.O
  show wpAny _ _ (field (.ref z) 2 >>= _) _ _ _; refine wpAny_bind (wpAny_field S.Z rfl (x := .bool false) rfl ?_)
  show wpAny _ _ (field (.ref z) 3 >>= _) _ _ _; refine wpAny_bind (wpAny_field S.Z rfl (x := .ref TI) rfl (wpAny_bind (wpAny_seqItems S.I rfl ?_)))
  show wpAny _ _ (Builtin.SmallTypes.ownedTupleIsFree (.ref z) >>= _) _ _ _; refine wpAny_bind ?_; unfold Builtin.SmallTypes.ownedTupleIsFree
  refine wpAny_bind (wpAny_field S.Z rfl (x := .none) rfl (wpAny_pure ?_)); simp only [if_true]
  refine wpAny_bind (wpAny_rule (wpAny_bind (wpAny_field S.Z rfl (x := .ref TO) rfl (wpAny_bind (wpAny_setField_rec S.Z (by simp) fun k1 u1 e1 => wpAny_bind ?_)))))
  have Z1 : IsZip k1 z TI TO .ellipsis := u1
  simp only [List.zipIdx_cons, List.zipIdx_nil, List.forIn_cons, List.forIn_nil]; refine wpAny_bind (wpAny_bind (wpAny_onRaise ?_))
  show wpAny _ _ (Builtin.SmallTypes.nextOf (.ref i) >>= _) _ _ _
  have apart : ∀ {k : Heap} {e : Addr} {oe : Obj}, IsZip k z TI TO .ellipsis → k.get? e = some oe → oe.cls = .type "StopIteration" → e ≠ z := fun {k e oe} hz h1 h2 h3 => by
    rw [h3, show k.get? z = _ from hz] at h1
    cases h1
    exact absurd (show Value.type "zip" = .type "StopIteration" from h2) (by decide)
  cases hx : xs[n]? with
  | none =>
    refine wpAny_bind (nextOf_tuple_end hh (S.P.extBut e1.extBut D.i1z) (hp.extBut e1.extBut D.l1z) hx fun k2 e e2 ⟨oe, h1, h2⟩ => ?_)
    have Z2 : IsZip k2 z TI TO .ellipsis := e2 _ _ D.i1z.symm Z1
    exact wpAny_setField_rec Z2 (by simp) fun k3 _ e3 => q k3 e (fun c o c0 x => e3.extBut _ _ c0.1 (e2 _ _ c0.2.2.1 (e1.extBut _ _ c0.1 x))) ⟨oe, e3.extBut _ _ (apart Z2 h1 h2) h1, h2⟩
  | some x =>
    have hy : ys[n]? = none := he.resolve_left (by rw [hx]; exact nofun)
    refine wpAny_bind (nextOf_tuple_item (S.P.extBut e1.extBut D.i1z) (hp.extBut e1.extBut D.l1z) hx fun k2 P2 e2 => wpAny_pure ?_)
    have O2 : IsPair k2 TO a b := e2.extBut _ _ D.TOi1 (e1.extBut _ _ D.TOz hO)
    refine wpAny_bind (wpAny_seqItems O2 rfl (wpAny_bind (wpAny_updateSeq_pair O2 fun k3 u3 e3 => wpAny_bind (wpAny_letGo (wpAny_pure (wpAny_bind (wpAny_bind (wpAny_onRaise ?_))))))))
    have up3 : ∀ c o, c ≠ z → c ≠ TO → c ≠ i → s.heap.get? c = some o → k3.get? c = some o := fun c o c0 c1 c2 e => e3.extBut _ _ c1 (e2.extBut _ _ c2 (e1.extBut _ _ c0 e))
    show wpAny _ _ (Builtin.SmallTypes.nextOf (.ref j) >>= _) _ _ _
    refine wpAny_bind (wpAny_nextOf_list_end hh (S.L.at fun o e => up3 j o D.i2z D.TOi2.symm D.i12.symm e) (hl.at fun o e => up3 l o D.l2z D.l2TO D.l2i1 e) hy fun k4 e e4 ⟨oe, h1, h2⟩ => ?_)
    have Z4 : IsZip k4 z TI TO .ellipsis := e4 _ _ D.i2z.symm (e3.extBut _ _ D.TOz.symm (e2.extBut _ _ D.i1z.symm Z1))
    exact wpAny_setField_rec Z4 (by simp) fun k5 _ e5 => q k5 e (fun c o c0 x => e5.extBut _ _ c0.1 (e4 _ _ c0.2.2.2 (up3 c o c0.1 c0.2.1 c0.2.2.1 x))) ⟨oe, e5.extBut _ _ (apart Z4 h1 h2) h1, h2⟩
theorem nxt {z TI TO i j p l : Addr} {n : Nat} {xs ys : Array Value} {x y : Value} {Q : Option Value → Shared → Prop} (D : ZipApart z TI TO i j p l) (S : Zst s.heap z TI TO i j p l n .none)
    (hp : s.heap.IsTuple p xs) (hl : s.heap.IsList l ys) (hx : xs[n]? = some x) (hy : ys[n]? = some y)
    (q : ∀ h', Zst h' z TI TO i j p l (n + 1) (rawInt s.heap.objs.size) → IsPair h' s.heap.objs.size x y → h'.objs.size = s.heap.objs.size + 1 →
      (∀ c o, c ≠ z ∧ c ≠ TO ∧ c ≠ i ∧ c ≠ j → s.heap.get? c = some o → h'.get? c = some o) → Q (some (.ref s.heap.objs.size)) { s with heap := h' }) : wpAny (model prog w) A (pyNext (.ref z)) Q E s := by
  unfold pyNext
  refine wpAny_bind (wpAny_attempt (wpAny_callSpecial?_slot (name := Str.ofString "__next__") ⟨_, S.Z, rfl⟩ F.slot_zip_next (wpAny_call_entry F.slot_zip_next ⟨_, S.Z, rfl⟩ F.entry_zip_next ?_ (F.args_zip_next_1 _))))
  exact step D S hp hl hx hy fun h' a b c d => wpAny_pure (q h' a b c d)
theorem nxtE {z TI TO i j p l : Addr} {n : Nat} {xs ys : Array Value} {Q : Option Value → Shared → Prop} (hh : A.handled = none) (D : ZipApart z TI TO i j p l) (S : Zst s.heap z TI TO i j p l n .none)
    (hp : s.heap.IsTuple p xs) (hl : s.heap.IsList l ys) (he : xs[n]? = none ∨ ys[n]? = none)
    (q : ∀ h', (∀ c o, c ≠ z ∧ c ≠ TO ∧ c ≠ i ∧ c ≠ j → s.heap.get? c = some o → h'.get? c = some o) → Q none { s with heap := h' }) : wpAny (model prog w) A (pyNext (.ref z)) Q E s := by
  unfold pyNext
  refine wpAny_bind (wpAny_attempt (wpAny_callSpecial?_slot (name := Str.ofString "__next__") ⟨_, S.Z, rfl⟩ F.slot_zip_next (wpAny_call_entry F.slot_zip_next ⟨_, S.Z, rfl⟩ F.entry_zip_next ?_ (F.args_zip_next_1 _))))
  exact stop hh D S hp hl he fun h' e k ⟨o, h1, h2⟩ => wpAny_bind (wpAny_isInstance (T := "StopIteration") (b := true) ⟨o, h1, h2⟩ isSubtype_stop (wpAny_pure (q _ k)))
end
/-- the heap with the five new objects -/
def mk1 (h : Heap) (p : Addr) : Heap := h.push { cls := .type "tuple_iterator", data := .fields #[.ref p, .int 0 0] }
def mk2 (h : Heap) (p l : Addr) : Heap := (mk1 h p).push { cls := .type "list_iterator", data := .fields #[.ref l, .int 0 0] }
def mk3 (h : Heap) (p l : Addr) : Heap := (mk2 h p l).push { cls := .type "tuple", data := .seq #[.ref h.objs.size, .ref (mk1 h p).objs.size] }
def mk4 (h : Heap) (p l : Addr) : Heap := (mk3 h p l).push { cls := .type "tuple", data := .seq #[.none, .none] }
def mk5 (h : Heap) (p l : Addr) : Heap := (mk4 h p l).push { cls := .type "zip", data := .fields #[.none, .bool false, .bool false, .ref (mk2 h p l).objs.size, .ref (mk3 h p l).objs.size] }
theorem made (p l : Addr) (xs ys : Array Value) : Meets (Builtin.«zip.__new__» ⟨[.type "zip", .ref p, .ref l], []⟩) (fun _ R s => s.heap.IsTuple p xs ∧ s.heap.IsList l ys ∧ R (.ok (.ret (.ref (mk4 s.heap p l).objs.size))) { s with heap := mk5 s.heap p l }) :=
  .of_wp fun prog w A R s hyp => by
    obtain ⟨hp, g, d, tk, os⟩ := s
    obtain ⟨a1, a2, a3⟩ := hyp
    have hsub := sub_zip
    have b1 : Heap.IsTuple (Shared.heap ⟨hp, g, d, tk, os⟩) p xs := a1
    have b2 : Heap.IsList (Shared.heap ⟨hp.push { cls := .type "tuple_iterator", data := .fields #[.ref p, .int 0 0] }, g, d, tk, os⟩) l ys := Heap.IsList.push a2 _
    wp_walk using wpAny_pyIter_tuple b1, wpAny_pyIter_list b2
    exact ⟨_, rfl, a3⟩
theorem mk_all (h : Heap) (p l : Addr) : Zst (mk5 h p l) (h.objs.size + 4) (h.objs.size + 2) (h.objs.size + 3) h.objs.size (h.objs.size + 1) p l 0 .none ∧ (mk4 h p l).objs.size = h.objs.size + 4 ∧ ∀ c o, h.get? c = some o → (mk5 h p l).get? c = some o := by
  have s1 : (mk1 h p).objs.size = h.objs.size + 1 := Heap.size_push ..
  have s2 : (mk2 h p l).objs.size = h.objs.size + 2 := by unfold mk2; rw [Heap.size_push, s1]
  have s3 : (mk3 h p l).objs.size = h.objs.size + 3 := by unfold mk3; rw [Heap.size_push, s2]
  have s4 : (mk4 h p l).objs.size = h.objs.size + 4 := by unfold mk4; rw [Heap.size_push, s3]
  have u45 : ∀ c o, (mk4 h p l).get? c = some o → (mk5 h p l).get? c = some o := fun c o e => Heap.get?_push_of_some _ e
  have u35 : ∀ c o, (mk3 h p l).get? c = some o → (mk5 h p l).get? c = some o := fun c o e => u45 c o (Heap.get?_push_of_some _ e)
  have u25 : ∀ c o, (mk2 h p l).get? c = some o → (mk5 h p l).get? c = some o := fun c o e => u35 c o (Heap.get?_push_of_some _ e)
  have u15 : ∀ c o, (mk1 h p).get? c = some o → (mk5 h p l).get? c = some o := fun c o e => u25 c o (Heap.get?_push_of_some _ e)
  refine ⟨⟨?_, ?_, ⟨Value.none, Value.none, ?_⟩, ?_, ?_⟩, s4, fun c o e => u15 c o (Heap.get?_push_of_some _ e)⟩
  · show (mk5 h p l).get? (h.objs.size + 4) = _
    rw [← s4, ← s2, ← s3]
    exact Heap.get?_push_size _ rfl
  · show (mk5 h p l).get? (h.objs.size + 2) = _
    rw [← s2, ← s1]
    exact u35 _ _ (Heap.get?_push_size _ rfl)
  · show (mk5 h p l).get? (h.objs.size + 3) = _
    rw [← s3]
    exact u45 _ _ (Heap.get?_push_size _ rfl)
  · exact ⟨_, u15 _ _ (Heap.get?_push_size _ rfl), rfl, rfl⟩
  · exact ⟨_, by rw [← s1]; exact u25 _ _ (Heap.get?_push_size _ rfl), rfl, rfl⟩
section
variable {prog : Program} {w : World} {A : Around} {E : Value → Shared → Prop} {s : Shared}
theorem calls {p l : Addr} {xs ys : Array Value} {Q : Value → Shared → Prop} (hp : s.heap.IsTuple p xs) (hl : s.heap.IsList l ys) (q : Q (.ref (s.heap.objs.size + 4)) { s with heap := mk5 s.heap p l }) :
    wpAny (model prog w) A (call (.type "zip") [.ref p, .ref l]) Q E s := by
  refine callType_new F.called_zip (by decide) (F.typeCall_zip_2 _ _) (F.newCall_zip_2 _ _) (fun obj => F.args_object_init_3 obj _ _) F.entry_zip_new (made p l xs ys) ⟨hp, hl, ?_⟩
  have hk := mk_all s.heap p l
  show _ ∧ _
  rw [hk.2.1]
  exact ⟨⟨_, hk.1.Z, rfl⟩, q⟩
end
/-- the tuple at a and the list at b, the items in new pairs -/
def ItM (K : PySem.W.Frag) (a b : Addr) : It :=
  ⟨fun i H => ∃ (xs ys : List V) (x y : V), SqT K H a xs ∧ SqL K H b ys ∧ xs[i]? = some x ∧ ys[i]? = some y,
    fun i H v H' => ∃ T x y, v = .ref T ∧ H T = none ∧ H' = upd H T (.tup [x, y]) ∧ (∀ xs, SqT K H a xs → xs[i]? = some x) ∧ ∀ ys, SqL K H b ys → ys[i]? = some y,
    fun i H => ∃ xs ys : List V, SqT K H a xs ∧ SqL K H b ys ∧ (xs.length ≤ i ∨ ys.length ≤ i)⟩
theorem turnM {P : Program} {w : World} {K : PySem.W.Frag} {elts : List Expr} {kk : Nat} {tpos : Pos} {a b z TI TO i1 i2 : Addr} (D : ZipApart z TI TO i1 i2 a b) :
    Turn P w K (.Tuple elts kk tpos) (ItM K a b) [z, TI, TO, i1, i2] z (fun i h => Zst h z TI TO i1 i2 a b i .none) where
  mem := List.mem_cons_self ..
  obj := fun i h S c hc => by
    obtain ⟨x, y, hO⟩ := S.O
    obtain ⟨o1, e1, _, d1⟩ := S.P
    obtain ⟨o2, e2, _, d2⟩ := S.L
    simp only [List.mem_cons, List.not_mem_nil, or_false] at hc
    rcases hc with rfl | rfl | rfl | rfl | rfl
    · exact ⟨_, S.Z, fun v q => nomatch q⟩
    · exact ⟨_, S.I, fun v q => nomatch q⟩
    · exact ⟨_, hO, fun v q => nomatch q⟩
    · exact ⟨o1, e1, fun v q => by rw [d1] at q; cases q⟩
    · exact ⟨o2, e2, fun v q => by rw [d2] at q; cases q⟩
  keep := fun i h h' S k => by
    obtain ⟨x, y, hO⟩ := S.O
    exact ⟨k z (by simp) _ S.Z, k TI (by simp) _ S.I, ⟨x, y, k TO (by simp) _ hO⟩, S.P.at fun o q => k i1 (by simp) o q, S.L.at fun o q => k i2 (by simp) o q⟩
  item := by
    intro X e1 e2 e3 hc i pins s σ H E I hf S hg
    subst e1 e2 e3
    obtain ⟨xs, ys, x, y, hqx, hqy, hx, hy⟩ := hg
    obtain ⟨its, rv, p, _⟩ := I.tuple hqx
    obtain ⟨its2, rv2, p2, _⟩ := I.list hqy
    obtain ⟨u, hu, ru⟩ := rv.get hx
    obtain ⟨u2, hu2, ru2⟩ := rv2.get hy
    have lz : z < s.heap.objs.size := Heap.lt_size S.Z
    have lt : ∀ c, c ∈ [z, TI, TO, i1, i2] → c < s.heap.objs.size := fun c hc => by
      obtain ⟨x, y, hO⟩ := S.O
      simp only [List.mem_cons, List.not_mem_nil, or_false] at hc
      rcases hc with rfl | rfl | rfl | rfl | rfl
      · exact lz
      · exact Heap.lt_size S.I
      · exact Heap.lt_size hO
      · obtain ⟨_, e, _⟩ := S.P; exact Heap.lt_size e
      · obtain ⟨_, e, _⟩ := S.L; exact Heap.lt_size e
    refine nxt D S p p2.isList (x := u) (y := u2) (by simpa using hu) (by simpa using hu2) fun h1 S1 hT _ hk => ⟨_, rfl, wpAny_letOwnedTupleGo_zip (s := { s with heap := h1 }) S1.Z fun h2 Z2 sb => ?_⟩
    have T2 : h2.get? s.heap.objs.size = some { cls := .type "tuple", data := .seq #[u, u2] } := (sb.2 _ (Nat.ne_of_gt lz)).trans hT
    have ok : ObjOk X.prog X.w (upd H s.heap.objs.size (.tup [x, y])) h2 s.heap.objs.size (.tup [x, y]) := ⟨(show 2 ≤ sizeLine by decide), [u, u2], .cons ru (.cons ru2 .nil), ⟨_, T2, rfl, _, rfl⟩⟩
    have I1 : Inv X pins σ (upd H s.heap.objs.size (.tup [x, y])) { s with heap := h2 } := I.turnedNew (t' := s.toks) (ch := [z, TI, TO, i1, i2]) (fun c o hb q => (sb.2 c (fun e => hb (by simp [e]))).trans (hk c o ⟨fun e => hb (by simp [e]), fun e => hb (by simp [e]), fun e => hb (by simp [e]), fun e => hb (by simp [e])⟩ q)) hf (Nat.le_refl _) ok
    obtain ⟨a0, b0, O1⟩ := S1.O
    refine ⟨.ref s.heap.objs.size, _, I1, rfl, ⟨_, x, y, rfl, I.hok.fresh (Nat.le_refl _), rfl, fun l hl => by rw [I.tuple_inj hl hqx]; exact hx, fun l hl => by rw [I.list_inj hl hqy]; exact hy⟩, ⟨Z2, (sb.2 _ D.TIz).trans S1.I, ⟨a0, b0, (sb.2 _ D.TOz).trans O1⟩, S1.P.at fun o q => (sb.2 _ D.i1z).trans q, S1.L.at fun o q => (sb.2 _ D.i2z).trans q⟩, fun c hc => ?_⟩
    rw [upd_ne (Nat.ne_of_lt (lt c hc))]
    exact (hf c hc).1
  done := by
    intro X e1 e2 e3 hc i pins s σ H E I hf S hg
    subst e1 e2 e3
    obtain ⟨xs, ys, hqx, hqy, hend⟩ := hg
    obtain ⟨its, rv, p, _⟩ := I.tuple hqx
    obtain ⟨its2, rv2, p2, _⟩ := I.list hqy
    have l1 := rv.length
    have l2 := rv2.length
    have he : its.toArray[i]? = none ∨ its2.toArray[i]? = none := hend.elim (fun q => .inl (by simp; omega)) (fun q => .inr (by simp; omega))
    exact nxtE (I.ok.hd hc) D S p p2.isList he fun h' hk => ⟨rfl, I.turnedL (t' := s.toks) (ch := [z, TI, TO, i1, i2]) (fun c o hb q => hk c o ⟨fun e => hb (by simp [e]), fun e => hb (by simp [e]), fun e => hb (by simp [e]), fun e => hb (by simp [e])⟩ q) hf⟩
  self := fun A i s Q E S h => wpAny_pyIter_zip S.Z h
def iZipM (K : PySem.W.Frag) (ta : TA) : TI := fun σ H R => ta σ H fun vs H1 => ∃ a b xs ys, vs = [.ref a, .ref b] ∧ SqT K H1 a xs ∧ SqL K H1 b ys ∧ R (ItM K a b) H1
theorem pi_zipM {X : Cx} {e e2 : Expr} {ta : TA} {p pos tpos : Pos} {elts : List Expr} {kk : Nat} (hg : Gl X "zip") (hm : X.mg "zip" = none) (ha : PA X [e, e2] ta)
    (hs : starEach [e, e2] X.env = (false, eval e X.env) :: starEach [e2] X.env := by rfl) (hpl : (backTo pos (starEach [e2] X.env)).any (·.1) = false := by rfl) :
    PI X (.Tuple elts kk tpos) (.Call (.Name "zip" p) [e, e2] [] pos) (iZipM X.K ta) := by
  refine ⟨fun pins s σ H R I h => Call_ (ld_blt I hg hm PyProof.Rows.boot_zip (PyProof.Rows.callWith_type1 (thn (ha.run pos pins s σ H _ I h) fun us s1 ⟨vs, H1, I1, r1, a, b, xs, ys, ex, hqx, hqy, q⟩ => ?_) hs hpl))⟩
  subst ex
  obtain ⟨ua, ub, rfl, ra, rb⟩ : ∃ ua ub, us = [ua, ub] ∧ RelV (.ref a) ua ∧ RelV (.ref b) ub := by
    cases r1 with
    | cons r rr =>
      cases rr with
      | cons r' rr => cases rr; exact ⟨_, _, rfl, r, r'⟩
  obtain rfl : ua = .ref a := ra
  obtain rfl : ub = .ref b := rb
  obtain ⟨its, rv, p1, _⟩ := I1.tuple hqx
  obtain ⟨its2, rv2, p2, _⟩ := I1.list hqy
  obtain ⟨S, _, hk⟩ := mk_all s1.heap a b
  refine calls p1 p2.isList (wpAny_pyIter_zip S.Z ?_)
  have I2 : Inv X pins σ H1 { s1 with heap := mk5 s1.heap a b } := I1.kept (t' := s1.toks) hk
  obtain ⟨o1, ho1, _⟩ := id p1
  refine ⟨s1.heap.objs.size + 4, [s1.heap.objs.size + 4, s1.heap.objs.size + 2, s1.heap.objs.size + 3, s1.heap.objs.size, s1.heap.objs.size + 1], _, _, H1, rfl, I2, turnM (PySem.W.ktu_apart s1.heap.objs.size a b (Heap.lt_size ho1) p2.lt), S, fun c hc => ?_, q⟩
  have hle : s1.heap.objs.size ≤ c := by
    simp only [List.mem_cons, List.not_mem_nil, or_false] at hc
    rcases hc with e | e | e | e | e <;> rw [e] <;> first | exact Nat.le_add_right _ _ | exact Nat.le_refl _
  exact I1.fpOk hle (I1.hok.fresh hle)
theorem walkM {K : PySem.W.Frag} {a b : Addr} {xs ys : List V} {n : Nat} (hn : n = min xs.length ys.length) : Walk (ItM K a b) n (fun H => SqT K H a xs ∧ SqL K H b ys) (YPair (fun i => xs[i]?) (fun i => ys[i]?)) := by
  subst hn
  refine ⟨fun i _ hi q => ?_, fun _ q => ⟨xs, ys, q.1, q.2, by omega⟩, fun i H v H' _ q ⟨T, x, z, h1, h2, h3, h4, h5⟩ => ⟨T, x, z, h1, h2, h3, h4 xs q.1, h5 ys q.2⟩⟩
  exact ⟨xs, ys, xs[i]'(by omega), ys[i]'(by omega), q.1, q.2, List.getElem?_eq_getElem _, List.getElem?_eq_getElem _⟩
end ZMix

namespace Wp
open PySem PySem.Spec PyProof.Rows L2 TyNe He

/-! ### tuples and tables of the module -/
/-- a tuple of the module -/
structure TupK (K : PySem.W.Frag) (a : Addr) (xs : List V) : Prop where
  ex : ∃ (o : Obj) (its : Array Value) (n : Nat), K.lookup a = some o ∧ o.cls = .type "tuple" ∧ o.data = .seq its n ∧ its.size ≤ sizeLine ∧ Vals xs its.toList
theorem TupK.sq {K : PySem.W.Frag} {a : Addr} {xs : List V} {H : Hp} (h : TupK K a xs) : SqT K H a xs := .inr h.ex
theorem TupK.mk' {K : PySem.W.Frag} {a : Addr} {xs : List V} {od : Option Addr} {its : Array Value} {n : Nat} {sl : Array (Option Value)} (h : K.lookup a = some ⟨.type "tuple", od, .seq its n, sl⟩) (hz : its.size ≤ 1000) (hv : Vals xs its.toList) : TupK K a xs :=
  ⟨_, its, n, h, rfl, rfl, Nat.le_trans hz (by decide), hv⟩
def tabG (kv : List (Str × V)) : Str → Option V := fun z => (kv.find? fun p => decide (p.1 = z)).map (·.2)
def rTab (A : Addr) (g : Str → Option V) : R2 := fun x y H Q => ∃ z v, x = .ref A ∧ y = .str z ∧ g z = some v ∧ Q v H
theorem ix_tab {X : Cx} {A : Addr} {g : Str → Option V} (M : MDict X.K X.w A g) : IxR X (rTab A g) := by
  intro e1 e2 pins s σ H x y v u Q I rx ry ⟨z, r, ex, ey, hg, q⟩ hs
  obtain ⟨es, n, D, hn⟩ := M.ex
  obtain ⟨t, h1, h2⟩ := hn z
  rw [hg] at h2
  cases t with
  | none => exact h2.elim
  | some t => exact ix_kdict e1 e2 pins s σ H x y v u Q I rx ry ⟨A, z, r, ex, ey, ⟨es, n, t, D.at_, D.lit, h1, h2⟩, q⟩ hs
/-- the entries of a table -/
def EntLit (P : Params) : List DictEntry → List (Str × V) → Prop
  | [], [] => True
  | e :: r, p :: s => (∃ t, e.key = .str p.1 t ∧ e.hash = PyData.keyHash P p.1 ∧ RelV p.2 e.val) ∧ EntLit P r s
  | _, _ => False
theorem EntLit.keys {P : Params} : ∀ {l : List DictEntry} {kv : List (Str × V)}, EntLit P l kv → PySem.W.KeysLit P l
  | [], [], _ => trivial
  | e :: r, p :: s, h => ⟨by obtain ⟨⟨t, h1, h2, _⟩, _⟩ := h; exact ⟨_, t, h1, h2⟩, EntLit.keys h.2⟩
  | [], _ :: _, h => h.elim
  | _ :: _, [], h => h.elim
theorem EntLit.find {P : Params} (z : Str) : ∀ {l : List DictEntry} {kv : List (Str × V)}, EntLit P l kv → RelO ((kv.find? fun p => decide (p.1 = z)).map (·.2)) ((l.find? (·.key.isStr z)).map (·.val)) ∧ l.any (·.refKey) = false
  | [], [], _ => ⟨trivial, rfl⟩
  | e :: r, p :: s, h => by
    obtain ⟨⟨t, h1, h2, h3⟩, h4⟩ := h
    obtain ⟨i1, i2⟩ := EntLit.find z h4
    have hr : e.refKey = false := by unfold DictEntry.refKey; rw [h1]
    refine ⟨?_, by rw [List.any_cons, hr, i2]; rfl⟩
    rw [List.find?_cons, List.find?_cons]
    have hs : e.key.isStr z = decide (p.1 = z) := by
      rw [h1]
      show (p.1 == z) = _
      by_cases q : p.1 = z
      · rw [q, decide_eq_true rfl]; exact beq_self_eq_true z
      · rw [decide_eq_false q]; exact beq_eq_false_iff_ne.mpr q
    rw [hs]
    cases decide (p.1 = z)
    · exact i1
    · exact h3
  | [], _ :: _, h => h.elim
  | _ :: _, [], h => h.elim
theorem mdictL {K : PySem.W.Frag} {w : World} {d : Addr} {es : Array DictEntry} {n : Nat} {kv : List (Str × V)} (hl : K.lookup d = some ⟨.type "dict", none, .dict es n, #[]⟩) (he : EntLit w.params es.toList kv) (low : (d == sysModules) = false) : MDict K w d (tabG kv) := by
  refine ⟨es, n, ⟨hl, he.keys, low⟩, fun z => ?_⟩
  obtain ⟨h1, h2⟩ := he.find z
  refine ⟨_, ?_, h1⟩
  unfold PySem.W.nsIn
  rw [hl]
  dsimp only
  cases es.toList.find? (·.key.isStr z) with
  | some e => rfl
  | none => rw [h2]; rfl
/-! ### texts -/
abbrev tJS (ts : List TE) : TE := fun σ H Q => tJs ts Str.empty σ H fun out H1 => Q (.str out) H1
abbrev qJoin (K : PySem.W.Frag) : V → List V → Hp → VK → Prop := fun x xs H Q => ∃ a p, ∃ ys : List Str, x = .str a ∧ xs = [.ref p] ∧ (SqL K H p (ys.map V.str) ∨ SqT K H p (ys.map V.str)) ∧ (ys.map (·.length)).sum + ys.length * a.length ≤ 16777216 ∧ Q (.str (Txt.join a ys)) H
abbrev qCount : V → List V → Hp → VK → Prop := fun x xs H Q => ∃ a b, x = .str a ∧ xs = [.str b] ∧ Q (.int (Txt.count a b)) H
abbrev qSplit : V → List V → Hp → VK → Prop := fun x xs H Q => ∃ a b, x = .str a ∧ xs = [.str b] ∧ (b.length == 0) = false ∧ a.length + 2 ≤ sizeLine ∧ rNewStrs (Txt.split a b) H Q
abbrev qStarts : V → List V → Hp → VK → Prop := fun x xs H Q => ∃ a b, x = .str a ∧ xs = [.str b] ∧ Q (.bl (Txt.startswith a b)) H
section
variable {K : PySem.W.Frag} {σ : L2.St} {H : Hp} {Q : VK} {te : TE} {ts : List TE}
theorem w_js (q : tJs ts Str.empty σ H fun out H1 => Q (.str out) H1) : tJS ts σ H Q := q
theorem w_jcons {acc : Str} {R : Str → Hp → Prop} (q : te σ H fun x H1 => ∃ y : Str, x = .str y ∧ (acc ++ y).length ≤ sizeLine ∧ tJs ts (acc ++ y) σ H1 R) : tJs (te :: ts) acc σ H R := q
theorem w_jnil {acc : Str} {R : Str → Hp → Prop} (q : R acc H) : tJs [] acc σ H R := q
theorem w_jy {acc y : Str} {R : Str → Hp → Prop} (h : (acc ++ y).length ≤ 100000) (q : tJs ts (acc ++ y) σ H R) : ∃ z : Str, V.str y = .str z ∧ (acc ++ z).length ≤ sizeLine ∧ tJs ts (acc ++ z) σ H R := ⟨y, rfl, sz h, q⟩
theorem w_fmt (q : te σ H fun x H1 => (∃ y : Str, x = .str y ∧ y.length ≤ sizeLine ∧ Q (.str y) H1) ∨ ∃ i : Int, x = .int i ∧ i.natAbs.log2 < 1920 ∧ Q (.str (toString i)) H1) : tFmt te σ H Q := q
theorem w_fmtS {y : Str} {A : Prop} {R : Str → Prop} (h : y.length ≤ 100000) (q : R y) : (∃ z : Str, V.str y = .str z ∧ z.length ≤ sizeLine ∧ R z) ∨ A := .inl ⟨y, rfl, sz h, q⟩
theorem log_small {i : Int} (h0 : 0 ≤ i) (h1 : i ≤ 100000000000000000000) : i.natAbs.log2 < 1920 := by
  have h2 : i.natAbs ≤ 100000000000000000000 := by omega
  have h3 : i.natAbs.log2 < 67 := by
    by_cases h : i.natAbs = 0
    · rw [h]; decide
    · exact (Nat.log2_lt h).mpr (Nat.lt_of_le_of_lt h2 (by decide))
  omega
theorem w_fmtI {i : Int} {A : Prop} {R : Int → Prop} (h0 : 0 ≤ i) (h1 : i ≤ 100000000000000000000) (q : R i) : A ∨ ∃ j : Int, V.int i = .int j ∧ j.natAbs.log2 < 1920 ∧ R j := .inr ⟨i, rfl, log_small h0 h1, q⟩
theorem int_len {i : Int} (h0 : 0 ≤ i) (h1 : i ≤ 100000000000000000000) : (Str.ofString (toString i)).length ≤ 70 := by
  have h2 : i.natAbs.log2 < 67 := by
    by_cases h : i.natAbs = 0
    · rw [h]; decide
    · exact (Nat.log2_lt h).mpr (Nat.lt_of_le_of_lt (show i.natAbs ≤ 100000000000000000000 by omega) (by decide))
  have e := int_text_length_le (k := 67) (by decide) h2
  rw [PySem.ofString_length]
  omega
theorem w_joinL {a : Str} {p : Addr} {ys : List Str} (h : SqL K H p (ys.map V.str)) (z : (ys.map (·.length)).sum + ys.length * a.length ≤ 100000) (q : Q (.str (Txt.join a ys)) H) : qJoin K (.str a) [.ref p] H Q := ⟨a, p, ys, rfl, rfl, .inl h, Nat.le_trans z (by decide), q⟩
theorem w_joinT {a : Str} {p : Addr} {ys : List Str} (h : SqT K H p (ys.map V.str)) (z : (ys.map (·.length)).sum + ys.length * a.length ≤ 100000) (q : Q (.str (Txt.join a ys)) H) : qJoin K (.str a) [.ref p] H Q := ⟨a, p, ys, rfl, rfl, .inr h, Nat.le_trans z (by decide), q⟩
theorem w_count {a b : Str} (q : Q (.int (Txt.count a b)) H) : qCount (.str a) [.str b] H Q := ⟨a, b, rfl, rfl, q⟩
theorem strKind_pos (a : Str) : 1 ≤ Builtin.Str.strKind a := by
  unfold Builtin.Str.strKind
  split
  · exact Nat.le_refl _
  · split <;> decide
theorem w_split {a b : Str} (h : (b.length == 0) = false) (z : a.length ≤ 100000) (q : ∀ p, H p = none → Q (.ref p) (upd H p (.lst ((Txt.split a b).map V.str)))) : qSplit (.str a) [.str b] H Q :=
  ⟨a, b, rfl, rfl, h, Nat.le_trans (Nat.add_le_add_right z 2) (by decide), q⟩
theorem w_tab {A : Addr} {g : Str → Option V} {z : Str} {v : V} (h : g z = some v) (q : Q v H) : rTab A g (.ref A) (.str z) H Q := ⟨z, v, rfl, rfl, h, q⟩
theorem w_catA {a b : Addr} {xs ys : List V} (h : SqT K H a xs) (h' : SqT K H b ys) (z : xs.length + ys.length ≤ 1000) (q : ∀ p H', Same H H' → SqT K H' p (xs ++ ys) → Q (.ref p) H') : rCatA K (.ref a) (.ref b) H Q := by
  refine ⟨a, b, xs, ys, rfl, rfl, h, h', Nat.le_trans z (by decide), fun e => ?_, fun _ e => ?_, fun _ _ p hp => ?_⟩
  · subst e
    exact q b H (Same.refl H) h'
  · subst e
    rw [List.append_nil] at q
    exact q a H (Same.refl H) h
  · exact q p _ (Same.upd (Same.refl H) hp) (SqT.of upd_same)
end
/-! ### new objects as heaps of their own; tests that are known -/
theorem Same.get {H H' : Hp} {a : Addr} {o : HO} (h : Same H H') (e : H a = some o) : H' a = some o := h _ _ e
section
variable {K : PySem.W.Frag} {σ : L2.St} {H : Hp} {Q : VK} {v : V} {tr : TA}
/-- a new object -/
def New (H : Hp) (o : HO) (R : Addr → Hp → Prop) : Prop := ∀ p, H p = none → R p (upd H p o)
theorem w_new {o : HO} {R : Addr → Hp → Prop} (q : ∀ p H2, H p = none → Same H H2 → H2 p = some o → R p H2) : New H o R := fun p hp => q p _ hp (Same.upd (Same.refl H) hp) upd_same
theorem newT {t : Addr} {o : HO} (ht : H t = none) : ∃ G, G = upd H t o ∧ Same H G ∧ G t = some o := ⟨_, rfl, Same.upd (Same.refl H) ht, upd_same⟩
theorem Same.sqT {H H' : Hp} {a : Addr} {xs : List V} (e : Same H H') (h : SqT K H a xs) : SqT K H' a xs := h.elim (fun r => .inl (r.elim (fun r => .inl (e _ _ r)) fun ⟨o, r⟩ => .inr ⟨o, e _ _ r⟩)) .inr
theorem w_zipM {ta : TA} {R : It → Hp → Prop} (q : ta σ H fun vs H1 => ∃ a b xs ys, vs = [.ref a, .ref b] ∧ SqT K H1 a xs ∧ SqL K H1 b ys ∧ R (ZMix.ItM K a b) H1) : ZMix.iZipM K ta σ H R := q
theorem w_tupV (q : tr σ H fun xs H1 => xs.length ≤ sizeLine ∧ New H1 (.tup xs) fun p H2 => Q (.ref p) H2) : tTup tr σ H Q := q
theorem w_lstV (q : tr σ H fun xs H1 => xs.length ≤ sizeLine ∧ New H1 (.lst xs) fun p H2 => Q (.ref p) H2) : tLst tr σ H Q := q
theorem w_appV {p : Addr} {xs : List V} (h : H p = some (.lst xs)) (z : xs.length ≤ 100000) (q : ∀ H2, Kp p H H2 → H2 p = some (.lst (xs ++ [v])) → Q .non H2) : rAppend (.ref p) [v] H Q :=
  ⟨p, xs, v, rfl, rfl, h, Nat.lt_of_le_of_lt z (by decide), q _ Kp.refl.updp upd_same⟩
theorem w_catV {l b : Addr} {xs zs : List V} (h : H l = some (.lst xs)) (h' : H b = some (.lst zs)) (z : xs.length + zs.length ≤ 1000000) (q : ∀ p H2, H p = none → Same H H2 → H2 p = some (.lst (xs ++ zs)) → Q (.ref p) H2) : rCat (.ref l) (.ref b) H Q :=
  ⟨l, b, xs, zs, rfl, rfl, h, h', Nat.le_trans z (by decide), fun p hp => q p _ hp (Same.upd (Same.refl H) hp) upd_same⟩
theorem w_listOfV {p : Addr} {ys : List V} (h : SqL K H p ys ∨ SqT K H p ys) (q : ∀ l H2, H l = none → Same H H2 → H2 l = some (.lst ys) → Q (.ref l) H2) : qListOf K [.ref p] H Q :=
  ⟨p, ys, rfl, h, fun l hl => q l _ hl (Same.upd (Same.refl H) hl) upd_same⟩
theorem w_slTV {a : Addr} {xs : List V} {lo hi : Option Int} (h : SqT K H a xs) (n : ¬ (HT.sIx xs.length 0 lo = 0 ∧ HT.sIx xs.length xs.length hi = xs.length)) (q : ∀ p H2, H p = none → Same H H2 → H2 p = some (.tup (cutV xs lo hi)) → Q (.ref p) H2) : rSlT K (.ref a) lo hi H Q :=
  ⟨a, xs, rfl, h, n, fun p hp => q p _ hp (Same.upd (Same.refl H) hp) upd_same⟩
theorem w_slLV {a : Addr} {xs : List V} {lo hi : Option Int} (h : SqL K H a xs) (q : ∀ p H2, H p = none → Same H H2 → H2 p = some (.lst (cutV xs lo hi)) → Q (.ref p) H2) : rSlL K (.ref a) lo hi H Q :=
  ⟨a, xs, rfl, h, fun p hp => q p _ hp (Same.upd (Same.refl H) hp) upd_same⟩
theorem w_splitV {a b : Str} (h : (b.length == 0) = false) (z : a.length ≤ 100000) (q : ∀ p H2, H p = none → Same H H2 → H2 p = some (.lst ((Txt.split a b).map V.str)) → Q (.ref p) H2) : qSplit (.str a) [.str b] H Q :=
  ⟨a, b, rfl, rfl, h, Nat.le_trans (Nat.add_le_add_right z 2) (by decide), fun p hp => q p _ hp (Same.upd (Same.refl H) hp) upd_same⟩
theorem w_inTb {p : Addr} {xs : List V} {b : Bool} (h : SqT K H p xs) (f : flatV v = true) (fs : xs.all flatV = true) (e : inV v xs = b) (q : Q (.bl b) H) : rIn K false v (.ref p) H Q := w_inT h f fs (by rw [e]; exact q)
theorem w_inLb {p : Addr} {xs : List V} {b : Bool} (h : SqL K H p xs) (f : flatV v = true) (fs : xs.all flatV = true) (e : inV v xs = b) (q : Q (.bl b) H) : rIn K false v (.ref p) H Q := w_inL h f fs (by rw [e]; exact q)
theorem w_dec1 {c A B : Prop} [Decidable c] (h : c) (q : A) : if decide c = true then A else B := by rw [if_pos (decide_eq_true h)]; exact q
theorem w_dec0 {c A B : Prop} [Decidable c] (h : ¬ c) (q : B) : if decide c = true then A else B := by rw [if_neg (by rw [decide_eq_true_iff]; exact h)]; exact q
end
/-! ### join -/
theorem join_nil (a : Str) : Txt.join a [] = Str.empty := by rfl
theorem join_eq (a : Str) (ys : List Str) : Txt.join a ys = Str.join a ys := StrLaws.glued_eq_join a ys
theorem join_len (a : Str) (ys : List Str) : (Txt.join a ys).length ≤ (ys.map (·.length)).sum + ys.length * a.length := by
  rw [join_eq]
  exact StrLaws.join_length_le a ys
theorem sum_le {α : Type} (f : α → Nat) (m : Nat) : ∀ {l : List α}, (∀ x ∈ l, f x ≤ m) → (l.map f).sum ≤ l.length * m
  | [], _ => Nat.zero_le _
  | x :: l, h => by
    rw [List.map_cons, List.sum_cons, List.length_cons, Nat.succ_mul]
    have := sum_le f m (l := l) fun y hy => h y (List.mem_cons_of_mem _ hy)
    have := h x (List.mem_cons_self ..)
    omega
/-! ### lines of a text -/
theorem split_len {a b : Str} (hb : b.length = 1) (hk : ¬ (Builtin.Str.strKind a < Builtin.Str.strKind b)) : ((Txt.split a b).length : Int) = Txt.count a b + 1 := by
  unfold Txt.split Txt.count
  by_cases h : a.length < b.length
  · have h0 : a.length = 0 := by omega
    rw [if_pos (by rw [decide_eq_true h]; rfl)]
    have e : a = ⟨#[]⟩ := by
      obtain ⟨c⟩ := a
      have : c.size = 0 := h0
      rw [Array.size_eq_zero_iff] at this
      rw [this]
    subst e
    have : Builtin.Str.occurrences ⟨#[]⟩ b 0 (⟨#[]⟩ : Str).length ((⟨#[]⟩ : Str).length + 1) = [] := by
      unfold Builtin.Str.occurrences
      show (Id.run do _) = _
      simp [Str.length, hb]
      have h1 : b.cps.size = 1 := hb
      have h2 : b.cps ≠ #[] := fun e => by rw [e] at h1; exact nomatch h1
      simp [h2]
    rw [this]
    rfl
  · rw [if_neg (by rw [decide_eq_false h, decide_eq_false hk]; decide)]
    by_cases h2 : (Builtin.Str.occurrences a b 0 a.length (a.length + 1)).isEmpty = true
    · rw [if_pos h2, List.isEmpty_iff.mp h2]
      rfl
    · rw [if_neg h2]
      unfold Builtin.Str.partsBetween
      simp only [List.length_map, List.length_zip, List.length_cons, List.length_append, List.length_map, List.length_nil]
      omega
theorem split_lines (a : Str) : ((Txt.split a (Str.ofString "\n")).length : Int) = Txt.count a (Str.ofString "\n") + 1 := split_len rfl fun h => by
  have h1 := strKind_pos a
  have h2 : Builtin.Str.strKind (Str.ofString "\n") = 1 := by decide +kernel
  omega
theorem count_le (a : Str) : 0 ≤ Txt.count a (Str.ofString "\n") ∧ Txt.count a (Str.ofString "\n") ≤ a.length + 1 := by
  have h1 := split_lines a
  have h2 := PyProof.Rows.split_le a (Str.ofString "\n")
  refine ⟨by unfold Txt.count; exact Int.natCast_nonneg _, by omega⟩
end Wp

namespace Wp
open PySem PySem.Spec PyProof.Rows L2 TyNe HT
section
variable {prog : Program} {w : World} {A : Around} {E : Value → Shared → Prop} {s : Shared}
/-- t[lo:hi] that is all of t is t -/
theorem slice_whole {t k : Addr} {its : Array Value} {vl vu : Value} {lo hi : Option Int} {Q : Value → Shared → Prop} (ht : IsTup s.heap t its) (hs : s.heap.IsSliceOf k vl vu .none) (pl : IsPart vl lo) (pu : IsPart vu hi)
    (hw : HT.sIx its.size 0 lo = 0 ∧ HT.sIx its.size its.size hi = its.size) (q : Q (.ref t) s) : wpAny (model prog w) A (getItem (.ref t) (.ref k)) Q E s := by
  obtain ⟨os, hos, hcs, hds⟩ := id hs
  obtain ⟨ot, hot, hct, n, hdt⟩ := id ht
  have tk : s.TypeIs (.ref k) "slice" := ⟨os, hos, hcs⟩
  unfold getItem
  try with_reducible refine wpAny_holding ?_
  first | refine wpAny_bind (wpAny_pure ?_) | skip
  refine wpAny_bind (wpAny_sequenceKey ht.typeIs (by decide) (wpAny_bind (wpAny_callSpecial?_slot (name := Str.ofString "__getitem__") ht.typeIs slot_tuple_getitem (wpAny_call_entry slot_tuple_getitem ht.typeIs PyProof.Rows.entry_tuple_getitem ?_ (PyProof.Rows.args_tuple_getitem _ _)))))
  show wpAny _ _ (Builtin.Tuple.tupleItemsOf (.ref t) >>= _) _ _ s
  refine wpAny_bind (tupleItemsOf_ ht (wpAny_bind (wpAny_typeOf tk ?_)))
  rw [if_pos (by decide)]
  refine wpAny_bind (sliceApplied_gen hs pl pu ?_)
  have yes : (((HT.sIx its.size 0 lo : Nat) : Int) == 0 && (1 : Int) == 1 && (HT.sIx its.size its.size hi - HT.sIx its.size 0 lo) == its.size) = true := by
    rw [hw.1, hw.2, Nat.sub_zero]
    simp
  show wpAny _ _ (if (((HT.sIx its.size 0 lo : Nat) : Int) == 0 && (1 : Int) == 1 && (HT.sIx its.size its.size hi - HT.sIx its.size 0 lo) == its.size) = true then _ else _) _ _ s
  rw [if_pos yes]
  refine wpAny_bind (m := Builtin.Tuple.tupleIsExact _) ?_
  unfold Builtin.Tuple.tupleIsExact
  refine wpAny_bind (wpAny_typeOf ht.typeIs (wpAny_pure ?_))
  rw [if_pos (by decide)]
  first
    | exact wpAny_bind (wpAny_rule (wpAny_bind (wpAny_pure (wpAny_pure ⟨_, rfl, wpAny_pure q⟩))))
    | exact wpAny_bind (wpAny_rule (wpAny_pure ⟨_, rfl, wpAny_pure q⟩))
    | exact wpAny_bind (wpAny_rule (wpAny_bind (wpAny_pure (wpAny_bind (wpAny_pure ⟨_, rfl, wpAny_pure q⟩)))))
    | exact wpAny_bind (wpAny_rule (wpAny_bind (wpAny_pure ⟨_, rfl, wpAny_pure q⟩)))
    | trace_state
end
/-! ### a slice of a list or of a tuple, all of it or not -/
def rSlA (K : PySem.W.Frag) : V → Option Int → Option Int → Hp → VK → Prop := fun x lo hi H Q => ∃ a xs, x = .ref a ∧ ((SqL K H a xs ∧ ∀ p, H p = none → Q (.ref p) (upd H p (.lst (cutV xs lo hi)))) ∨
  (SqT K H a xs ∧ ((HT.sIx xs.length 0 lo = 0 ∧ HT.sIx xs.length xs.length hi = xs.length) → Q (.ref a) H) ∧ (¬ (HT.sIx xs.length 0 lo = 0 ∧ HT.sIx xs.length xs.length hi = xs.length) → ∀ p, H p = none → Q (.ref p) (upd H p (.tup (cutV xs lo hi))))))
theorem sl_any {X : Cx} : SlR X (rSlA X.K) := by
  intro pins s σ H x v vl vu lo hi sl Q I rx hs pl pu ⟨a, xs, ex, h⟩
  rcases h with ⟨hl, q⟩ | ⟨ht, q1, q2⟩
  · exact sl_list pins s σ H x v vl vu lo hi sl Q I rx hs pl pu ⟨a, xs, ex, hl, q⟩
  · by_cases w : HT.sIx xs.length 0 lo = 0 ∧ HT.sIx xs.length xs.length hi = xs.length
    · subst ex
      obtain rfl : v = Value.ref a := rx
      obtain ⟨its, r, p, hz⟩ := I.tuple ht
      have hlen : its.toArray.size = xs.length := by rw [List.size_toArray]; exact r.length.symm
      exact ⟨"tuple", _, PyProof.Rows.slot_tuple_getitem.lookup, p.typeIs, slice_whole p hs pl pu (by rw [hlen]; exact w) ⟨.ref a, H, I, rfl, q1 w⟩⟩
    · exact sl_tup pins s σ H x v vl vu lo hi sl Q I rx hs pl pu ⟨a, xs, ex, ht, w, q2 w⟩
end Wp

namespace Wp
open PySem PySem.Spec PyProof.Rows L2 TyNe HT
/-- room for a test with items that are data -/
theorem hu65 {j : Nat} {A : Around} (hr : Room j A) : A.units + 65 < cLine := by
  have := hr.un
  omega
/-- x in t, x not in t, where t is a tuple of data -/
def rInTD (K : PySem.W.Frag) (neg : Bool) : R2 := fun x y H Q => ∃ d ds, Dp K H x d ∧ Dp K H y (.tuple ds) ∧ SeqAt.shaped d = true ∧ SeqAt.shaped (.tuple ds) = true ∧ Q (.bl (if neg = true then !(ds.any fun z => PyData.eqv z d) else ds.any fun z => PyData.eqv z d)) H
section
variable {X : Cx}
theorem op_inTD (hu : X.A.units + 65 < cLine) : OpR X (compareOp .In) (rInTD X.K false) := by
  intro pins s σ H x y v u Q I rx ry ⟨d, ds, hd, he, sd, se, q⟩
  obtain ⟨_, r1⟩ := Dp.reads I d x v hd rx
  obtain ⟨_, r2⟩ := Dp.reads I (.tuple ds) y u he ry
  exact SeqAt.in_tuple_reads r2 r1 (SeqAt.canLay_of_shaped se) (SeqAt.canLay_of_shaped sd) (room_in_shaped sd hu) ⟨.bl _, H, I, rfl, q⟩
theorem op_notInTD (hu : X.A.units + 65 < cLine) : OpR X (compareOp .NotIn) (rInTD X.K true) := by
  intro pins s σ H x y v u Q I rx ry ⟨d, ds, hd, he, sd, se, q⟩
  obtain ⟨_, r1⟩ := Dp.reads I d x v hd rx
  obtain ⟨_, r2⟩ := Dp.reads I (.tuple ds) y u he ry
  exact SeqAt.notIn_tuple_reads r2 r1 (SeqAt.canLay_of_shaped se) (SeqAt.canLay_of_shaped sd) (room_in_shaped sd hu) ⟨.bl _, H, I, rfl, q⟩
end
end Wp

namespace Wp
open PySem PySem.Spec PyProof.Rows L2 TyNe HT
/-- x <= y, x >= y of data that are alike -/
def rLeD (K : PySem.W.Frag) : R2 := fun x y H Q => ∃ d e, Dp K H x d ∧ Dp K H y e ∧ PySem.W.alike d e = true ∧ d ≠ .none ∧ d.depth ≤ 64 ∧ Q (.bl (!PySem.W.dataLt e d)) H
def rGeD (K : PySem.W.Frag) : R2 := fun x y H Q => ∃ d e, Dp K H x d ∧ Dp K H y e ∧ PySem.W.alike d e = true ∧ d ≠ .none ∧ d.depth ≤ 64 ∧ Q (.bl (!PySem.W.dataLt d e)) H
/-- x in l, x not in l, where l is a list of data -/
def rInLD (K : PySem.W.Frag) (neg : Bool) : R2 := fun x y H Q => ∃ d ds, Dp K H x d ∧ Dp K H y (.list ds) ∧ SeqAt.shaped d = true ∧ SeqAt.shaped (.list ds) = true ∧ Q (.bl (if neg = true then !(ds.any fun z => PyData.eqv z d) else ds.any fun z => PyData.eqv z d)) H
section
variable {X : Cx}
theorem op_leD (hu : X.A.units + 65 < cLine) : OpR X (compareOp .LtE) (rLeD X.K) := by
  intro pins s σ H x y v u Q I rx ry ⟨d, e, hd, he, al, nn, dp, q⟩
  obtain ⟨_, r1⟩ := Dp.reads I d x v hd rx
  obtain ⟨_, r2⟩ := Dp.reads I e y u he ry
  exact PySem.W.le_data r1 r2 al nn (by have := Nat.min_le_left d.depth e.depth; omega) ⟨.bl _, H, I, rfl, q⟩
theorem op_geD (hu : X.A.units + 65 < cLine) : OpR X (compareOp .GtE) (rGeD X.K) := by
  intro pins s σ H x y v u Q I rx ry ⟨d, e, hd, he, al, nn, dp, q⟩
  obtain ⟨_, r1⟩ := Dp.reads I d x v hd rx
  obtain ⟨_, r2⟩ := Dp.reads I e y u he ry
  exact PySem.W.ge_data r1 r2 al nn (by have := Nat.min_le_left d.depth e.depth; omega) ⟨.bl _, H, I, rfl, q⟩
theorem op_inLD (hu : X.A.units + 65 < cLine) : OpR X (compareOp .In) (rInLD X.K false) := by
  intro pins s σ H x y v u Q I rx ry ⟨d, ds, hd, he, sd, se, q⟩
  obtain ⟨_, r1⟩ := Dp.reads I d x v hd rx
  obtain ⟨_, r2⟩ := Dp.reads I (.list ds) y u he ry
  exact SeqAt.in_list_reads r2 r1 (SeqAt.canLay_of_shaped se) (SeqAt.canLay_of_shaped sd) (room_in_shaped sd hu) ⟨.bl _, H, I, rfl, q⟩
theorem op_notInLD (hu : X.A.units + 65 < cLine) : OpR X (compareOp .NotIn) (rInLD X.K true) := by
  intro pins s σ H x y v u Q I rx ry ⟨d, ds, hd, he, sd, se, q⟩
  obtain ⟨_, r1⟩ := Dp.reads I d x v hd rx
  obtain ⟨_, r2⟩ := Dp.reads I (.list ds) y u he ry
  exact SeqAt.notIn_list_reads r2 r1 (SeqAt.canLay_of_shaped se) (SeqAt.canLay_of_shaped sd) (room_in_shaped sd hu) ⟨.bl _, H, I, rfl, q⟩
end
/-- l.insert(i, y) -/
abbrev qInsert : V → List V → Hp → VK → Prop := fun x vs H Q => ∃ (l : Addr) (xs : List V) (i : Int) (y : V), x = .ref l ∧ vs = [.int i, y] ∧ H l = some (.lst xs) ∧ xs.length < sizeLine ∧ 0 ≤ i ∧ i < 2 ^ 63 ∧ Q .non (upd H l (.lst (xs.take i.toNat ++ [y] ++ xs.drop i.toNat)))
/-! ### an own class made without arguments -/
theorem pe_mk0 {X : Cx} {k j : Nat} {C : Addr} {x : Str} {sp : Sp} {dvs : List V} {p pos : Pos} (c : C8.Mak X.prog X.w X.K X.mg X.base k x C sp dvs) (hr : Room j X.A) (hk : k + 1 ≤ j) (hg : Gl X x)
    (hdb : (x == ("__debug__" : Str)) = false := by decide) : PE X (.Call (.Name x p) [] [] pos) (tMake C sp dvs C8.E0 tNil) := by
  obtain ⟨f, fd, ps, ds, M, F, hm, b, d⟩ := c.ex
  exact pe_make0 M F (hr.mono hk) hg hm b d C8.pass0 hdb
/-! ### (number, text) < (number, text) -/
theorem alike_key (s t : Int) (a b : Str) : PySem.W.alike (.tuple [.int s, .str a]) (.tuple [.int t, .str b]) = true := by rfl
theorem lt_key {s t : Int} (a b : Str) (h : s < t) : PySem.W.dataLt (.tuple [.int s, .str a]) (.tuple [.int t, .str b]) = true := by
  rw [PySem.W.dataLt_tuple, PySem.W.dataLt_all_no (by rfl) (by show (s == t) = false; rw [beq_eq_false_iff_ne]; omega), PySem.W.dataLt_int]
  exact decide_eq_true h
end Wp

namespace Wp
open PySem PySem.Spec PyProof.Rows L2 TyNe

/-! ### defs that may raise -/
section
variable {P : Program} {w : World} {K : PySem.W.Frag} {mg : Str → Option Value} {base : Heap}
theorem fnX {x qual : Str} {st : Stmt} {f : Addr} {fd : FuncData} {N ps : List Str} {k : Nat} {sp : Sp} (F : C8.Fun K x qual st f fd) (S : FnScope N ps (C8.fnScope st)) (len : ∀ vs H Q E, sp vs H Q E → vs.length = ps.length)
    (hbody : ∀ (cdv : Value) (A : Around) (outer : List Env) (s : Shared) (H : Hp) (vs : List V) (Q : VK) (E : XK), Room k (A.deeper (envOfC qual (C8.fnScope st) s.heap.objs.size f cdv)) → sp vs H Q E →
      ∃ t, PSs (cxOf (L2.CX P w) P w K mg base N qual (C8.fnScope st) f cdv A outer s H E) (C8.fnBody st) t ∧ t { nx := fun _ H' => Q .non H', rt := Q } (start N vs) H) : FnOk P w K mg base (L2.CX P w) (k + 1) f fd ps sp := by
  obtain ⟨oc, od, dV, kV, doc, pm, an, cdv, ct, osl, rfl, lk, hcd⟩ := F.ex
  refine fn_of lk hcd S len fun A outer s H vs Q E hr hsp => ?_
  obtain ⟨t, h, q⟩ := hbody cdv A outer s H vs Q E hr hsp
  exact ⟨t, h, q⟩
/-- a def that may raise, under its name -/
structure XCal (P : Program) (w : World) (K : PySem.W.Frag) (mg : Str → Option Value) (base : Heap) (k : Nat) (x : Str) (sp : Sp) : Prop where
  ex : ∃ (f : Addr) (fd : FuncData) (ps : List Str), FnOk P w K mg base (L2.CX P w) k f fd ps sp ∧ mg x = some (.ref f) ∧ PySem.W.keepIn K (.ref f) = true ∧ Binds K fd ps []
theorem calX {x : Str} {st : Stmt} {f : Addr} {fd : FuncData} {N ps : List Str} {k : Nat} {sp : Sp} (F : C8.Def K mg x st f fd) (b : Binds K fd ps []) (S : FnScope N ps (C8.fnScope st)) (len : ∀ vs H Q E, sp vs H Q E → vs.length = ps.length)
    (hbody : ∀ (cdv : Value) (A : Around) (outer : List Env) (s : Shared) (H : Hp) (vs : List V) (Q : VK) (E : XK), Room k (A.deeper (envOfC x (C8.fnScope st) s.heap.objs.size f cdv)) → sp vs H Q E →
      ∃ t, PSs (cxOf (L2.CX P w) P w K mg base N x (C8.fnScope st) f cdv A outer s H E) (C8.fnBody st) t ∧ t { nx := fun _ H' => Q .non H', rt := Q } (start N vs) H) : XCal P w K mg base (k + 1) x sp :=
  ⟨f, fd, ps, fnX F.fn S len hbody, F.mgf, F.kp, b⟩
end
section
variable {X : Cx} {k j : Nat} {x : Str} {sp : Sp} {p pos : Pos} {e : Expr} {es : List Expr} {t : TA}
theorem passX0 : Passes (L2.CX X.prog X.w) X C8.E0 := fun _ _ _ _ _ _ _ ⟨_, _, _, _, _, _, _, _, _, _, _, _, h⟩ => h.elim
/-- called where it does not raise -/
theorem pe_cx (c : XCal X.prog X.w X.K X.mg X.base k x sp) (hr : Room j X.A) (hk : k ≤ j) (hg : Gl X x) (ha : PA X (e :: es) t)
    (hdb : (x == ("__debug__" : Str)) = false := by decide) (he : starEach (e :: es) X.env = (false, eval e X.env) :: starEach es X.env := by rfl) (hpl : (backTo pos (starEach es X.env)).any (·.1) = false := by rfl) :
    PE X (.Call (.Name x p) (e :: es) [] pos) (tCall sp [] C8.E0 t) := by
  obtain ⟨f, fd, ps, F, hm, kp, b⟩ := c.ex
  exact pe_call F (hr.mono hk) hg hm kp b .nil passX0 ha hdb he hpl
/-- called where it may raise -/
theorem pe_cs {W : WX} (c : XCal X.prog X.w X.K X.mg X.base k x sp) (hr : Room j X.A) (hk : k ≤ j) (hg : Gl X x) (tk : Takes X W) (ha : PA X (e :: es) t)
    (hdb : (x == ("__debug__" : Str)) = false := by decide) (he : starEach (e :: es) X.env = (false, eval e X.env) :: starEach es X.env := by rfl) (hpl : (backTo pos (starEach es X.env)).any (·.1) = false := by rfl) :
    PE X (.Call (.Name x p) (e :: es) [] pos) (tCallS sp (WE W) t) := by
  obtain ⟨f, fd, ps, F, hm, kp, b⟩ := c.ex
  exact pe_callS F (hr.mono hk) hg hm kp b (fun σ => passAt tk σ) ha hdb he hpl
theorem takes0 : Takes X (fun _ _ _ _ => False) := fun _ _ ⟨_, _, _, _, _, _, _, _, _, _, _, _, _, _, _, _, w⟩ => w.elim
/-- what is known only where the reading says so -/
theorem pss_given {A : Prop} {st : List Stmt} {t : TS} (h : A → PSs X st t) : PSs X st (fun D σ H => A ∧ t D σ H) := ⟨fun pins s σ H D I q => (h q.1).run pins s σ H D I q.2⟩
end
/-- if xs: -/
abbrev tTru (K : PySem.W.Frag) (ta : TE) : TT := fun σ H Q => ta σ H fun x H' => ∃ k, TruV K x H' k ∧ Q k H'
/-- raise C('..') -/
def tRaise (C : Addr) (E : XK) : TS := fun _ _ H => E (.ref C) none H
/-- an own exception class without __init__, as the module has it -/
structure ExB (K : PySem.W.Frag) (C : Addr) : Prop where
  ex : PySem.W.excIn K C [.type "ValueError", .type "Exception", .type "BaseException", .type "object"] "ValueError.__new__" = true
  kp : PySem.W.keepIn K (.ref C) = true
  sb : PySem.W.subIn K (.ref C) (.type "BaseException") = some true
  ty : PySem.W.typeIn K (.ref C) = some (.type "type")
theorem ps_rz {X : Cx} {C : Addr} {W : WX} {x m : Str} {jj : Nat} {p p2 pos pos2 : Pos} (hc : X.calm = true) (B : ExB X.K C) (gC : X.mg x = some (.ref C)) (tk : Takes X W) (hg : Gl X x) (hdb : (x == ("__debug__" : Str)) = false := by decide) :
    PS X (.Raise (some (.Call (.Name x p) [.Constant (.str m) jj p2] [] pos)) none pos2) (fun _ σ H => W (.ref C) none σ H) := ps_raise hc tk (pmk_own PySem.F.excBase_ValueError B.ex gC B.kp (raises_own B.sb B.ty) hg hdb)
/-- try: .. except C as n: .. -/
def tTryAs (K : PySem.W.Frag) (C : Addr) (i : Nat) (ts : Addr → Value → Option Addr → TS) (tb : WX → TS) : TS := fun D σ H => tb (wAs K (.ref C) i ts (fun _ _ _ _ => False) D) D σ H
end Wp

/-! Wp12: None among the keys of a dict whose keys are tuples. -/
namespace Wp
open PySem PySem.Spec PyProof.Rows L2

section
variable {prog : Program} {w : World} {A : Around} {E : Value → Shared → Prop} {s : Shared}

theorem tellNone {K : Type} [DecidableEq K] {knd : HeapKind prog w K} {stored : List Value} {Q : Bool → Shared → Prop}
    (hst : ∀ v ∈ stored, ∃ k' b, v = .ref b ∧ knd.is s.heap k' b) (h : Q false s) : wpAny (model prog w) A (tableMayTell .none stored) Q E s := by
  unfold tableMayTell
  split
  · exact wpAny_pure h
  · refine wpAny_bind ?_
    show wpAny _ _ (pure true) _ _ _
    refine wpAny_pure ?_
    simp only [Bool.not_true, Bool.false_eq_true, if_false]
    refine wpAny_bind ?_
    refine wpAny_forIn_list _ (fun rest r s' => s' = s ∧ r = (none, ()) ∧ ∀ v ∈ rest, ∃ k' b, v = .ref b ∧ knd.is s.heap k' b) _ ?_ ?_ _ _ ⟨rfl, rfl, hst⟩
    · rintro x rest r s' ⟨rfl, rfl, hr⟩
      obtain ⟨k', b, rfl, hb⟩ := hr x List.mem_cons_self
      refine wpAny_bind (knd.quiet hb ?_)
      simp only [Bool.not_true, Bool.false_eq_true, if_false]
      exact wpAny_pure ⟨rfl, rfl, fun v hv => hr v (List.mem_cons_of_mem _ hv)⟩
    · rintro r s' ⟨rfl, rfl, _⟩
      exact wpAny_pure h

theorem findNone {K : Type} [DecidableEq K] {knd : HeapKind prog w K} {d : Addr} {o : Obj} {es ep} {hsh : Int} {xs : List (K × Addr × Value)} {Q : Option Nat → Shared → Prop}
    (hne : ∀ (E' : Value → Shared → Prop) (k : K) (b : Addr) (Q' : Bool → Shared → Prop), knd.is s.heap k b → Q' false s → wpAny (model prog w) A (eqBool (.ref b) .none) Q' E' s)
    (ho : s.heap.get? d = some o) (hd : o.data = .dict es ep) (he : es.toList = xs.map (entryOfKey knd)) (his : ∀ x ∈ xs, knd.is s.heap x.1 x.2.1)
    (hQ : Q none s) : wpAny (model prog w) A (dictFind d .none hsh) Q E s := by
  have hsz : es.size = xs.length := size_of_entries he
  have hmem : ∀ e ∈ es, ∃ x ∈ xs, e = entryOfKey knd x := by
    intro e hin
    have : e ∈ xs.map (entryOfKey knd) := he ▸ Array.mem_toList_iff.mpr hin
    obtain ⟨x, hx, rfl⟩ := List.mem_map.mp this
    exact ⟨x, hx, rfl⟩
  have hst : ∀ v ∈ (placesWithHash es.size (fun i => es[i]?.map (·.hash)) hsh).filterMap (fun i => es[i]?.map (·.key)), ∃ k' b, v = .ref b ∧ knd.is s.heap k' b := by
    intro v hv
    obtain ⟨i, _, hi⟩ := List.mem_filterMap.mp hv
    cases hei : es[i]? with
    | none => rw [hei] at hi; cases hi
    | some e =>
      rw [hei] at hi
      obtain rfl : e.key = v := by simpa using hi
      obtain ⟨x, hx, rfl⟩ := hmem e (Array.mem_of_getElem? hei)
      exact ⟨x.1, x.2.1, rfl, his x hx⟩
  have hpl : ∀ i ∈ placesWithHash es.size (fun i => es[i]?.map (·.hash)) hsh, ∃ e, es[i]? = some e ∧ e.hash = hsh ∧ ∃ x ∈ xs, e = entryOfKey knd x := by
    intro i hi
    have q : (es[i]?.map (·.hash) == some hsh) = true := (List.mem_filter.mp hi).2
    cases hei : es[i]? with
    | none => rw [hei] at q; exact absurd q (by simp)
    | some e =>
      rw [hei] at q
      exact ⟨e, rfl, by simpa using q, hmem e (Array.mem_of_getElem? hei)⟩
  unfold dictFind
  try with_reducible refine wpAny_holding ?_
  refine wpAny_bind (wpAny_dictEntries ho hd ?_)
  dsimp only
  by_cases hall : ((Value.none :: (placesWithHash es.size (fun i => es[i]?.map (·.hash)) hsh).filterMap (fun i => es[i]?.map (·.key))).all carriedByValue) = true
  · rw [if_pos hall]
    have hnil : placesWithHash es.size (fun i => es[i]?.map (·.hash)) hsh = [] := by
      cases hp : placesWithHash es.size (fun i => es[i]?.map (·.hash)) hsh with
      | nil => rfl
      | cons i t =>
        obtain ⟨e, h1, _, x, _, h2⟩ := hpl i (by rw [hp]; exact List.mem_cons_self)
        rw [hp] at hall
        subst h2
        simp only [List.filterMap_cons, h1, Option.map_some, List.all_cons, entryOfKey, carriedByValue, Bool.false_and, Bool.and_false] at hall
        exact absurd hall (by decide)
    rw [hnil]
    unfold dictWalkPlain
    refine wpAny_bind ?_
    refine wpAny_forIn_list _ (fun rest r s' => s' = s ∧ r = (none, ()) ∧ rest = []) _ ?_ ?_ _ _ ⟨rfl, rfl, rfl⟩
    · rintro x rest r s' ⟨_, _, h⟩
      exact nomatch h
    · rintro r s' ⟨rfl, rfl, _⟩
      exact wpAny_pure hQ
  · rw [if_neg hall]
    have hone : (((placesWithHash es.size (fun i => es[i]?.map (·.hash)) hsh).filterMap (fun i => es[i]?.map (·.key))) == [Value.none]) = false := by
      cases hp : (placesWithHash es.size (fun i => es[i]?.map (·.hash)) hsh).filterMap (fun i => es[i]?.map (·.key)) with
      | nil => rfl
      | cons v t =>
        obtain ⟨_, b, rfl, _⟩ := hst v (by rw [hp]; exact List.mem_cons_self)
        cases hb : (Value.ref b :: t == [Value.none]) with
        | false => rfl
        | true => exact absurd (eq_of_beq hb) (by simp)
    rw [hone]
    refine wpAny_bind (tellNone hst ?_)
    rw [if_neg (by simp)]
    refine wpAny_bind ?_
    refine wpAny_forIn_list _ (fun rest b s' => s' = s ∧ b = (none, none) ∧ ∀ i ∈ rest, i ∈ placesWithHash es.size (fun i => es[i]?.map (·.hash)) hsh) _ ?_ ?_ _ _ ⟨rfl, rfl, fun _ h => h⟩
    · rintro x rest b s' ⟨rfl, rfl, hr⟩
      obtain ⟨e, h1, h2, ⟨k', b', v'⟩, hx, rfl⟩ := hpl x (hr x List.mem_cons_self)
      rw [h1]
      dsimp only
      rw [if_pos (by rw [h2]; simp)]
      refine wpAny_bind (wpAny_dictEpoch ho hd (wpAny_bind (hne _ k' b' _ (his _ hx) (wpAny_bind (wpAny_dictEpoch ho hd ?_)))))
      show wpAny _ _ (if (ep != ep) = true then _ else _) _ E _
      rw [if_neg (by simp)]
      simp only [Bool.false_eq_true, if_false]
      refine wpAny_bind (wpAny_rule ?_)
      first | rw [if_neg (by simp)] | skip
      first
        | exact wpAny_pure ⟨rfl, rfl, fun i h => hr i (List.mem_cons_of_mem _ h)⟩
        | exact wpAny_bind (wpAny_pure (wpAny_pure ⟨rfl, rfl, fun i h => hr i (List.mem_cons_of_mem _ h)⟩))
    · rintro r s' ⟨rfl, rfl, _⟩
      exact wpAny_pure hQ

theorem getNone {K : Type} [DecidableEq K] {knd : HeapKind prog w K} {d : Addr} {xs : List (K × Addr × Value)} {Q : Option Value → Shared → Prop}
    (hne : ∀ (s' : Shared) (E' : Value → Shared → Prop) (k : K) (b : Addr) (Q' : Bool → Shared → Prop), knd.is s'.heap k b → Q' false s' → wpAny (model prog w) A (eqBool (.ref b) .none) Q' E' s')
    (hm : s.heap.DictOfH knd d xs) (h : Q none { s with toks := s.toks + 1 }) : wpAny (model prog w) A (dictGet d .none) Q E s := by
  obtain ⟨o, es, ep, ho, _, hd, he, his, hn⟩ := hm
  unfold dictGet
  try with_reducible refine wpAny_holding ?_
  refine wpAny_bind (PySem.W.pyHash_slot (T := "NoneType") rfl PySem.F.slot_NoneType_hash PySem.F.entry_NoneType_hash (PySem.F.args_NoneType_hash_1 _) (beq_builtin_none _) (.inl rfl) (wpAny_bind (wpAny_pure (wpAny_bind (wpAny_mkInt (wpAny_pure ⟨_, _, rfl, ?_⟩))))))
  exact wpAny_bind (findNone (hne _) ho hd he his (wpAny_pure h))

theorem inNone {K : Type} [DecidableEq K] {knd : HeapKind prog w K} {d : Addr} {xs : List (K × Addr × Value)} {Q : Value → Shared → Prop}
    (hne : ∀ (s' : Shared) (E' : Value → Shared → Prop) (k : K) (b : Addr) (Q' : Bool → Shared → Prop), knd.is s'.heap k b → Q' false s' → wpAny (model prog w) A.in1 (eqBool (.ref b) .none) Q' E' s')
    (hd : (d == sysModules) = false) (hm : s.heap.DictOfH knd d xs) (h : Q (.bool false) { s with toks := s.toks + 1 }) : wpAny (model prog w) A (compareOp .In .none (.ref d)) Q E s := by
  show wpAny _ _ (do return .bool (← contains (.ref d) .none)) Q E s
  refine wpAny_bind ?_
  unfold contains
  try with_reducible refine wpAny_holding ?_
  refine wpAny_bind (wpAny_specialOf hm.typeIs PySem.F.slot_dict_contains.lookup ?_)
  show wpAny _ _ (if (some (Value.builtin "dict.__contains__") == some Value.none) = true then _ else _) _ E s
  rw [if_neg (by rw [beq_builtin_none]; exact Bool.false_ne_true)]
  refine wpAny_bind (wpAny_callSpecialUnlessNone?_slot (name := Str.ofString "__contains__") hm.typeIs PySem.F.slot_dict_contains
    (wpAny_call_entry PySem.F.slot_dict_contains hm.typeIs PySem.F.entry_dict_contains ?_ (PySem.F.args_dict_contains_2 _ _)))
  show wpAny _ _ (dictGet d .none >>= _) _ _ s
  refine wpAny_bind (getNone hne hm ?_)
  show wpAny _ _ (Builtin.Dict.pendingKey? d .none >>= _) _ _ _
  exact wpAny_bind (wpAny_pendingKey_other hd (wpAny_pure ⟨_, rfl, wpAny_truthy_bool (wpAny_pure h)⟩))

theorem notInNone {K : Type} [DecidableEq K] {knd : HeapKind prog w K} {d : Addr} {xs : List (K × Addr × Value)} {Q : Value → Shared → Prop}
    (hne : ∀ (s' : Shared) (E' : Value → Shared → Prop) (k : K) (b : Addr) (Q' : Bool → Shared → Prop), knd.is s'.heap k b → Q' false s' → wpAny (model prog w) A.in1 (eqBool (.ref b) .none) Q' E' s')
    (hd : (d == sysModules) = false) (hm : s.heap.DictOfH knd d xs) (h : Q (.bool true) { s with toks := s.toks + 1 }) : wpAny (model prog w) A (compareOp .NotIn .none (.ref d)) Q E s := by
  show wpAny _ _ (do return .bool (!(← contains (.ref d) .none))) Q E s
  refine wpAny_bind ?_
  unfold contains
  try with_reducible refine wpAny_holding ?_
  refine wpAny_bind (wpAny_specialOf hm.typeIs PySem.F.slot_dict_contains.lookup ?_)
  show wpAny _ _ (if (some (Value.builtin "dict.__contains__") == some Value.none) = true then _ else _) _ E s
  rw [if_neg (by rw [beq_builtin_none]; exact Bool.false_ne_true)]
  refine wpAny_bind (wpAny_callSpecialUnlessNone?_slot (name := Str.ofString "__contains__") hm.typeIs PySem.F.slot_dict_contains
    (wpAny_call_entry PySem.F.slot_dict_contains hm.typeIs PySem.F.entry_dict_contains ?_ (PySem.F.args_dict_contains_2 _ _)))
  show wpAny _ _ (dictGet d .none >>= _) _ _ s
  refine wpAny_bind (getNone hne hm ?_)
  show wpAny _ _ (Builtin.Dict.pendingKey? d .none >>= _) _ _ _
  exact wpAny_bind (wpAny_pendingKey_other hd (wpAny_pure ⟨_, rfl, wpAny_truthy_bool (wpAny_pure h)⟩))
end

section
variable {X : Cx} {pins : List (Addr × Obj)} {σ : L2.St} {H : Hp} {s : Shared} {a : Addr} {kvs : List (List Key × V)} {A : Around} {E : Value → Shared → Prop}
theorem neKey {prog : Program} {w : World} (hu : A.units + 1 < cLine) (s' : Shared) (E' : Value → Shared → Prop) (k : List Key) (b : Addr) (Q' : Bool → Shared → Prop)
    (hk : (tupleKind (mixKind prog w)).is s'.heap k b) (hq : Q' false s') : wpAny (model prog w) A.in1 (eqBool (.ref b) .none) Q' E' s' := by
  obtain ⟨o, its, n, h1, h2, h3, _⟩ := hk
  exact PySem.SeqAt.EqAt.tuple_none (A := A.in1) (items := its) ⟨o, h1, h2, n, h3⟩ (show A.in1.units < cLine from hu) prog w E' Q' hq
theorem d_inNoneT {Q : Value → Shared → Prop} (hu : A.units + 1 < cLine) (I : Inv X pins σ H s) (e : Rd H a (.dT kvs)) (h : ∀ s', Inv X pins σ H s' → Q (.bool false) s') : wpAny (model X.prog X.w) A (compareOp .In .none (.ref a)) Q E s := by
  obtain ⟨_, hd, xs, _, dd⟩ := dt_rd I.hok e
  exact inNone (neKey hu) hd dd (h _ (I.tok _))
theorem d_notInNoneT {Q : Value → Shared → Prop} (hu : A.units + 1 < cLine) (I : Inv X pins σ H s) (e : Rd H a (.dT kvs)) (h : ∀ s', Inv X pins σ H s' → Q (.bool true) s') : wpAny (model X.prog X.w) A (compareOp .NotIn .none (.ref a)) Q E s := by
  obtain ⟨_, hd, xs, _, dd⟩ := dt_rd I.hok e
  exact notInNone (neKey hu) hd dd (h _ (I.tok _))
end
/-- y in d, y not in d; y may be None (d's keys tuples then) -/
def tDInZ (ty td : TE) : TE := fun σ H Q => ty σ H fun y H1 => td σ H1 fun x H2 => (∃ a o, x = .ref a ∧ DGet H2 a y o ∧ Q (.bl o.isSome) H2) ∨ ∃ a kvs, x = .ref a ∧ y = .non ∧ Rd H2 a (.dT kvs) ∧ Q (.bl false) H2
def tDNotInZ (ty td : TE) : TE := fun σ H Q => ty σ H fun y H1 => td σ H1 fun x H2 => (∃ a o, x = .ref a ∧ DGet H2 a y o ∧ Q (.bl (!o.isSome)) H2) ∨ ∃ a kvs, x = .ref a ∧ y = .non ∧ Rd H2 a (.dT kvs) ∧ Q (.bl true) H2
section
variable {X : Cx} {o i : Expr} {td ty : TE}
theorem pc_dinZ (hu : X.A.units + 1 < cLine) (hi : PE X i ty) (ho : PE X o td) : PC X .In i o (tDInZ ty td) := by
  refine ⟨fun pins s σ H Q I h => ?_⟩
  refine thn (hi.run pins s σ H _ I h) fun iv s1 ⟨y, H1, I1, ry, q1⟩ => thn (ho.run pins s1 σ H1 _ I1 q1) fun u s2 ⟨x, H2, I2, rx, q2⟩ => ?_
  rcases q2 with ⟨a, ov, ex, g, q2⟩ | ⟨a, kvs, ex, ey, g, q2⟩
  · subst ex
    obtain rfl : u = Value.ref a := rx
    exact d_in hu I2 g ry fun s3 I3 => ⟨.bl ov.isSome, H2, I3, rfl, q2⟩
  · subst ex ey
    obtain rfl : u = Value.ref a := rx
    obtain rfl : iv = Value.none := ry
    exact d_inNoneT hu I2 g fun s3 I3 => ⟨.bl false, H2, I3, rfl, q2⟩
theorem pc_dnotinZ (hu : X.A.units + 1 < cLine) (hi : PE X i ty) (ho : PE X o td) : PC X .NotIn i o (tDNotInZ ty td) := by
  refine ⟨fun pins s σ H Q I h => ?_⟩
  refine thn (hi.run pins s σ H _ I h) fun iv s1 ⟨y, H1, I1, ry, q1⟩ => thn (ho.run pins s1 σ H1 _ I1 q1) fun u s2 ⟨x, H2, I2, rx, q2⟩ => ?_
  rcases q2 with ⟨a, ov, ex, g, q2⟩ | ⟨a, kvs, ex, ey, g, q2⟩
  · subst ex
    obtain rfl : u = Value.ref a := rx
    exact d_notIn hu I2 g ry fun s3 I3 => ⟨.bl (!ov.isSome), H2, I3, rfl, q2⟩
  · subst ex ey
    obtain rfl : u = Value.ref a := rx
    obtain rfl : iv = Value.none := ry
    exact d_notInNoneT hu I2 g fun s3 I3 => ⟨.bl true, H2, I3, rfl, q2⟩
end
/-- a statement that is never reached -/
def tNo : TS := fun _ _ _ => False
theorem ps_no {X : Cx} {st : Stmt} : PS X st tNo := ⟨fun _ _ _ _ _ _ h => False.elim h⟩
end Wp

namespace Wp
open PySem PySem.Spec PyProof.Rows L2 TyNe

/-! ### dict(d), a star in a display -/
abbrev qLenD : List V → Hp → VK → Prop := fun xs H Q => ∃ (a : Addr) (kvs : List (Key × V)), xs = [V.ref a] ∧ H a = some (.dK kvs) ∧ Q (.int kvs.length) H
abbrev qDictD : List V → Hp → VK → Prop := fun xs H Q => ∃ (a : Addr) (kvs : List (Key × V)), xs = [.ref a] ∧ Rd H a (.dK kvs) ∧ ∀ p, H p = none → Q (.ref p) (upd H p (.dK kvs))
section
variable {K : PySem.W.Frag} {σ : L2.St} {H : Hp} {Q : VK} {te : TE} {t : TA}
theorem w_dictD {a : Addr} {kvs : List (Key × V)} (h : H a = some (.dK kvs)) (q : ∀ p H2, H p = none → Same H H2 → H2 p = some (.dK kvs) → Q (.ref p) H2) : qDictD [.ref a] H Q :=
  ⟨a, kvs, rfl, .inl h, fun p hp => q p _ hp (Same.upd (Same.refl H) hp) upd_same⟩
theorem w_star {R : List V → Hp → Prop} (q : te σ H fun x H1 => ∃ p xs, x = V.ref p ∧ (SqT K H1 p xs ∨ SqL K H1 p xs) ∧ t σ H1 fun ys H2 => R (xs ++ ys) H2) : StX.tStar K te t σ H R := q
theorem w_iEnum {ta : TA} {R : It → Hp → Prop} (q : ta σ H fun vs H1 => ∃ a xs, vs = [.ref a] ∧ SqL K H1 a xs ∧ R (Ite K a) H1) : iEnum K ta σ H R := q
theorem w_dinW {td ty : TE} (q : ty σ H fun y H1 => td σ H1 fun x H2 => ∃ a o, x = .ref a ∧ DGet H2 a y o ∧ Q (.bl o.isSome) H2) : tDIn ty td σ H Q := q
theorem w_dnotinW {td ty : TE} (q : ty σ H fun y H1 => td σ H1 fun x H2 => ∃ a o, x = .ref a ∧ DGet H2 a y o ∧ Q (.bl (!o.isSome)) H2) : tDNotIn ty td σ H Q := q
theorem w_dget1W {td ty : TE} (q : td σ H fun x H1 => ∃ a, x = .ref a ∧ IsD H1 a ∧ ty σ H1 fun y H2 => ∃ o, DGet H2 a y o ∧ Q (o.getD .non) H2) : tDGet1 td ty σ H Q := q
theorem w_dsetd {td ty tx : TE} (q : td σ H fun x H1 => ∃ a, x = .ref a ∧ IsD H1 a ∧ ty σ H1 fun y H2 => tx σ H2 fun z H3 => ∃ (kvs : List (Key × V)) (k : Key), H3 a = some (.dK kvs) ∧ y = kV k ∧ kvs.length < sizeLine ∧
  (∀ v, valV kvs k = some v → Q v H3) ∧ (valV kvs k = none → Q z (upd H3 a (.dK (putK kvs k z))))) : tDSetd td ty tx σ H Q := q
theorem w_whileW {D : Ends} {c : TT} {tb : TS} (q : ∃ W : Nat → L2.St → Hp → Prop, (∃ m, W m σ H) ∧ ∀ m σ H, W m σ H →
  c σ H fun b H1 => if b = true then ∃ N : L2.St → Hp → Prop, (∀ σ' H', N σ' H' → ∃ m', m' < m ∧ W m' σ' H') ∧ tb { D with nx := N, ct := N, bk := D.nx } σ H1 else D.nx σ H1) : tWhile c tb D σ H := q
theorem w_par {i j : Nat} {ta : TA} {D : Ends} (q : ta σ H fun vs H1 => ∃ v w, vs = [v, w] ∧ D.nx ((σ.set i (some v)).set j (some w)) H1) : tPar i j ta D σ H := q
theorem w_cont {D : Ends} (q : D.ct σ H) : tCont D σ H := q
theorem w_aug {i : Nat} {ti : TIp} {D : Ends} {x : V} (h : σ[i]? = some (some x)) (q : te σ H fun y H1 => ti x y H1 fun z H2 => D.nx (σ.set i (some z)) H2) : tAug i te ti D σ H := ⟨x, h, q⟩
theorem w_ipI {f : Int → Int → Int} {i j : Int} (q : Q (.int (f i j)) H) : ipI f (.int i) (.int j) H Q := ⟨i, j, rfl, rfl, q⟩
end
/-! ### dicts with text keys, as lists of pairs -/
section
variable {α : Type}
def asV (f : α → V) (l : List (Str × α)) : List (L2.Key × V) := l.map fun y => (Sum.inr y.1, f y.2)
def getA (l : List (Str × α)) (nm : Str) : Option α := (l.find? fun y => decide (y.1 = nm)).map (·.2)
theorem asV_len (f : α → V) (l : List (Str × α)) : (asV f l).length = l.length := List.length_map _
theorem getA_nil (nm : Str) : getA ([] : List (Str × α)) nm = none := rfl
theorem getA_pos {y : Str × α} {l : List (Str × α)} {nm : Str} (e : y.1 = nm) : getA (y :: l) nm = some y.2 := by
  unfold getA
  rw [List.find?_cons, decide_eq_true e]
  rfl
theorem getA_neg {y : Str × α} {l : List (Str × α)} {nm : Str} (e : y.1 ≠ nm) : getA (y :: l) nm = getA l nm := by
  unfold getA
  rw [List.find?_cons, decide_eq_false e]
theorem valA (f : α → V) (nm : Str) : ∀ l : List (Str × α), valV (asV f l) (Sum.inr nm) = (getA l nm).map f
  | [] => rfl
  | y :: l => by
    unfold asV
    rw [List.map_cons]
    by_cases e : y.1 = nm
    · rw [valV_pos (congrArg Sum.inr e), getA_pos e]
      rfl
    · rw [valV_neg (fun z => e (Sum.inr.inj z)), getA_neg e]
      exact valA f nm l
theorem valA_some (f : α → V) {nm : Str} {l : List (Str × α)} {a : α} (h : getA l nm = some a) : valV (asV f l) (Sum.inr nm) = some (f a) := by rw [valA, h]; rfl
theorem valA_none (f : α → V) {nm : Str} {l : List (Str × α)} (h : getA l nm = none) : valV (asV f l) (Sum.inr nm) = none := by rw [valA, h]; rfl
theorem getA_none : ∀ {l : List (Str × α)} {nm : Str}, getA l nm = none ↔ nm ∉ l.map (·.1)
  | [], nm => ⟨fun _ h => (nomatch h), fun _ => rfl⟩
  | y :: l, nm => by
    by_cases e : y.1 = nm
    · rw [getA_pos e]
      exact ⟨fun z => (nomatch z), fun z => absurd (by rw [List.map_cons, e]; exact List.mem_cons_self ..) z⟩
    · rw [getA_neg e, getA_none, List.map_cons, List.mem_cons, not_or]
      exact ⟨fun z => ⟨fun w => e w.symm, z⟩, fun z => z.2⟩
theorem getA_some {l : List (Str × α)} {nm : Str} : (getA l nm).isSome = decide (nm ∈ l.map (·.1)) := by
  cases e : getA l nm with
  | none => rw [decide_eq_false (getA_none.mp e)]; rfl
  | some a =>
    rw [decide_eq_true]
    · rfl
    · exact Classical.byContradiction fun z => by rw [getA_none.mpr z] at e; cases e
theorem getA_mem {l : List (Str × α)} {nm : Str} {a : α} (h : getA l nm = some a) : (nm, a) ∈ l := by
  unfold getA at h
  obtain ⟨y, hy, rfl⟩ := Option.map_eq_some_iff.mp h
  have h1 := List.mem_of_find?_eq_some hy
  have h2 := List.find?_some hy
  have h2 := of_decide_eq_true h2
  rw [← h2]
  exact h1
theorem getA_app {l m : List (Str × α)} {nm : Str} : getA (l ++ m) nm = (getA l nm).or (getA m nm) := by
  unfold getA
  rw [List.find?_append]
  cases l.find? fun y => decide (y.1 = nm) <;> rfl
theorem asV_app (f : α → V) (l m : List (Str × α)) : asV f (l ++ m) = asV f l ++ asV f m := List.map_append
theorem putA_new {f : α → V} {l : List (Str × α)} {nm : Str} {a : α} {v : V} (h : getA l nm = none) (e : f a = v) : putK (asV f l) (Sum.inr nm) v = asV f (l ++ [(nm, a)]) := by
  rw [putK_new _ (valA_none f h), ← e, asV_app]
  rfl
end
/-! ### name = {.. for ..} on one line, the name a local -/
theorem sw_trueD {kx vx : Expr} {gs : List Comprehension} {scope : Scope} {pos py : Pos} {y : Str} {l : Nat} {env : Env} (hk : env.scope.kind = .function) (hy : env.scope.names.lookup y = some .local) (hl : (py.line == pos.line) = true)
    (ha : (scope.names.any fun (n, k) => n == y && (k == .local || k == .cell)) = false) : swapsWith (.DictComp kx vx gs scope pos) (some (.Name y py)) l env = pure true := by
  have ky : env.kindOf y = some .local := hy
  have hb : env.blockKind = .function := by unfold Env.blockKind; rw [hk]; rfl
  unfold swapsWith
  simp only [hb, ky, ha, Expr.pos, hl]
  rfl
theorem ps_setDc {X : Cx} {i : Nat} {y : Str} {py : Pos} {kx vx tg iter : Expr} {ifs : List Expr} {scope : Scope} {own : List (Str × Nat)} {pos spos : Pos} {wi : TI} {g : TG} {tt : TT} {tk tv : TE} (hc : X.calm = true) (hN : X.N.Nodup) (hy : X.N[i]? = some y) (hyl : X.env.scope.names.lookup y = some .local)
    (hsw : swapsWith (.DictComp kx vx [⟨tg, iter, ifs, 0⟩] scope pos) (some (.Name y py)) spos.line X.env = pure true) (hi : PI X tg iter wi) (ok : BlkOk X.N X.env.scope scope own)
    (hg : ∀ (s : Shared) (H : Hp) (C : Addr) (cl : List (Str × Addr)) (fp : List Addr), PG (X.blk s H scope (compEnvC scope cl C X.env) fp) tg g) (ht : ∀ (s : Shared) (H : Hp) (C : Addr) (cl : List (Str × Addr)) (fp : List Addr), PTs (X.blk s H scope (compEnvC scope cl C X.env) fp) ifs tt)
    (hk : ∀ (s : Shared) (H : Hp) (C : Addr) (cl : List (Str × Addr)) (fp : List Addr), PE (X.blk s H scope (compEnvC scope cl C X.env) fp) kx tk)
    (he : ∀ (s : Shared) (H : Hp) (C : Addr) (cl : List (Str × Addr)) (fp : List Addr), PE (X.blk s H scope (compEnvC scope cl C X.env) fp) vx tv) (hs : ∀ x, foldedSetIterable iter X.env x = pure x := by intro _; rfl) :
    PS X (.Assign [.Name y py] (.DictComp kx vx [⟨tg, iter, ifs, 0⟩] scope pos) spos) (tAsg (tDc wi g tt tk tv (own.map (·.2))) (gName i)) := by
  refine ⟨fun pins s σ H D I h => ?_⟩
  rw [exec_Assign_Name_used _ _ _ _ hsw]
  refine wpAny_bind (wpAny_standAt (wpAny_bind ?_))
  show wpAny _ X.A (do let _ ← comprehension (.DictComp kx vx [⟨tg, iter, ifs, 0⟩] scope pos) scope X.env (firstIterPos [⟨tg, iter, ifs, 0⟩] pos) newDict false (eval iter X.env) (some (assign (.Name y py) X.env))) _ _ s
  have h : tDc wi g tt tk tv (own.map (·.2)) σ H (fun x H1 => gName i x σ H1 D.nx) := h
  refine wpAny_bind (thn (dc_core (Qf := fun _ s' => SP X pins D .next s') hc hN I hi ok hg ht hk he hs h fun L C s' m H' I' q hn f => ?_) fun _ s' hq => wpAny_pure (wpAny_pure hq))
  show wpAny _ _ (assign (.Name y py) X.env (.ref L)) _ _ _
  refine wpAny_assign_Name (store_ok2 (v := V.ref L) I' hN hy (.inl hyl) rfl (fun s2 I2 ⟨a, sb, ha⟩ => ?_) (.inr hyl))
  obtain ⟨f0, f1, f2, f3, f4, f5⟩ := f
  have haC : C ≠ a := by
    rcases ha with z | z
    · rw [z]; exact f1
    · exact fun e => f4 y a z e.symm
  refine ⟨m, hn.sameBut sb haC, fun h3 sb3 => ?_⟩
  exact ⟨_, H', I2.turned (t' := s2.toks) (fun b o hb e => (sb3.2 b hb).trans e) f0 f1 f3 f4 f5, q⟩
end Wp

namespace Wp
open PySem PySem.Spec PyProof.Rows L2 TyNe

/-! ### own methods that may raise -/
structure XMet (P : Program) (w : World) (K : PySem.W.Frag) (mg : Str → Option Value) (base : Heap) (k : Nat) (C : Addr) (m : Str) (sp : Sp) : Prop where
  ex : ∃ (f : Addr) (fd : FuncData) (ps : List Str), Cls K C ∧ Meth K C m f ∧ FnOk P w K mg base (L2.CX P w) k f fd ps sp ∧ Binds K fd ps []
theorem metX {P : Program} {w : World} {K : PySem.W.Frag} {mg : Str → Option Value} {base : Heap} {m qual : Str} {C : Addr} {st : Stmt} {f : Addr} {fd : FuncData} {N ps : List Str} {k : Nat} {sp : Sp} (c : Cls K C) (me : Meth K C m f) (F : C8.Fun K m qual st f fd) (b : Binds K fd ps []) (S : FnScope N ps (C8.fnScope st)) (len : ∀ vs H Q E, sp vs H Q E → vs.length = ps.length)
    (hbody : ∀ (cdv : Value) (A : Around) (outer : List Env) (s : Shared) (H : Hp) (vs : List V) (Q : VK) (E : XK), Room k (A.deeper (envOfC qual (C8.fnScope st) s.heap.objs.size f cdv)) → sp vs H Q E →
      ∃ t, PSs (cxOf (L2.CX P w) P w K mg base N qual (C8.fnScope st) f cdv A outer s H E) (C8.fnBody st) t ∧ t { nx := fun _ H' => Q .non H', rt := Q } (start N vs) H) : XMet P w K mg base (k + 1) C m sp :=
  ⟨f, fd, ps, c, me, fnX F S len hbody, b⟩
/-- o.m(e, ..) where it may raise -/
def tMethX (C : Addr) (m : Str) (sp : Sp) (E : L2.St → XK) (ta : TE) (t : TA) : TE := fun σ H Q => ta σ H fun x H1 => ∃ a dx fs, x = .ref a ∧ H1 a = some (.ins C dx fs) ∧ fs.lookup m = none ∧ t σ H1 fun vs H2 => sp (x :: vs) H2 Q (E σ)
section
variable {X : Cx} {k j : Nat} {C : Addr} {m : Str} {sp : Sp} {pos apos : Pos} {e o : Expr} {es : List Expr} {ta : TE} {t : TA}
theorem pe_mx {pl : Sem Bool} (c : XMet X.prog X.w X.K X.mg X.base k C m sp) (hr : Room j X.A) (hk : k ≤ j) (he : PE X o ta) (ha : PA X (e :: es) t)
    (hst : starEach (e :: es) X.env = (false, eval e X.env) :: starEach es X.env := by rfl) (hpl : (backTo pos (starEach es X.env)).any (·.1) = false := by rfl)
    (ht : eval (.Call (.Attribute o m apos) (e :: es) [] pos) X.env = (do
      let ov ← eval o X.env
      standAt apos.atName
      let (f, first) ← holding [ov] (getMethod ov m pl)
      callWith pos f first (backTo pos (starEach (e :: es) X.env)) (backToKw pos (keywordEach [] X.env))) := by rfl) :
    PE X (.Call (.Attribute o m apos) (e :: es) [] pos) (tMeth C m sp [] C8.E0 ta t) := by
  obtain ⟨f, fd, ps, hc, hm, F, b⟩ := c.ex
  exact pe_meth (pl := pl) he hc hm F (hr.mono hk) b .nil passX0 ha hst hpl ht
theorem pe_mx0 {pl : Sem Bool} (c : XMet X.prog X.w X.K X.mg X.base k C m sp) (hr : Room j X.A) (hk : k ≤ j) (he : PE X o ta)
    (ht : eval (.Call (.Attribute o m apos) [] [] pos) X.env = (do
      let ov ← eval o X.env
      standAt apos.atName
      let (f, first) ← holding [ov] (getMethod ov m pl)
      callWith pos f first (backTo pos (starEach [] X.env)) (backToKw pos (keywordEach [] X.env))) := by rfl) :
    PE X (.Call (.Attribute o m apos) [] [] pos) (tMeth C m sp [] C8.E0 ta tNil) := by
  obtain ⟨f, fd, ps, hc, hm, F, b⟩ := c.ex
  exact pe_meth0 (pl := pl) he hc hm F (hr.mono hk) b .nil passX0 ht
theorem pe_ms {W : WX} {pl : Sem Bool} (c : XMet X.prog X.w X.K X.mg X.base k C m sp) (hr : Room j X.A) (hk : k ≤ j) (tk : Takes X W) (he : PE X o ta) (ha : PA X (e :: es) t)
    (hst : starEach (e :: es) X.env = (false, eval e X.env) :: starEach es X.env := by rfl) (hpl : (backTo pos (starEach es X.env)).any (·.1) = false := by rfl)
    (ht : eval (.Call (.Attribute o m apos) (e :: es) [] pos) X.env = (do
      let ov ← eval o X.env
      standAt apos.atName
      let (f, first) ← holding [ov] (getMethod ov m pl)
      callWith pos f first (backTo pos (starEach (e :: es) X.env)) (backToKw pos (keywordEach [] X.env))) := by rfl) :
    PE X (.Call (.Attribute o m apos) (e :: es) [] pos) (tMethX C m sp (WE W) ta t) := by
  obtain ⟨f, fd, ps, hc, hm, F, b⟩ := c.ex
  refine ⟨fun pins s σ H Q I h => ?_⟩
  refine PySem.W.methodCall_KW (pl := pl) (thn (he.run pins s σ H _ I h) fun u s1 ⟨x, H1, I1, rx, a, dx, fs, ex, ea, l, q⟩ => ?_) ht
  subst ex
  obtain rfl : u = Value.ref a := rx
  refine getmeth_ok I1 ea hc hm l ?_
  refine PySem.W.callWith_K (first := [.ref a]) (h₀ := X.base) I.ok.mod.kin hm.kp (thn (ha.run pos pins s1 σ H1 _ I1 q) fun us s2 ⟨vs, H2, I2, r, q2⟩ => ⟨I2.kIn, ?_⟩) hst hpl
  exact run_fnS (us := .ref a :: us) (vs := .ref a :: vs) F (hr.mono hk) b (passAt tk σ) I2 (.cons rfl r) q2
end
section
variable {K : PySem.W.Frag} {σ : L2.St} {H : Hp} {Q : VK} {D : Ends} {C : Addr} {m : Str} {sp : Sp} {E : L2.St → XK} {ta : TE} {t : TA}
theorem w_methX {i : Nat} {x dx : Addr} {fs : List (Str × V)} (hi : σ[i]? = some (some (.ref x))) (h : H x = some (.ins C dx fs)) (l : fs.lookup m = none) (q : t σ H fun vs H2 => sp (.ref x :: vs) H2 Q (E σ)) : tMethX C m sp E (tVar i) t σ H Q :=
  ⟨_, hi, x, dx, fs, rfl, h, l, q⟩
theorem w_raise {C : Addr} {E : XK} (q : E (.ref C) none H) : tRaise C E D σ H := q
end
end Wp

namespace Wp
open PySem PySem.Spec PyProof.Rows L2 TyNe

/-! ### dict(a tuple of pairs); tuples whose object is known to have no attributes -/
/-- the tuple at a, and its object has no dict of attributes -/
def TupZ (H : Hp) (a : Addr) (xs : List V) : Prop := ∃ o : Obj, o.dict = none ∧ H a = some (.frz o (.tup xs))
theorem TupZ.sq {K : PySem.W.Frag} {H : Hp} {a : Addr} {xs : List V} (h : TupZ H a xs) : SqT K H a xs := by
  obtain ⟨o, _, e⟩ := h
  exact .inl (.inr ⟨o, e⟩)
theorem TupZ.same {H H' : Hp} {a : Addr} {xs : List V} (h : TupZ H a xs) (s : Same H H') : TupZ H' a xs := by
  obtain ⟨o, d, e⟩ := h
  exact ⟨o, d, s _ _ e⟩
abbrev qTupleOfZ (K : PySem.W.Frag) : List V → Hp → VK → Prop := fun xs H Q => ∃ p ys, xs = [.ref p] ∧ SqL K H p ys ∧ ∀ l o, H l = none → o.dict = none → Q (.ref l) (upd H l (.frz o (.tup ys)))
theorem call_tupleOfZ {X : Cx} : CallR X (.type "tuple") (qTupleOfZ X.K) := by
  intro pins s σ H xs us Q I r h
  obtain ⟨p, ys, rfl, hq, q⟩ := h
  obtain ⟨u, rfl, rx⟩ := vals1 r
  cases rx
  obtain ⟨its, r', pl, hz⟩ := I.list hq
  have hlen := r'.length
  refine call_tuple_list pl.isList (fun h' kp => ?_) (by simp only [List.size_toArray] <;> omega)
  have I1 : Inv X pins σ H { s with heap := h' } := I.kept (t' := s.toks) kp
  have I2 : Inv X pins σ (upd H h'.objs.size (.frz { cls := .type "tuple", data := .seq its.toArray } (.tup ys))) { s with heap := h'.push { cls := .type "tuple", data := .seq its.toArray } } :=
    I1.laid (t' := s.toks) (fun b o e => Heap.get?_push_of_some _ e) (Nat.le_refl _) (show ObjOk X.prog X.w _ _ _ (.frz _ (.tup ys)) from ⟨Heap.get?_push_size _ rfl, hz, its, r', IsTup.new _ _⟩)
  exact ⟨.ref h'.objs.size, _, I2, rfl, q _ _ (I1.hok.fresh (Nat.le_refl _)) rfl⟩
abbrev qDictP (K : PySem.W.Frag) : List V → Hp → VK → Prop := fun xs H Q => ∃ (t : Addr) (Ts : List V) (ps : List (Key × V)), xs = [.ref t] ∧ TupZ H t Ts ∧ Ts.length = ps.length ∧ ps.length ≤ 1000 ∧
  (∀ (i : Nat) (p : Key × V), ps[i]? = some p → ∃ b : Addr, Ts[i]? = some (V.ref b) ∧ SqT K H b [kV p.1, p.2]) ∧ ∀ p, H p = none → Q (.ref p) (upd H p (.dK (mergeK [] ps)))
theorem kv_zip : ∀ (ps : List (Key × V)) (vs : List (Value × Value)), ps.length = vs.length → (∀ (i : Nat) p v, ps[i]? = some p → vs[i]? = some v → RelV p.2 v.2) → KV ps ((ps.zip vs).map fun z => (z.1.1, z.2.2))
  | [], [], _, _ => .nil
  | p :: ps, v :: vs, hl, h => .cons ⟨rfl, h 0 p v rfl rfl⟩ (kv_zip ps vs (by simpa using hl) fun i q u e1 e2 => h (i + 1) q u e1 e2)
  | [], _ :: _, hl, _ => by simp at hl
  | _ :: _, [], hl, _ => by simp at hl
theorem call_dictP {X : Cx} (hcalm : X.calm = true) : CallR X (.type "dict") (qDictP X.K) := by
  intro pins s σ H xs us Q I r h
  obtain ⟨t, Ts, ps, rfl, ⟨o, hd, ht⟩, hlen, h1000, hps, q⟩ := h
  obtain ⟨u, rfl, rx⟩ := vals1 r
  cases rx
  obtain ⟨ho, hz, its, rv, o', ho', hc, n, hdat⟩ := (show ObjOk X.prog X.w H s.heap t (.frz o (.tup Ts)) from I.hok t _ ht)
  have e : o' = o := Option.some.inj (ho'.symm.trans ho)
  subst e
  have hex : ∀ i : Nat, ∃ z : Addr × Value × Value, ∀ p, ps[i]? = some p → its[i]? = some (.ref z.1) ∧ IsTup s.heap z.1 #[z.2.1, z.2.2] ∧ RelV (kV p.1) z.2.1 ∧ RelV p.2 z.2.2 := by
    intro i
    cases hi : ps[i]? with
    | none => exact ⟨(0, .none, .none), fun p hp => nomatch hp⟩
    | some p =>
      obtain ⟨b, hb, hs⟩ := hps i p hi
      obtain ⟨us', rv', tp, _⟩ := I.tuple hs
      obtain ⟨u1, w1, rfl, r1, r2⟩ := vals2 rv'
      obtain ⟨ub, hub, rb⟩ := rv.get hb
      cases rb
      exact ⟨(b, u1, w1), fun p' hp' => by
        cases hp'
        exact ⟨hub, tp, r1, r2⟩⟩
  obtain ⟨F, hF⟩ := Classical.axiomOfChoice hex
  have hF : ∀ i p, ps[i]? = some p → its[i]? = some (.ref (F i).1) ∧ IsTup s.heap (F i).1 #[(F i).2.1, (F i).2.2] ∧ RelV (kV p.1) (F i).2.1 ∧ RelV p.2 (F i).2.2 := hF
  obtain ⟨vps, hvps⟩ : ∃ vps : List (Value × Value), vps = (List.range ps.length).map fun i => (F i).2 := ⟨_, rfl⟩
  have hvl : vps.length = ps.length := by rw [hvps, List.length_map, List.length_range]
  have hvg : ∀ i v, vps[i]? = some v → i < ps.length ∧ v = (F i).2 := fun i v hv => by
    rw [hvps, List.getElem?_map] at hv
    obtain ⟨j, hj, rfl⟩ := Option.map_eq_some_iff.mp hv
    obtain ⟨hjl, hj2⟩ := List.getElem?_eq_some_iff.mp hj
    rw [List.getElem_range] at hj2
    rw [List.length_range] at hjl
    exact ⟨hjl, by rw [hj2]⟩
  have hkv : KV ps ((ps.zip vps).map fun z => (z.1.1, z.2.2)) := kv_zip ps vps hvl.symm fun i p v hp hv => by
    rw [(hvg i v hv).2]
    exact (hF i p hp).2.2.2
  have hit : PairItems s.heap its.toArray (fun i => (F i).1) vps := ⟨by rw [List.size_toArray, hvl, ← hlen]; exact rv.length.symm, fun j k v hj => by
    obtain ⟨h1, h2⟩ := hvg j _ hj
    obtain ⟨g1, g2, _, _⟩ := hF j ps[j] (List.getElem?_eq_getElem h1)
    rw [← h2] at g2
    exact ⟨by simpa using g1, .inl g2⟩⟩
  have hz3 : ps.length ≤ sizeLine := Nat.le_trans h1000 (by decide)
  refine call_dict_pairs (knd := mixKind X.prog X.w) (kvs := (ps.zip vps).map fun z => (z.1.1, z.2.2)) (PairArg.tuple t its.toArray (fun i => (F i).1) vps) (I.ok.hd hcalm) ⟨⟨o', n, ho, hc, hd, hdat⟩, hit⟩ ⟨by rw [List.length_map, List.length_zip, hvl, Nat.min_self], fun i key v hv => ?_⟩ (by rw [hvl]; exact hz3) fun h' tk hd' hk => ?_
  · obtain ⟨h1, h2⟩ := hvg i _ hv
    have hp := List.getElem?_eq_getElem h1
    obtain ⟨_, _, g3, _⟩ := hF i _ hp
    refine ⟨ps[i].1, ?_, ?_⟩
    · have hzz : (ps.zip vps)[i]? = some (ps[i], (key, v)) := List.getElem?_zip_eq_some.mpr ⟨hp, hv⟩
      rw [List.getElem?_map, hzz]
      rfl
    · rw [← h2] at g3
      exact kV_is g3
  · have hm : (s.heap.objs.size == sysModules) = false := beq_eq_false_iff_ne.mpr (Nat.ne_of_gt I.big)
    have hz4 : (mergeK [] ps).length ≤ sizeLine := Nat.le_trans (length_mergeK ps []) (by simpa using hz3)
    exact ⟨.ref s.heap.objs.size, upd H s.heap.objs.size (.dK (mergeK [] ps)), I.laid (fun b u e => hk b u (by simp) e) (Nat.le_refl _) (show ObjOk X.prog X.w _ _ _ (.dK (mergeK [] ps)) from ⟨hz4, hm, _, KV.merge hkv .nil, hd'⟩), rfl, q _ (I.hok.fresh (Nat.le_refl _))⟩
/-- a display of a tuple whose object is known -/
def tTupZ (t : TA) : TE := fun σ H Q => t σ H fun xs H1 => xs.length ≤ sizeLine ∧ ∀ p o, H1 p = none → o.dict = none → Q (.ref p) (upd H1 p (.frz o (.tup xs)))
theorem pe_tupZ {X : Cx} {es : List Expr} {t : TA} {pos : Pos} {x1} (h : PA X es t) : PE X (.Tuple es x1 pos) (tTupZ t) := by
  refine ⟨fun pins s σ H Q I hq => ?_⟩
  refine wpAny_Tuple_spliced (thn (h.run pos pins s σ H _ I hq) fun us s1 ⟨xs, H1, I1, r, z, q⟩ => ⟨by rw [← r.length]; exact z, ?_⟩)
  have hf : H1 s1.heap.objs.size = none := I1.hok.fresh (Nat.le_refl _)
  refine ⟨.ref s1.heap.objs.size, upd H1 s1.heap.objs.size (.frz { cls := .type "tuple", data := .seq us.toArray } (.tup xs)), I1.laid (t' := s1.toks) (fun b u e => Heap.get?_push_of_some _ e) (Nat.le_refl _) ?_, rfl, q _ _ hf rfl⟩
  exact ⟨Heap.get?_push_size _ rfl, z, us, r, ⟨_, Heap.get?_push_size _ rfl, rfl, _, rfl⟩⟩
section
variable {K : PySem.W.Frag} {σ : L2.St} {H : Hp} {Q : VK}
def NewZ (H : Hp) (xs : List V) (q : Addr → Hp → Prop) : Prop := ∀ p o, H p = none → o.dict = none → q p (upd H p (.frz o (.tup xs)))
theorem w_newZ {xs : List V} {q : Addr → Hp → Prop} (h : ∀ p H2, H p = none → Same H H2 → TupZ H2 p xs → q p H2) : NewZ H xs q := fun p o hp ho => h p _ hp (Same.upd (Same.refl H) hp) ⟨o, ho, upd_same⟩
theorem w_tupZ {tr : TA} (q : tr σ H fun xs H1 => xs.length ≤ sizeLine ∧ NewZ H1 xs fun p H2 => Q (.ref p) H2) : tTupZ tr σ H Q := q
theorem w_tupleOfZ {a : Addr} {ys : List V} (h : H a = some (.lst ys)) (q : ∀ p H2, H p = none → Same H H2 → TupZ H2 p ys → Q (.ref p) H2) : qTupleOfZ K [.ref a] H Q :=
  ⟨a, ys, rfl, SqL.of h, fun l o hl ho => q l _ hl (Same.upd (Same.refl H) hl) ⟨o, ho, upd_same⟩⟩
theorem w_dictP {t : Addr} {Ts : List V} {ps : List (Key × V)} (h : TupZ H t Ts) (hl : Ts.length = ps.length) (hz : ps.length ≤ 1000) (hp : ∀ (i : Nat) (p : Key × V), ps[i]? = some p → ∃ b : Addr, Ts[i]? = some (V.ref b) ∧ SqT K H b [kV p.1, p.2]) (q : ∀ p H2, H p = none → Same H H2 → H2 p = some (.dK (mergeK [] ps)) → Q (.ref p) H2) : qDictP K [.ref t] H Q :=
  ⟨t, Ts, ps, rfl, h, hl, hz, hp, fun p hp => q p _ hp (Same.upd (Same.refl H) hp) upd_same⟩
end
end Wp

namespace Wp
open PySem PySem.Spec PyProof.Rows L2 TyNe HT

/-! ### sorted(a list of data), of any length -/
/-- data with the objects that they stand for, in their order -/
def srtW (bs : List (V × PyData)) : List (V × PyData) := bs.mergeSort (PySem.W.dataLe false (·.2))
abbrev rSortedW (K : PySem.W.Frag) : List V → Hp → VK → Prop := fun xs H Q => ∃ (a : Addr) (bs : List (V × PyData)), xs = [.ref a] ∧ SqL K H a (bs.map (·.1)) ∧ (∀ b ∈ bs, Dp K H b.1 b.2) ∧ PySem.W.AllAlike (bs.map (·.2)) ∧ PySem.W.Sortable (bs.map (·.2)) ∧ bs.length ≤ 100000 ∧ (∀ b ∈ bs, b.2.depth ≤ 60) ∧
  ∀ p, H p = none → Q (.ref p) (upd H p (.lst ((srtW bs).map (·.1))))
theorem each_vals {β : Type} (f : β → V) : ∀ {bs : List β} {us : List Value}, Vals (bs.map f) us → PySem.W.EachIs (fun u b => RelV (f b) u) us bs
  | [], _, r => by
    cases r
    exact .nil
  | b :: bs, _, r => by
    cases r with
    | cons h1 h2 => exact .cons h1 (each_vals f h2)
theorem vals_each {β : Type} (f : β → V) : ∀ {bs : List β} {us : List Value}, PySem.W.EachIs (fun u b => RelV (f b) u) us bs → Vals (bs.map f) us
  | _, _, .nil => .nil
  | _, _, .cons h1 h2 => .cons h1 (vals_each f h2)
theorem cr_sortedW {X : Cx} (hu : X.A.units + 64 < cLine) : CallR X (.builtin "sorted") (rSortedW X.K) := by
  intro pins s σ H vs us Q I r h
  obtain ⟨a, bs, rfl, hs, hd, hal, hk, hL, hdep, q⟩ := h
  obtain ⟨its, rv, hl, hz⟩ := I.list hs
  rw [Vals.ref1 r]
  have e := each_vals (fun b : V × PyData => b.1) rv
  have er : PySem.W.EachIs (fun v (b : V × PyData) => ∃ as, Reads s.heap v b.2 as) its bs := (PySem.W.each_mem e).mono fun v b ⟨h1, hb⟩ => Dp.reads I b.2 b.1 v (hd b hb) h1
  refine PySem.W.sorted_data (enc := fun b : V × PyData => b.2) hl.isList e er hal hk (Nat.le_trans hL (by decide)) (fun b hb => by have := hdep b hb; omega) fun out ho eo => ?_
  obtain ⟨ep, he'⟩ := PyProof.Rows.sortedAll_at s.heap its out.toArray
  have hv : Vals ((srtW bs).map (·.1)) out := vals_each _ eo
  have hlen : ((srtW bs).map (·.1)).length ≤ sizeLine := by
    rw [List.length_map]
    unfold srtW
    rw [List.length_mergeSort]
    exact Nat.le_trans hL (by decide)
  exact ⟨.ref _, upd H (s.heap.objs.size + 1) (.lst ((srtW bs).map (·.1))), I.laid (t' := s.toks) (fun _ _ => PyProof.Rows.sortedAll_old) (Nat.le_succ _) ⟨hlen, out, ep, hv, he'⟩, rfl, q _ (I.hok.fresh (Nat.le_succ _))⟩
section
variable {K : PySem.W.Frag} {H : Hp} {Q : VK}
theorem w_sortedW {a : Addr} {bs : List (V × PyData)} (h : H a = some (.lst (bs.map (·.1)))) (hd : ∀ b ∈ bs, Dp K H b.1 b.2) (hal : PySem.W.AllAlike (bs.map (·.2))) (hk : PySem.W.Sortable (bs.map (·.2))) (hL : bs.length ≤ 100000) (hdep : ∀ b ∈ bs, b.2.depth ≤ 60)
    (q : ∀ p H2, H p = none → Same H H2 → H2 p = some (.lst ((srtW bs).map (·.1))) → Q (.ref p) H2) : rSortedW K [.ref a] H Q :=
  ⟨a, bs, rfl, SqL.of h, hd, hal, hk, hL, hdep, fun p hp => q p _ hp (Same.upd (Same.refl H) hp) upd_same⟩
end
end Wp

namespace Wp
open PySem PySem.Spec PySem.Calls PyProof.Rows L2 TyNe LamX

/-! ### sorted(xs, key=lambda x: (x.a, x.b)) of own objects, a a number, b a text -/
section
variable {X : Cx} {pins : List (Addr × Obj)} {σ : L2.St} {H : Hp} {s : Shared} {a C dx : Addr} {fs : List (Str × V)}
theorem attr_exact {A : Around} {E : Value → Shared → Prop} {fb : Str} {b : Bool} {v : V} {Q : Value → Shared → Prop} (I : Inv X pins σ H s) (hins : H a = some (.ins C dx fs)) (cl : Cls X.K C) (na : NoAttr X.K C fb) (lo : fs.lookup fb = some v)
    (q : ∀ u, RelV v u → Q u { s with toks := s.toks + 1 }) : wpAny (model X.prog X.w) A (getAttr (.ref a) fb b) Q E s := by
  obtain ⟨m9, ob9, rel9, _⟩ := ins_get I.hok hins
  have look9 : RelO (some v) (m9 fb) := lo ▸ rel9 fb
  obtain ⟨u9, at9, ru9⟩ := RelO.some_of look9
  exact get_map I.kIn ob9 (cl.get fb) cl.hd na at9 (handed_of ru9) (q u9 ru9)
theorem key_call {A : Around} {f c' : Addr} {q x f1 f2 : Str} {params : Arguments} {scope : Scope} {pm ctv : Value} {p1 p2 q1 q2 tpos : Pos} {tx : Nat} {n : Int} {z : Str} (I : Inv X pins σ H s) (hins : H a = some (.ins C dx fs)) (cl : Cls X.K C) (na1 : NoAttr X.K C f1) (na2 : NoAttr X.K C f2) (lo1 : fs.lookup f1 = some (.int n)) (lo2 : fs.lookup f2 = some (.str z))
    (room : A.depth < recursionLimit) (of : s.heap.get? f = some (PySem.W.kla_obj "<lambda>" q params (.Tuple [.Attribute (.Name x p1) f1 q1, .Attribute (.Name x p2) f2 q2] tx tpos) scope [] pm c' ctv)) (hcr : s.heap.CodeRec (.ref c') q)
    (hbind : ∀ v : Value, bindArgs (PySem.W.kla_fn "<lambda>" q params (.Tuple [.Attribute (.Name x p1) f1 q1, .Attribute (.Name x p2) f2 q2] tx tpos) scope [] pm (.ref c') ctv) ⟨[v], []⟩ = pure [(x, v)])
    (hk : scope.kind = .function) (hco : scope.isCoroutine = false) (hgen : scope.isGenerator = false) (hcell : ∀ y ∈ scope.names, y.2 ≠ .cell) (hloc : scope.names.lookup x = some .local) (hd : (x == ("__debug__" : Str)) = false)
    (hb1 : ∀ L : Addr, attributeBase (.Name x p1) f1 (PySem.W.envX q scope L f (.ref c') []) (eval (.Name x p1) (PySem.W.envX q scope L f (.ref c') [])) = eval (.Name x p1) (PySem.W.envX q scope L f (.ref c') []))
    (hb2 : ∀ L : Addr, attributeBase (.Name x p2) f2 (PySem.W.envX q scope L f (.ref c') []) (eval (.Name x p2) (PySem.W.envX q scope L f (.ref c') [])) = eval (.Name x p2) (PySem.W.envX q scope L f (.ref c') []))
    (hs : ∀ env : Env, backTo tpos (starEach [.Attribute (.Name x p1) f1 q1, .Attribute (.Name x p2) f2 q2] env) = [(false, eval (.Attribute (.Name x p1) f1 q1) env), (false, eval (.Attribute (.Name x p2) f2 q2) env)] := by intro _; rfl) :
    wpAny (model X.prog X.w) A (call (.ref f) [.ref a]) (PySem.W.KeyPure (.tuple [.int n, .str z]) s) (fun _ _ => False) s := by
  have lim : s.heap.NoLimit := I.nolimit
  refine wpAny_call (codeAny_mono (R := fun r s' => ∃ u, r = .ok (.ret u) ∧ PySem.W.KeyPure (.tuple [.int n, .str z]) s u s') ?_ fun r s' ⟨u, er, hu⟩ => by rw [er]; exact hu)
  refine PySem.W.kla_callFunE room of rfl hco hgen rfl hcr ?_
  rw [hbind]
  refine wpAny_pure (wpAny_newFunctionEnv hcell (fun y hy => by rw [List.mem_singleton.mp hy]; exact hloc) (fun h₁ hns hsb => ⟨lim.fresh _ hsb, ?_⟩) hk)
  show codeAny _ _ (.expr _ (PySem.W.envX q scope s.heap.objs.size f (.ref c') [])) _ _
  have kp : ∀ b o, s.heap.get? b = some o → h₁.get? b = some o := fun b o e => hsb.extBut b o (Nat.ne_of_lt (Heap.lt_size e)) (Heap.get?_push_of_some _ e)
  have I1 : Inv X pins σ H { s with heap := h₁, toks := s.toks + [(x, Value.ref a)].length } := I.kept kp
  have hm : (fun y => ([(x, Value.ref a)] : List (Str × Value)).reverse.lookup y) x = some (Value.ref a) := by simp
  have hns2 : ∀ t : Nat, ({ s with heap := h₁, toks := t } : Shared).heap.Ns (PySem.W.envX q scope s.heap.objs.size f (.ref c') []).locals fun y => ([(x, Value.ref a)] : List (Str × Value)).reverse.lookup y := fun _ => hns
  refine PySem.W.kla_codeExpr (wpAny_Tuple_spliced ?_)
  rw [hs]
  refine Calls.spliced_cons (attr_of (hb1 _) (wpAny_Name (wpAny_loadName_local hk hloc hns hm (attr_exact I1 hins cl na1 lo1 fun u1 r1 => ?_)) hd))
  have I2 : Inv X pins σ H { s with heap := h₁, toks := s.toks + [(x, Value.ref a)].length + 1 } := I1.tok _
  refine Calls.spliced_cons (attr_of (hb2 _) (wpAny_Name (wpAny_loadName_local hk hloc hns hm (attr_exact I2 hins cl na2 lo2 fun u2 r2 => ?_)) hd))
  obtain ⟨t1, rfl⟩ := r1
  obtain ⟨t2, rfl⟩ := r2
  refine Calls.spliced_nil ⟨(by show 2 ≤ sizeLine; decide), ?_⟩
  refine ⟨_, rfl, _, _, rfl, fun b o e => Heap.get?_push_of_some _ (kp b o e), ?_⟩
  exact .tuple (Heap.get?_push_size _ rfl) rfl rfl (.cons (.int _ _) (.cons (.str _ _) .nil))
end
/-- own objects with a number and a text each, in the order of these -/
def srtK (bs : List (Addr × Int × Str)) : List (Addr × Int × Str) := bs.mergeSort (PySem.W.dataLe false fun b => .tuple [.int b.2.1, .str b.2.2])
/-- the object at b.1 has the number b.2.1 and the text b.2.2 -/
def KeyAt (K : PySem.W.Frag) (H : Hp) (f1 f2 : Str) (b : Addr × Int × Str) : Prop := ∃ C dx fs, H b.1 = some (.ins C dx fs) ∧ Cls K C ∧ NoAttr K C f1 ∧ NoAttr K C f2 ∧ fs.lookup f1 = some (.int b.2.1) ∧ fs.lookup f2 = some (.str b.2.2)
/-- sorted(e, key=lambda x: (x.f1, x.f2)); P: the table of the maker's code object -/
def tSortBy (K : PySem.W.Frag) (P : Addr) (q f1 f2 : Str) (te : TE) : TE := fun σ H Q => te σ H fun v H1 => ∃ (l : Addr) (bs : List (Addr × Int × Str)), v = .ref l ∧ SqL K H1 l (bs.map fun b => V.ref b.1) ∧ bs.length ≤ 100000 ∧ (∀ b ∈ bs, KeyAt K H1 f1 f2 b) ∧ TabS H1 P q ∧
  ∀ p H2, p ≠ P → (∀ b o, H1 b = some o → (∀ ps, o ≠ .tbl ps) → b ≠ p) → ExtN H1 H2 → TabS H2 P q → H2 p = some (.lst ((srtK bs).map fun b => V.ref b.1)) → Q (.ref p) H2
theorem sqL_ext {K : PySem.W.Frag} {H H' : Hp} {a : Addr} {xs : List V} (e : ExtN H H') (h : SqL K H a xs) : SqL K H' a xs := by
  rcases h with (h | ⟨o, h⟩) | h
  · exact .inl (.inl (e _ _ h fun _ z => by cases z))
  · exact .inl (.inr ⟨o, e _ _ h fun _ z => by cases z⟩)
  · exact .inr h
/-- what is asked of the lambda's text -/
structure LamK (scope : Scope) (x : Str) : Prop where
  kind : scope.kind = .function
  co : scope.isCoroutine = false
  gen : scope.isGenerator = false
  own : ∀ y ∈ scope.names, y.2 ≠ .cell ∧ y.2 ≠ .free
  loc : scope.names.lookup x = some .local
theorem lamK_by {scope : Scope} {x : Str} (h : (decide (scope.kind = .function) && !scope.isCoroutine && !scope.isGenerator && scope.names.all (fun y => !decide (y.2 = .cell) && !decide (y.2 = .free)) && decide (scope.names.lookup x = some .local)) = true) : LamK scope x := by
  simp only [Bool.and_eq_true, Bool.not_eq_true', decide_eq_true_eq, decide_eq_false_iff_not, List.all_eq_true] at h
  exact ⟨h.1.1.1.1, h.1.1.1.2, h.1.1.2, h.1.2, h.2⟩
theorem pe_sortBy {X : Cx} {k : Nat} {c P : Addr} {q x f1 f2 : Str} {e : Expr} {te : TE} {params : Arguments} {scope : Scope} {p pos kpos lpos p1 p2 q1 q2 tpos : Pos} {tx : Nat} (hr : Room k X.A) (hg : Gl X "sorted") (hm : X.mg "sorted" = none) (he : PE X e te) (TB : TabB X.base X.mg c P) (hcode : X.env.code = .ref c) (hq : X.env.qual ++ "<lambda>" = q)
    (hdef : defaultsOf params X.env = ([], [])) (L : LamK scope x) (hcl : cloFrom X.env.cells scope.names [] = []) (hd : (x == ("__debug__" : Str)) = false)
    (hbind : ∀ (body : Expr) (pm cv ctv v : Value), bindArgs (PySem.W.kla_fn "<lambda>" q params body scope [] pm cv ctv) ⟨[v], []⟩ = pure [(x, v)])
    (hb1 : ∀ (f c' L : Addr), attributeBase (.Name x p1) f1 (PySem.W.envX q scope L f (.ref c') []) (eval (.Name x p1) (PySem.W.envX q scope L f (.ref c') [])) = eval (.Name x p1) (PySem.W.envX q scope L f (.ref c') []))
    (hb2 : ∀ (f c' L : Addr), attributeBase (.Name x p2) f2 (PySem.W.envX q scope L f (.ref c') []) (eval (.Name x p2) (PySem.W.envX q scope L f (.ref c') [])) = eval (.Name x p2) (PySem.W.envX q scope L f (.ref c') []))
    (hs : starEach [e] X.env = [(false, eval e X.env)] := by rfl) :
    PE X (.Call (.Name "sorted" p) [e] [⟨some "key", .Lambda params (.Tuple [.Attribute (.Name x p1) f1 q1, .Attribute (.Name x p2) f2 q2] tx tpos) scope lpos, kpos⟩] pos) (tSortBy X.K P q f1 f2 te) := by
  refine ⟨fun pins s σ H Q I h => ?_⟩
  refine wpAny_Call_Name_kw (ld_blt (u := .builtin "sorted") I hg hm (by decide +kernel) ?_ (by decide) (by decide))
  have h' : tCons te tNil σ H fun vs H1 => match vs with
    | [v] => ∃ (l : Addr) (bs : List (Addr × Int × Str)), v = .ref l ∧ SqL X.K H1 l (bs.map fun b => V.ref b.1) ∧ bs.length ≤ 100000 ∧ (∀ b ∈ bs, KeyAt X.K H1 f1 f2 b) ∧ TabS H1 P q ∧
      ∀ p H2, p ≠ P → (∀ b o, H1 b = some o → (∀ ps, o ≠ .tbl ps) → b ≠ p) → ExtN H1 H2 → TabS H2 P q → H2 p = some (.lst ((srtK bs).map fun b => V.ref b.1)) → Q (.ref p) H2
    | _ => False := h
  refine PyProof.Rows.callWith_kw (thn ((pa_cons he pa_nil hs).run pos pins s σ H _ I h') fun us s1 ⟨vs, H1, I1, rr, hh⟩ => ?_) (by rw [hs]; rfl) (by rw [hs]; rfl) rfl rfl
  rcases vs with _ | ⟨v, _ | ⟨v2, vs2⟩⟩
  · exact hh.elim
  rotate_left
  · exact hh.elim
  obtain ⟨l, bs, ev, hl, hL, hbs, hT, qf⟩ := hh
  subst ev
  obtain rfl := Vals.ref1 rr
  show wpAny _ _ (evalAll [do let v ← eval (.Lambda params (.Tuple [.Attribute (.Name x p1) f1 q1, .Attribute (.Name x p2) f2 q2] tx tpos) scope lpos) X.env; standAt pos; pure v]) _ _ s1
  subst hq
  refine wpAny_evalAll_cons (wpAny_bind (lam_make2 (T := [(P, X.env.qual ++ "<lambda>")]) I1 TB hcode (List.mem_singleton.mpr rfl) (fun z hz _ => by rw [List.mem_singleton.mp hz]) (fun z hz => by rw [List.mem_singleton.mp hz]; exact hT) hdef (fun y hy ey => absurd ey (L.own y hy).2) fun f c' pm ctv H2 s2 I2 eN T2 hf hfn hfr hco => wpAny_bind (wpAny_standAt (wpAny_pure (wpAny_evalAll_nil ?_)))))
  have hT2 := T2 (P, X.env.qual ++ "<lambda>") (List.mem_singleton.mpr rfl)
  rw [hcl] at hf
  have hl2 := sqL_ext eN hl
  obtain ⟨its, rv, pl, hz⟩ := I2.list hl2
  have e2 := each_vals (fun b : Addr × Int × Str => V.ref b.1) rv
  obtain ⟨⟨oc, vc, t, hoc, hdc, hvc⟩, _, _⟩ := I2.hok c' _ hco
  have hu := hr.un
  have hdp := hr.dp
  have hk2 : ∀ b ∈ bs, KeyAt X.K H2 f1 f2 b := fun b hb => by
    obtain ⟨C, dx, fs, k1, k2⟩ := hbs b hb
    exact ⟨C, dx, fs, eN _ _ k1 (fun _ z => by cases z), k2⟩
  show wpAny _ _ (call (.builtin "sorted") [.ref l] [(Str.ofString "key", .ref f)]) _ _ _
  refine PySem.W.sorted_key_data (b := false) (R := fun u (b : Addr × Int × Str) => RelV (V.ref b.1) u) (fun b : Addr × Int × Str => PyData.tuple [.int b.2.1, .str b.2.2]) pl.isList e2 (PySem.W.AllAlike.of fun _ _ => by simp [PySem.W.alike, PySem.W.alikeAll]) (PySem.W.Sortable.tuples fun _ => ⟨_, _, rfl⟩) (Nat.le_trans hL (by decide)) (fun b _ => ?_) (PyProof.Rows.ksk_s1 _ _) (fun _ => PyProof.Rows.ksk_l1 _ _) (fun _ => PyProof.Rows.ksk_t1 _ _) (fun v b hv hb h9 tk9 kp9 => ?_) fun out c9 h9 tk9 kp9 hn9 hD9 hl9 eo => ?_
  · have h1 : (PyData.tuple [.int b.2.1, .str b.2.2]).depth = 1 := by simp [PyData.depth, PyData.depthAll]
    rw [h1]
    omega
  · obtain ⟨C, dx, fs, k1, k2, k3, k4, k5, k6⟩ := hk2 b hb
    obtain rfl : v = Value.ref b.1 := hv
    refine key_call (s := { s2 with heap := h9, toks := tk9 }) (I2.kept kp9) k1 k2 k3 k4 k5 k6 ?_ (kp9 _ _ hf) ⟨c', oc, vc, t, rfl, kp9 _ _ hoc, hdc, hvc⟩ (hbind _ _ _ _) L.kind L.co L.gen (fun y hy => (L.own y hy).1) L.loc hd (hb1 f c') (hb2 f c')
    show X.A.depth < recursionLimit
    omega
  · have hv : Vals ((srtK bs).map fun b => V.ref b.1) out := vals_each _ eo
    have hlen : ((srtK bs).map fun b => V.ref b.1).length ≤ sizeLine := by
      rw [List.length_map]
      unfold srtK
      rw [List.length_mergeSort]
      exact Nat.le_trans hL (by decide)
    have hfr2 : H2 (s2.heap.objs.size + 1) = none := I2.hok.fresh (Nat.le_succ _)
    have nP : (s2.heap.objs.size + 1) ≠ P := by
      obtain ⟨ps, hP, _⟩ := hT2
      exact (ne_of_none hP hfr2).symm
    refine ⟨.ref _, upd H2 (s2.heap.objs.size + 1) (.lst ((srtK bs).map fun b => V.ref b.1)), I2.laid (t' := tk9) kp9 (Nat.le_succ _) ⟨hlen, out, c9, hv, hD9⟩, rfl, qf _ _ nP (fun b o e n => ne_of_none (eN _ _ e n) hfr2) (fun b o e n => ?_) (hT2.ext fun b o e => ?_) upd_same⟩
    · rw [upd_ne]
      · exact eN _ _ e n
      · intro z
        rw [z] at e
        rw [eN _ _ e n] at hfr2
        exact nomatch hfr2
    · rw [upd_ne (ne_of_none e hfr2)]
      exact e
end Wp

namespace Wp
open PySem PySem.Spec PySem.Calls PyProof.Rows L2 TyNe

/-! ### a tuple times nought or one -/
theorem tupleTimes1 (l : Addr) (items : Array Value) (n : Nat) (dd : Option Addr) (sl : Array (Option Value)) (u : Tok) :
    Meets (Builtin.«tuple.__mul__» ⟨[.ref l, .int 1 u], []⟩) (fun _ R s => s.heap.get? l = some { cls := .type "tuple", dict := dd, data := .seq items n, slots := sl } ∧ R (.ok (.ret (Value.ref l))) s) :=
  .of_wp fun prog w A R s h => by
    obtain ⟨h1, g1, d1, t1, o1⟩ := s
    obtain ⟨hl1, h⟩ := h
    have f1 := AutoSeq1.idx_int
    wp_walk using wpAny_loadPart' hl1
    exact ⟨_, rfl, h⟩
theorem tupleTimes0 (l : Addr) (items : Array Value) (n : Nat) (dd : Option Addr) (sl : Array (Option Value)) (u : Tok) (ne : items.isEmpty = false) :
    Meets (Builtin.«tuple.__mul__» ⟨[.ref l, .int 0 u], []⟩) (fun _ R s => s.heap.get? l = some { cls := .type "tuple", dict := dd, data := .seq items n, slots := sl } ∧
      R (.ok (.ret (Value.ref s.heap.objs.size))) { s with heap := s.heap.push { cls := Value.type "tuple", data := Data.seq #[] }, toks := s.toks }) :=
  .of_wp fun prog w A R s h => by
    obtain ⟨h1, g1, d1, t1, o1⟩ := s
    obtain ⟨hl1, h⟩ := h
    have f1 := AutoSeq1.idx_int
    wp_walk using wpAny_loadPart' hl1
    exact ⟨_, rfl, h⟩
def rRep01 (K : PySem.W.Frag) : R2 := fun x y H Q => ∃ l k xs, x = .ref l ∧ y = .int k ∧ SqT K H l xs ∧ xs ≠ [] ∧ (k = 0 ∨ k = 1) ∧ (k = 1 → Q (.ref l) H) ∧ (k = 0 → ∀ p, H p = none → Q (.ref p) (upd H p (.tup [])))
theorem op_rep01 {X : Cx} : OpR X (binaryOp .Mult) (rRep01 X.K) := by
  intro pins s σ H x y v u Q I rx ry hh
  obtain ⟨l, k, xs, rfl, rfl, hT, hne, hk, qa, qb⟩ := hh
  cases rx
  obtain ⟨t, rfl⟩ := ry
  obtain ⟨its, rv, ⟨⟨cls, dd, data, sl⟩, ho, hc, n, hd⟩, _⟩ := I.tuple hT
  simp only at hc hd
  subst hc hd
  have hi : its.toArray.isEmpty = false := by
    cases its with
    | nil => exact absurd (List.eq_nil_of_length_eq_zero (rv.length.trans rfl)) hne
    | cons a b => rfl
  have body : wpAny (model X.prog X.w) X.A (call (.builtin "tuple.__mul__") [.ref l, .int k t]) (EP X pins σ Q) X.xe s := by
    rcases hk with rfl | rfl
    · refine call_meets F.slot_tuple_mul ⟨_, ho, rfl⟩ F.entry_tuple_mul (F.args_tuple_mul_2 _ _) (tupleTimes0 l its.toArray n dd sl t hi) ⟨ho, ?_⟩
      exact ⟨.ref s.heap.objs.size, _, I.laid (t' := s.toks) (o := .tup []) (fun b ob q => Heap.get?_push_of_some _ q) (Nat.le_refl _) ⟨Nat.zero_le _, [], .nil, IsTup.new _ _⟩, rfl, qb rfl _ (I.hok.fresh (Nat.le_refl _))⟩
    · exact call_meets F.slot_tuple_mul ⟨_, ho, rfl⟩ F.entry_tuple_mul (F.args_tuple_mul_2 _ _) (tupleTimes1 l its.toArray n dd sl t) ⟨ho, .ref l, H, I, rfl, qa rfl⟩
  refine wpAny_binaryOp_repeat_ref (T := "tuple") (U := "int") (by decide) ⟨_, ho, rfl⟩ (fun s' => typeIs_int s' k t) noFill_tuple_mul F.fills_int_mul F.slot_int_rmul repeat_tuple F.slot_int_index.lookup ?_
  exact call_meets F.slot_int_rmul (typeIs_int s k t) F.entry_int_rmul (F.args_int_rmul_2 _ _) (int_rmul_tuple k t l its.toArray n dd sl) ⟨ho, rfl, ⟨_, ho, rfl⟩, body⟩
section
variable {K : PySem.W.Frag} {H : Hp} {Q : VK}
theorem w_rep01 {l : Addr} {k : Int} {xs : List V} (h : SqT K H l xs) (hne : xs ≠ []) (h0 : 0 ≤ k) (h1 : k < 2) (qa : k = 1 → Q (.ref l) H) (qb : k = 0 → ∀ p H2, H p = none → Same H H2 → H2 p = some (.tup []) → Q (.ref p) H2) : rRep01 K (.ref l) (.int k) H Q :=
  ⟨l, k, xs, rfl, rfl, h, hne, by omega, qa, fun e p hp => qb e p _ hp (Same.upd (Same.refl H) hp) upd_same⟩
end
/-! ### a def whose code object is known -/
theorem calC {P : Program} {w : World} {K : PySem.W.Frag} {mg : Str → Option Value} {base : Heap} {x : Str} {st : Stmt} {f c : Addr} {fd : FuncData} {N ps : List Str} {k : Nat} {sp : Sp} (F : C8.Def K mg x st f fd) (hc : fd.code = .ref c) (b : Binds K fd ps []) (S : FnScope N ps (C8.fnScope st)) (len : ∀ vs H Q E, sp vs H Q E → vs.length = ps.length)
    (hbody : ∀ (A : Around) (outer : List Env) (s : Shared) (H : Hp) (vs : List V) (Q : VK) (E : XK), Room k (A.deeper (envOfC x (C8.fnScope st) s.heap.objs.size f (.ref c))) → sp vs H Q E →
      ∃ t, PSs (cxOf C8.CX0 P w K mg base N x (C8.fnScope st) f (.ref c) A outer s H E).nox (C8.fnBody st) t ∧ t { nx := fun _ H' => Q .non H', rt := Q } (start N vs) H) : C8.Cal P w K mg base (k + 1) x sp [] := by
  obtain ⟨oc, od, dV, kV, doc, pm, an, cdv, ct, osl, ef, lk, hcd⟩ := F.fn.ex
  subst ef
  have hc : cdv = .ref c := hc
  subst hc
  refine ⟨f, _, ps, [], fn_of lk hcd S len fun A outer s H vs Q E hr hsp => ?_, F.mgf, F.kp, b, .nil⟩
  obtain ⟨t, ht, hq⟩ := hbody A outer s H vs Q E hr hsp
  exact ⟨t, ht.nox, hq⟩
end Wp

namespace Wp
open PySem PySem.Spec PyProof.Rows L2 TyNe ItX

/-! ### x in o, x not in o: o of an own class with __contains__ -/
def rInOwn (C : Addr) (sp : Sp) (neg : Bool) : R2 := fun x y H Q => ∃ a dx fs, y = .ref a ∧ H a = some (.ins C dx fs) ∧ sp [.ref a, x] H (fun v H' => ∃ b, v = .bl b ∧ Q (.bl (if neg then !b else b)) H') C8.E0
section
variable {X : Cx} {k j : Nat} {C : Addr} {sp : Sp}
theorem call_met {m : Str} {pins : List (Addr × Obj)} {σ : L2.St} {H : Hp} {s : Shared} {f : Addr} {fd : FuncData} {ps : List Str} {ds : List Value} {us : List Value} {vs : List V} {Q : VK} (F : FnOk X.prog X.w X.K X.mg X.base C8.CX0 k f fd ps sp) (b : Binds X.K fd ps ds) (d : Vals [] ds)
    (hr : Room j X.A) (hk : k ≤ j) (I : Inv X pins σ H s) (r : Vals vs us) (h : sp vs H Q C8.E0) : wpAny (model X.prog X.w) X.A (call (.ref f) us) (EP X pins σ Q) X.xe s := by
  have F2 := F.raw b d
  refine wpAny_call (codeAny_mono (run_fnR F2 (hr.mono hk) C8.pass0 I r (show sp (vs ++ []) H Q C8.E0 by rw [List.append_nil]; exact h)) fun r s' hq => ?_)
  cases r with
  | error e => exact hq
  | ok fl =>
    cases fl with
    | ret u => exact hq
    | next => exact False.elim hq
    | brk => exact False.elim hq
    | cont => exact False.elim hq
theorem bool_back {pins : List (Addr × Obj)} {σ : L2.St} {s : Shared} {Q : VK} {u : Value} (neg : Bool) (h : EP X pins σ (fun v H' => ∃ b, v = .bl b ∧ Q (.bl (if neg then !b else b)) H') u s) :
    wpAny (model X.prog X.w) X.A (truthy u) (fun b s' => EP X pins σ Q (.bool (if neg then !b else b)) s') X.xe s := by
  obtain ⟨v, H', I', rv, b, rfl, q⟩ := h
  obtain rfl : u = .bool b := rv
  exact wpAny_pure ⟨V.bl (if neg then !b else b), H', I', (show RelV (V.bl _) (Value.bool _) from rfl), q⟩
theorem op_inOwn (c : C8.Met X.prog X.w X.K X.mg X.base k C "__contains__" sp []) (hr : Room j X.A) (hk : k ≤ j) : OpR X (compareOp .In) (rInOwn C sp false) := by
  intro pins s σ H x y v u Q I rx ry h
  obtain ⟨a, dx, fs, rfl, ha, q⟩ := h
  obtain rfl : u = .ref a := ry
  obtain ⟨f, fd, ps, ds, hc, hm, F, b, d⟩ := c.ex
  obtain ⟨mA, J, _⟩ := ins_get I.hok ha
  obtain ⟨od, J, _⟩ := J.look
  obtain ⟨m, hF⟩ := I.fr
  refine PySem.W.in_K hF I.ok.mod.kin J hm.at_ hm.fn ?_
  exact wpAny_mono (call_met (m := "__contains__") F b d hr hk I (show Vals [V.ref a, x] [Value.ref a, v] from .cons rfl (.cons rx .nil)) q) (fun r s' hq => bool_back false hq) fun _ _ z => z
theorem op_ninOwn (c : C8.Met X.prog X.w X.K X.mg X.base k C "__contains__" sp []) (hr : Room j X.A) (hk : k ≤ j) : OpR X (compareOp .NotIn) (rInOwn C sp true) := by
  intro pins s σ H x y v u Q I rx ry h
  obtain ⟨a, dx, fs, rfl, ha, q⟩ := h
  obtain rfl : u = .ref a := ry
  obtain ⟨f, fd, ps, ds, hc, hm, F, b, d⟩ := c.ex
  obtain ⟨mA, J, _⟩ := ins_get I.hok ha
  obtain ⟨od, J, _⟩ := J.look
  obtain ⟨m, hF⟩ := I.fr
  refine PySem.W.notIn_K hF I.ok.mod.kin J hm.at_ hm.fn ?_
  exact wpAny_mono (call_met (m := "__contains__") F b d hr hk I (show Vals [V.ref a, x] [Value.ref a, v] from .cons rfl (.cons rx .nil)) q) (fun r s' hq => bool_back true hq) fun _ _ z => z
end

/-! ### list(d) -/
abbrev qListD : List V → Hp → VK → Prop := fun xs H Q => ∃ (a : Addr) (kvs : List (Key × V)), xs = [.ref a] ∧ Rd H a (.dK kvs) ∧ ∀ p, H p = none → Q (.ref p) (upd H p (.lst (kvs.map fun kv => kV kv.1)))
theorem w_listDk {H : Hp} {Q : VK} {a : Addr} {kvs : List (Key × V)} (h : H a = some (.dK kvs)) (q : ∀ p H2, H p = none → Same H H2 → H2 p = some (.lst (kvs.map fun kv => kV kv.1)) → Q (.ref p) H2) : qListD [.ref a] H Q :=
  ⟨a, kvs, rfl, .inl h, fun p hp => q p _ hp (Same.upd (Same.refl H) hp) upd_same⟩
/-! ### len(o) -/
def rLenOwn (C : Addr) (sp : Sp) : List V → Hp → VK → Prop := fun xs H Q => ∃ a dx fs, xs = [.ref a] ∧ H a = some (.ins C dx fs) ∧ sp [.ref a] H (fun v H' => ∃ n : Int, v = .int n ∧ 0 ≤ n ∧ n < 2 ^ 63 ∧ Q (.int n) H') C8.E0
section
variable {X : Cx} {k j : Nat} {C : Addr} {sp : Sp}
theorem cr_lenOwn (c : C8.Met X.prog X.w X.K X.mg X.base k C "__len__" sp []) (hr : Room j X.A) (hk : k + 1 ≤ j) : CallR X (.builtin "len") (rLenOwn C sp) := by
  intro pins s σ H vs us Q I r h
  obtain ⟨a, dx, fs, rfl, ha, q⟩ := h
  rw [Vals.ref1 r]
  obtain ⟨f, fd, ps, ds, hc, hm, F, b, d⟩ := c.ex
  obtain ⟨mA, J, _⟩ := ins_get I.hok ha
  obtain ⟨od, J, _⟩ := J.look
  obtain ⟨m, hF⟩ := I.fr
  refine PySem.W.len_K hF I.ok.mod.kin J hm.at_ hm.fn ?_
  have sb : Sub X k X.A.in1 := (⟨hr.mono hk, rfl⟩ : Sub X (k + 1) X.A).in1
  have e := I.env0
  have e0 : Env0 X.prog X.w X.K X.mg X.base X.A.in1 X.stack s H := ⟨by rw [sb.fr]; exact e.frames, e.mod, e.bs, e.bsz, e.funs, e.frf, e.hok, e.bare⟩
  have r2 : Vals [V.ref a] [Value.ref a] := .cons rfl .nil
  refine wpAny_call (codeAny_mono ((F.raw b d) X.A.in1 X.stack s H [.ref a] [.ref a] _ _ sb.room e0 r2 q) fun r s' hq => ?_)
  cases r with
  | error e => exact C8.pass0 (E := C8.E0) pins σ H s e s' I hq
  | ok fl =>
    cases fl with
    | ret u =>
      obtain ⟨v, H', I', rv, n, rfl, h0, h1, q'⟩ := I.after hq
      obtain ⟨t, rfl⟩ := rv
      exact ⟨⟨h0, h1⟩, V.int n, H', I'.tok _, ⟨s'.toks, rfl⟩, q'⟩
    | next => exact False.elim hq
    | brk => exact False.elim hq
    | cont => exact False.elim hq
end

/-! ### for x in o: o of an own class whose __iter__ hands out a list's iterator -/
/-- a promise that may speak of where new objects stand -/
structure MetN (P : Program) (w : World) (K : PySem.W.Frag) (mg : Str → Option Value) (base : Heap) (k : Nat) (C : Addr) (m : Str) (sp : Nat → Sp) : Prop where
  ex : ∃ f, Meth K C m f ∧ ∀ (A : Around) (outer : List Env) (s : Shared) (H : Hp) (us : List Value) (vs : List V) (Q : VK) (E : XK), Room k A → Env0 P w K mg base A outer s H → Vals vs us → sp s.heap.objs.size vs H Q E →
    codeAny (model P w) A (.call (.ref f) ⟨us, []⟩) (CR C8.CX0 outer P w H s Q E) s
theorem metN {P : Program} {w : World} {K : PySem.W.Frag} {mg : Str → Option Value} {base : Heap} {m qual : Str} {C : Addr} {st : Stmt} {f : Addr} {fd : FuncData} {N ps : List Str} {k : Nat} {sp : Nat → Sp} (me : Meth K C m f) (F : C8.Fun K m qual st f fd) (b : Binds K fd ps []) (S : FnScope N ps (C8.fnScope st)) (len : ∀ n vs H Q E, sp n vs H Q E → vs.length = ps.length)
    (hbody : ∀ (cdv : Value) (A : Around) (outer : List Env) (s : Shared) (H : Hp) (vs : List V) (Q : VK) (E : XK), Room k (A.deeper (envOfC qual (C8.fnScope st) s.heap.objs.size f cdv)) → sp s.heap.objs.size vs H Q E →
      ∃ t, PSs (cxOf C8.CX0 P w K mg base N qual (C8.fnScope st) f cdv A outer s H E).nox (C8.fnBody st) t ∧ t { nx := fun _ H' => Q .non H', rt := Q } (start N vs) H) : MetN P w K mg base (k + 1) C m sp := by
  obtain ⟨oc, od, dV, kV, doc, pm, an, cdv, ct, osl, ef, lk, hcd⟩ := F.ex
  subst ef
  refine ⟨f, me, fun A outer s H us vs Q E hr e0 r hsp => ?_⟩
  have hl : us.length = ps.length := by rw [← r.length]; exact len _ _ _ _ _ hsp
  have lv := len _ _ _ _ _ hsp
  have KX : K.In s.heap := e0.mod.kin.keeps fun b o e => (e0.bs b o e).1
  have lim : s.heap.NoLimit := e0.mod.nolimit.keeps fun b o e => (e0.bs b o e).1
  have hkind : ∀ y ∈ ps.zip us, (C8.fnScope st).names.lookup y.1 = some .local ∨ ((C8.fnScope st).names.lookup y.1 = some .cell ∧ ((cellsFrom (s.heap.objs.size + 1) (C8.fnScope st).names []).lookup y.1).isSome = true) := fun ⟨n, v⟩ hy =>
    (S.par n (List.of_mem_zip hy).1).elim .inl fun q => .inr ⟨q, PySem.W.cellsFrom_some _ _ _ (.inl q)⟩
  have hb := b s us KX (by rw [List.append_nil]; exact hl)
  rw [List.append_nil] at hb
  refine codeAny_call_function hr.depth (KX _ _ lk) rfl S.co S.gen rfl (PySem.W.codeRec_of KX hcd) (hb _ _ _ _ (wpAny_newFunctionEnv_cells S.kind hkind fun env he s1 x => ?_))
  subst he
  obtain ⟨t, ht, hq⟩ := hbody cdv A outer s H vs Q E (hr.deeper _) hsp
  have I : Inv (cxOf C8.CX0 P w K mg base N qual (C8.fnScope st) f cdv A outer s H E) [] (start N vs) H s1 := inv_start S hr.hd e0 lv r x
  refine ⟨lim.keeps x.toInCall.keep, codeAny_func (wpAny_mono (ht.nox.run [] s1 (start N vs) H _ I hq) (fun fl s' hs => ?_) fun e s' hs => hs)⟩
  cases fl with
  | ret u =>
    obtain ⟨v, σ', H', J, rv, q⟩ := hs
    exact ⟨v, H', J.os, J.bare, J.base, J.hok, rv, q⟩
  | next =>
    obtain ⟨σ', H', J, q⟩ := hs
    exact ⟨V.non, H', J.os, J.bare, J.base, J.hok, rfl, q⟩
  | brk => exact hs.elim fun _ z => z.elim fun _ z => False.elim z.2
  | cont => exact hs.elim fun _ z => z.elim fun _ z => False.elim z.2
def iOwn (C : Addr) (n : Nat) (K : PySem.W.Frag) (sp : Nat → Sp) (te : TE) : TI := fun σ H R => te σ H fun x H1 => ∃ a dx fs, x = .ref a ∧ H1 a = some (.ins C dx fs) ∧ ∀ z, n ≤ z → sp z [.ref a] H1 (fun v H2 => ∃ it l, v = .ref it ∧ H2 it = some (ItO l it 0) ∧ n ≤ it ∧ R (ItlF K l 0) (dropH H2 it)) C8.E0
section
variable {X : Cx} {k j : Nat} {C : Addr} {sp : Nat → Sp} {tg e : Expr} {te : TE}
theorem pi_own (c : MetN X.prog X.w X.K X.mg X.base k C "__iter__" sp) (hr : Room j X.A) (hk : k ≤ j) (he : PE X e te) : PI X tg e (iOwn C X.s_0.heap.objs.size X.K sp te) := by
  refine ⟨fun pins s σ H R I h => ?_⟩
  refine thn (he.run pins s σ H _ I h) fun u s1 ⟨x, H1, I1, rx, a, dx, fs, ex, ha, q⟩ => ?_
  subst ex
  obtain rfl : u = .ref a := rx
  obtain ⟨f, hm, F⟩ := c.ex
  obtain ⟨mA, J, _⟩ := ins_get I1.hok ha
  obtain ⟨od, J, _⟩ := J.look
  obtain ⟨m, hF⟩ := I1.fr
  refine PySem.W.owit_iter hF I1.ok.mod.kin J hm.at_ hm.fn ?_
  have r2 : Vals [V.ref a] [Value.ref a] := .cons rfl .nil
  refine wpAny_call (codeAny_mono (F X.A X.stack s1 H1 [.ref a] [.ref a] _ C8.E0 (hr.mono hk) I1.env0 r2 (q _ I1.sz)) fun r s' hq => ?_)
  cases r with
  | error e => exact C8.pass0 (E := C8.E0) pins σ H1 s1 e s' I1 hq
  | ok fl =>
    cases fl with
    | ret u =>
      obtain ⟨v, H', I', rv, it, l, rfl, hi, hn, q'⟩ := I1.after hq
      obtain rfl : u = .ref it := rv
      have eo := itO_get I' hi
      have st : s'.heap.IsListIter it l (0 + 0) := ⟨_, eo, rfl, rfl⟩
      have hi' := hi
      unfold ItO at hi'
      refine wpAny_specialOf (name := Str.ofString "__next__") ⟨_, eo, rfl⟩ slot_listiter_next.lookup ?_
      refine ⟨it, [it], _, _, dropH H' it, rfl, inv_drop I' hi', turn_listF l it 0, st, fun b hb => ?_, q'⟩
      have e : b = it := by simpa using hb
      rw [e]
      exact inv_fp I' hi hn
    | next => exact False.elim hq
    | brk => exact False.elim hq
    | cont => exact False.elim hq
end
end Wp

namespace Wp
open PySem PySem.Spec PyProof.Rows L2 TyNe

/-! ### del d[k], d.pop(k): keys that are tuples -/
theorem withoutH_eq {K : Type} [DecidableEq K] (xs : List (K × Addr × Value)) (k : K) : withoutH xs k = DT.dropH xs k := rfl
section
variable {X : Cx} {pins : List (Addr × Obj)} {σ : L2.St} {H : Hp} {s : Shared} {a b : Addr} {kvs : List (List Key × V)} {k : List Key}
theorem d_delItemT {Q : Unit → Shared → Prop} (hu : X.A.units + 1 < cLine) (I : Inv X pins σ H s) (e : H a = some (.dT kvs)) (eb : H b = some (.tup (k.map kV))) (l : (valV kvs k).isSome = true) (h : ∀ s', Inv X pins σ (upd H a (.dT (dropK kvs k))) s' → Q () s') :
    wpAny (model X.prog X.w) X.A (delItem (.ref a) (.ref b)) Q X.xe s := by
  obtain ⟨z, hd, xs', rel, dd⟩ := dt_of I.hok e
  have hz : xs'.length ≤ sizeLine := by rw [← Paired.length rel]; exact z
  have r := rel.val k
  obtain ⟨p, hp⟩ : ∃ p, atKey xs' k = some p := by
    cases hp : atKey xs' k with
    | some p => exact ⟨p, rfl⟩
    | none =>
      rw [hp] at r
      cases ev : valV kvs k with
      | none =>
        rw [ev] at l
        exact nomatch l
      | some v0 =>
        rw [ev] at r
        exact (show False from r).elim
  refine wpAny_delItem_heap (knd := tupleKind (mixKind X.prog X.w)) (k := k) (tupleKind_room_in1 hu) (key_of I.hok eb) hd dd hp (fun h' dd' hs => h _ ?_) hz
  obtain ⟨o, es, ep, hq, h2, h3, h4, _, h5⟩ := dd'
  exact d_write I (by rw [e]; exact True.intro) hs ⟨o, hq⟩ ⟨Nat.le_trans (dropK_le kvs k) z, hd, _, (L2.DX.KT_drop k rel).keeps (fun c ys ec => (by rw [upd_ne (ne_of ec e (fun z => nomatch z))]; exact ec)), o, es, ep, hq, h2, h3, h4, h5⟩
end
def sDDelT (td ty : TE) : TS := fun D σ H => td σ H fun x H1 => ty σ H1 fun y H2 => ∃ a b kvs k, x = .ref a ∧ y = .ref b ∧ H2 a = some (.dT kvs) ∧ H2 b = some (.tup (k.map kV)) ∧ (valV kvs k).isSome = true ∧ D.nx σ (upd H2 a (.dT (dropK kvs k)))
theorem ps_ddelT {X : Cx} {o i : Expr} {tpos pos : Pos} {td ty : TE} (hu : X.A.units + 1 < cLine) (ho : PE X o td) (hi : PE X i ty) : PS X (.Delete [.Subscript o i tpos] pos) (sDDelT td ty) := by
  refine ⟨fun pins s σ H D I h => ?_⟩
  refine wpAny_Delete (wpAny_deleteEach_cons (wpAny_delete_Subscript (thn (ho.run pins s σ H _ I h) fun u s1 ⟨x, H1, I1, rx, q1⟩ => thn (hi.run pins s1 σ H1 _ I1 q1) fun iv s2 ⟨y, H2, I2, ry, a, b, kvs, k, ex, ey, e, eb, l, q2⟩ => ?_)))
  subst ex ey
  obtain rfl : u = Value.ref a := rx
  obtain rfl : iv = Value.ref b := ry
  exact d_delItemT hu I2 e eb l fun s3 I3 => wpAny_deleteEach_nil ⟨σ, _, I3, q2⟩
section
variable {σ : L2.St} {H : Hp} {td ty : TE} {D : Ends}
theorem w_ddelT (q : td σ H fun x H1 => ty σ H1 fun y H2 => ∃ a b kvs k, x = .ref a ∧ y = .ref b ∧ H2 a = some (.dT kvs) ∧ H2 b = some (.tup (k.map kV)) ∧ (valV kvs k).isSome = true ∧ D.nx σ (upd H2 a (.dT (dropK kvs k)))) : sDDelT td ty D σ H := q
theorem ddelT {a b : Addr} {kvs : List (List Key × V)} {k : List Key} {R : Hp → Prop} (e : H a = some (.dT kvs)) (eb : H b = some (.tup (k.map kV))) (l : (valV kvs k).isSome = true) (q : ∀ H3, Kp a H H3 → H3 a = some (.dT (dropK kvs k)) → R H3) :
    ∃ (a' b' : Addr) (kvs' : List (List Key × V)) (k' : List Key), V.ref a = .ref a' ∧ V.ref b = .ref b' ∧ H a' = some (.dT kvs') ∧ H b' = some (.tup (k'.map kV)) ∧ (valV kvs' k').isSome = true ∧ R (upd H a' (.dT (dropK kvs' k'))) :=
  ⟨a, b, kvs, k, rfl, rfl, e, eb, l, q _ Kp.refl.updp upd_same⟩
end

/-! ### sorted(d), d with keys that are tuples -/
def keyPD (k : List Key) : PyData := .tuple (k.map fun | .inl i => .int i | .inr x => .str x)
/-- addresses with what stands there -/
def srtB (B : List (Addr × PyData)) : List (Addr × PyData) := B.mergeSort (PySem.W.dataLe false (·.2))
abbrev rSortedDT : List V → Hp → VK → Prop := fun xs H Q => ∃ (d : Addr) (kvs : List (List Key × V)), xs = [.ref d] ∧ Rd H d (.dT kvs) ∧ PySem.W.AllAlike (kvs.map fun kv => keyPD kv.1) ∧ PySem.W.Sortable (kvs.map fun kv => keyPD kv.1) ∧ kvs.length ≤ 100000 ∧ (∀ kv ∈ kvs, (keyPD kv.1).depth ≤ 60) ∧
  ∀ p bs, H p = none → IsKeys H kvs bs → Q (.ref p) (upd H p (.lst ((srtB (bs.zip (kvs.map fun kv => keyPD kv.1))).map fun b => V.ref b.1)))
theorem keyPD_dp {K : PySem.W.Frag} {H : Hp} : ∀ k : List Key, DpAll K H (k.map kV) (k.map fun | .inl i => .int i | .inr x => .str x)
  | [] => .nil
  | .inl i :: r => .cons (.int i) (keyPD_dp r)
  | .inr x :: r => .cons (.str x) (keyPD_dp r)
theorem zip_reads {X : Cx} {pins : List (Addr × Obj)} {σ : L2.St} {H : Hp} {s : Shared} (I : Inv X pins σ H s) : ∀ {kvs : List (List Key × V)} {bs : List Addr}, IsKeys H kvs bs →
    PySem.W.EachIs (fun v (b : Addr × PyData) => v = .ref b.1 ∧ ∃ as, Reads s.heap v b.2 as) (bs.map Value.ref) (bs.zip (kvs.map fun kv => keyPD kv.1))
  | _, _, .nil => .nil
  | _, _, .cons (a := kv) (b := b) h t => .cons ⟨rfl, Dp.reads I (keyPD kv.1) (.ref b) (.ref b) (.tup (SqT.of h) (keyPD_dp kv.1)) rfl⟩ (zip_reads I t)
theorem zip_snd : ∀ {kvs : List (List Key × V)} {bs : List Addr}, kvs.length = bs.length → (bs.zip (kvs.map fun kv => keyPD kv.1)).map (·.2) = kvs.map fun kv => keyPD kv.1
  | [], [], _ => rfl
  | kv :: kvs, b :: bs, h => by
    rw [List.map_cons, List.zip_cons_cons, List.map_cons, zip_snd (by simpa using h)]
  | [], _ :: _, h => by simp at h
  | _ :: _, [], h => by simp at h
theorem refs_vals : ∀ {B : List (Addr × PyData)} {us : List Value}, PySem.W.EachIs (fun v (b : Addr × PyData) => v = .ref b.1) us B → Vals (B.map fun b => V.ref b.1) us
  | _, _, .nil => .nil
  | _, _, .cons h t => .cons h (refs_vals t)
theorem cr_sortedDT {X : Cx} (hcalm : X.calm = true) (hu : X.A.units + 64 < cLine) : CallR X (.builtin "sorted") rSortedDT := by
  intro pins s σ H xs us Q I r h
  obtain ⟨d, kvs, rfl, hd, hal, hk, hL, hdep, q⟩ := h
  obtain ⟨u, rfl, rx⟩ := r.one
  cases rx
  obtain ⟨z, hs, ks, pr, o, es, ep, ho, hx, hdt, he, hn⟩ := (show ObjOk X.prog X.w H s.heap d (.dT kvs) from hd.ok I.hok)
  have l1 : es.size = ks.length := size_of_entries he
  have l2 : kvs.length = ks.length := Paired.length pr
  refine Calls.call_function_entry PyProof.Rows.kind_sorted PyProof.Rows.plain_sorted PyProof.Rows.entry_sorted (PyProof.Rows.args_sorted1 _) ?_
  unfold Builtin.«sorted»
  refine wpAny_bind (m := checkCount "sorted" 1 1 _) (wpAny_pure ?_)
  refine wpAny_bind (PySem.W.kdu_collect (A := X.A.in1) (kdl_raw hs hx hdt) (I.ok.hd hcalm) ho (by omega) fun h' tk acc hkp it => ?_)
  have ea : acc.toList = (ks.map fun x => x.2.1).map Value.ref := by
    have hl : acc.toList.length = ks.length := by rw [Array.length_toList, it.1]; exact l1
    rw [List.map_map]
    refine List.ext_getElem (by rw [hl, List.length_map]) fun j h1 h2 => ?_
    obtain ⟨en, hen, hv⟩ := it.2 j acc.toList[j] (by rw [← Array.getElem?_toList]; exact List.getElem?_eq_getElem h1)
    have hj : j < ks.length := by rw [← hl]; exact h1
    have qe := entry_at he j
    rw [hen, List.getElem?_eq_getElem hj] at qe
    rw [hv, Option.some.inj qe, List.getElem_map]
    rfl
  have hbs := isKeys_of pr
  generalize ks.map (fun x => x.2.1) = bs at ea hbs
  have lb : kvs.length = bs.length := Paired.length hbs
  have I1 : Inv X pins σ H { s with heap := h', toks := tk } := I.kept hkp
  have er := zip_reads I1 hbs
  have esn := zip_snd lb
  generalize hB : bs.zip (kvs.map fun kv => keyPD kv.1) = B at er esn q
  rw [← ea] at er
  rw [← esn] at hal hk
  have lB : acc.toList.length = B.length := er.length
  have lB2 : B.length = kvs.length := by
    have := congrArg List.length esn
    rwa [List.length_map, List.length_map] at this
  have hZ : acc.toList.length ≤ sizeLine := by rw [lB, lB2]; exact Nat.le_trans hL (by decide)
  refine wpAny_bind (wpAny_newList ?_ hZ)
  have hoL : (h'.push (seqObj "list" acc.toList.toArray 0)).get? h'.objs.size = some (seqObj "list" acc.toList.toArray 0) := Heap.get?_push_size _ rfl
  show wpAny _ _ _ _ _ { s with heap := h'.push (seqObj "list" acc.toList.toArray 0), toks := tk }
  have keepS : ∀ b u, h'.get? b = some u → (PySem.W.sortingHeap (h'.push (seqObj "list" acc.toList.toArray 0)) h'.objs.size acc.toList).get? b = some u := fun b u e => PySem.W.sortingHeap_old (Nat.ne_of_lt (Heap.lt_size e)) (Heap.get?_push_of_some _ e)
  have er' : PySem.W.EachIs (fun v (b : Addr × PyData) => ∃ as, Reads (PySem.W.sortingHeap (h'.push (seqObj "list" acc.toList.toArray 0)) h'.objs.size acc.toList) v b.2 as) acc.toList B := er.mono fun _ _ ⟨_, as, r⟩ => ⟨as, PyProof.Rows.Reads.keeps keepS r⟩
  have e1 : PySem.W.EachIs (fun v (b : Addr × PyData) => v = .ref b.1) acc.toList B := er.mono fun _ _ h => h.1
  have hbd : ∀ d, d ∈ B.map (·.2) → X.A.in1.in1.units + d.depth < cLine := fun d hd => by
    rw [esn] at hd
    obtain ⟨kv, hkv, rfl⟩ := List.mem_map.mp hd
    have h1 := hdep kv hkv
    have h2 : X.A.in1.in1.units = X.A.units + 2 := rfl
    omega
  refine wpAny_bind (wpAny_holding (wpAny_call_entry PyProof.Rows.slot_list_sort ⟨_, hoL, rfl⟩ PyProof.Rows.entry_list_sort
    (PySem.W.list_sort_vals (s := { s with heap := h'.push (seqObj "list" acc.toList.toArray 0), toks := tk }) (κ := PySem.W.dataKind (PySem.W.sortingHeap (h'.push (seqObj "list" acc.toList.toArray 0)) h'.objs.size acc.toList) (B.map (·.2))) hoL
      (PySem.W.SortsAt.data (s := { s with heap := PySem.W.sortingHeap (h'.push (seqObj "list" acc.toList.toArray 0)) h'.objs.size acc.toList, toks := tk }) (PySem.W.each_map (R := fun v d => ∃ as, Reads (PySem.W.sortingHeap (h'.push (seqObj "list" acc.toList.toArray 0)) h'.objs.size acc.toList) v d as) (fun b : Addr × PyData => b.2) er') hal hk hbd) hZ ⟨_, rfl, ?_⟩) (PyProof.Rows.args_list_sort _)))
  have eo := PySem.W.sortVals_data false e1 er' hal
  have lo := PySem.W.sortVals_length (vs := acc.toList) (κ := PySem.W.dataKind (PySem.W.sortingHeap (h'.push (seqObj "list" acc.toList.toArray 0)) h'.objs.size acc.toList) (B.map (·.2))) false rfl
  generalize PySem.W.sortVals (PySem.W.dataKind (PySem.W.sortingHeap (h'.push (seqObj "list" acc.toList.toArray 0)) h'.objs.size acc.toList) (B.map (·.2))) false acc.toList acc.toList = out at eo lo ⊢
  obtain ⟨e', he'⟩ := PyProof.Rows.sortedHeap_at (vs := acc.toList) (out := out.toArray) hoL
  have hv : Vals ((srtB B).map fun b => V.ref b.1) out := refs_vals eo
  have hlen : ((srtB B).map fun b => V.ref b.1).length ≤ sizeLine := by
    rw [hv.length, lo]
    exact hZ
  have hq := q h'.objs.size bs (I1.hok.fresh (Nat.le_refl _)) hbs
  rw [hB] at hq
  refine wpAny_pure ⟨_, rfl, .ref h'.objs.size, upd H h'.objs.size (.lst ((srtB B).map fun b => V.ref b.1)), I1.laid (t' := tk) (fun b u e => ?_) (Nat.le_refl _) ⟨hlen, out, e', hv, he'⟩, rfl, hq⟩
  have hb : b < h'.objs.size := Heap.lt_size e
  rw [PyProof.Rows.sortedHeap_old (Nat.ne_of_lt hb) (by rw [size_push']; exact Nat.lt_succ_of_lt hb)]
  exact Heap.get?_push_of_some _ e
end Wp

namespace Wp
open PySem PySem.Spec PyProof.Rows L2 TyNe ItX

/-! ### iter(d.values()) as an object; for x in o: o of an own class whose __iter__ hands it out. The dict is locked, its keys are tuples. -/
/-- the values of the locked dict at d -/
def Itv (d : Addr) (o : Obj) (kvs : List (List Key × V)) : It :=
  ⟨fun i H => H d = some (.frz o (.dT kvs)) ∧ i < kvs.length, fun i H x H' => H' = H ∧ ∃ k, kvs[i]? = some (k, x), fun i H => H d = some (.frz o (.dT kvs)) ∧ kvs.length ≤ i⟩
theorem walk_vals {d : Addr} {o : Obj} {kvs : List (List Key × V)} : Walk (Itv d o kvs) kvs.length (fun H => H d = some (.frz o (.dT kvs))) (fun i H x H' => H' = H ∧ ∃ k, kvs[i]? = some (k, x)) :=
  ⟨fun _ _ hi q => ⟨q, hi⟩, fun _ q => ⟨q, Nat.le_refl _⟩, fun _ _ _ _ _ _ y => y⟩
theorem frzTv {X : Cx} {pins : List (Addr × Obj)} {σ : L2.St} {H : Hp} {s : Shared} {d : Addr} {o : Obj} {kvs : List (List Key × V)} (I : Inv X pins σ H s) (h : H d = some (.frz o (.dT kvs))) :
    (d == sysModules) = false ∧ s.heap.get? d = some o ∧ o.ExactDict ∧ ∃ (es : Array DictEntry) (ep : Nat), o.data = .dict es ep ∧ es.size = kvs.length ∧
      ∀ (i : Nat) (k : List Key) (v : V), kvs[i]? = some (k, v) → ∃ (en : DictEntry), es[i]? = some en ∧ RelV v en.val := by
  obtain ⟨hd, z, hs, xs, pr, o', es, ep, ho, hx, hdt, he, _⟩ := I.hok d _ h
  rw [hd] at ho
  cases ho
  refine ⟨hs, hd, hx, es, ep, hdt, ?_, fun i k v e => ?_⟩
  · have l1 : es.size = xs.length := size_of_entries he
    have l2 : kvs.length = xs.length := Paired.length pr
    omega
  · obtain ⟨b, hb, e1, e2, e3⟩ := paired_get pr e
    have q := entry_at he i
    rw [hb] at q
    exact ⟨_, q, e3⟩
theorem turn_vals2 {P : Program} {w : World} {K : PySem.W.Frag} {tg : Expr} {d : Addr} {o : Obj} {kvs : List (List Key × V)} (it : Addr) {es : Array DictEntry} {ep : Nat} (hod : o.data = .dict es ep) :
    Turn P w K tg (Itv d o kvs) [it] it (fun i h => h.get? it = some (DVw.valOb d i es.size ep)) where
  mem := by simp
  obj := fun i h st b hb => by
    have e : b = it := by simpa using hb
    subst e
    exact ⟨_, st, fun v z => nomatch z⟩
  keep := fun i h h' st k => k it (by simp) _ st
  item := by
    intro X hP hw hK hc i pins s σ H E I hf st hg
    subst hP hw hK
    obtain ⟨hd, hi⟩ := hg
    obtain ⟨f0, f1, f2, f3, f4, f5⟩ := hf it (by simp)
    obtain ⟨hs, hgd, hx, es', ep', hdt, hsz, ent⟩ := frzTv I hd
    obtain ⟨rfl, rfl⟩ := dict_ep hod hdt
    obtain ⟨⟨k, v⟩, hkv⟩ : ∃ p, kvs[i]? = some p := ⟨kvs[i], List.getElem?_eq_getElem hi⟩
    obtain ⟨en, hen, hv⟩ := ent i k v hkv
    refine DVw.val_item st hgd hdt rfl hen fun h' st' sb => ?_
    have I1 : Inv X pins σ H { s with heap := h' } := I.turned (t' := s.toks) (fun b ob hb e => (sb.2 b hb).trans e) f0 f1 f3 f4 f5
    exact ⟨en.val, rfl, go_of (s := { s with heap := h' }) st' rfl rfl (by decide) ⟨v, H, I1, hv, ⟨rfl, k, hkv⟩, st', fun b hb => (hf b hb).1⟩⟩
  done := by
    intro X hP hw hK hc i pins s σ H E I hf st hg
    subst hP hw hK
    obtain ⟨hd, hi⟩ := hg
    obtain ⟨f0, f1, f2, f3, f4, f5⟩ := hf it (by simp)
    obtain ⟨hs, hgd, hx, es', ep', hdt, hsz, ent⟩ := frzTv I hd
    obtain ⟨rfl, rfl⟩ := dict_ep hod hdt
    exact DVw.val_end (I.ok.hd hc) st hgd hdt rfl (Array.getElem?_eq_none (by omega)) fun h' eb => ⟨rfl, I.turned (t' := s.toks) (fun b ob hb e => eb b ob hb e) f0 f1 f3 f4 f5⟩
  self := fun A i s Q E st h => wpAny_pyIter_valiter (i := i) (n := es.size) (ep := ep) (d := d) ⟨_, st, rfl, rfl⟩ h

/-- d.values(), the dict locked: a view -/
def tDValsT (t : TE) : TE := fun σ H Q => t σ H fun x H1 => ∃ d o kvs, x = .ref d ∧ H1 d = some (.frz o (.dT kvs)) ∧ ∀ p, H1 p = none → Q (.ref p) (upd H1 p (viewO "dict_values" p d))
/-- the iterator over the values of d -/
def VItO (d : Addr) (o : Obj) (it : Addr) : HO := .ext fun h => ∃ es ep, o.data = .dict es ep ∧ h.get? it = some (DVw.valOb d 0 es.size ep)
theorem vit_ok {P : Program} {w : World} {H : Hp} {h : Heap} {d it : Addr} {o : Obj} {es : Array DictEntry} {ep : Nat} (hod : o.data = .dict es ep) (e : h.get? it = some (DVw.valOb d 0 es.size ep)) : ObjOk P w H h it (VItO d o it) :=
  ⟨⟨es, ep, hod, e⟩, ⟨_, e⟩, fun h1 h2 ⟨es1, ep1, q0, q⟩ k => ⟨es1, ep1, q0, k _ q⟩⟩
def rIterVT (n : Nat) : List V → Hp → VK → Prop := fun xs H Q => ∃ (p d : Addr) (o : Obj) (kvs : List (List Key × V)), xs = [.ref p] ∧ H p = some (viewO "dict_values" p d) ∧ H d = some (.frz o (.dT kvs)) ∧ ∀ it, H it = none → n ≤ it → Q (.ref it) (upd H it (VItO d o it))
section
variable {X : Cx}
theorem pe_dvalsT {e : Expr} {t : TE} {apos cpos : Pos} (he : PE X e t) (hbase : attributeBase e "values" X.env (eval e X.env) = eval e X.env := by rfl) (hline : (apos.endLine == cpos.line) = true := by rfl) :
    PE X (.Call (.Attribute e "values" apos) [] [] cpos) (tDValsT t) := by
  refine ⟨fun pins s σ H Q I h => ?_⟩
  refine wpAny_Call_method (T := "dict") (id := "dict.values") hbase rfl hline F.plainAttrs_dict F.slot_dict_values F.type_dict_values (thn (he.run pins s σ H _ I h) fun u s1 ⟨x, H1, I1, rx, d, o, kvs, ex, hd, q⟩ => ?_)
  subst ex
  obtain rfl : u = Value.ref d := rx
  obtain ⟨hs, hgd, hx, es, ep, hdt, hsz, ent⟩ := frzTv I1 hd
  have ht : s1.TypeIs (.ref d) "dict" := ⟨o, hgd, hx.1⟩
  refine ⟨ht, fun a ea => ⟨o, by cases ea; exact hgd, hx.2.1⟩, ?_⟩
  show wpAny _ _ (callWith cpos (.builtin "dict.values") [.ref d] [] []) _ X.xe s1
  refine method_meetsIn F.slot_dict_values F.entry_dict_values rfl (PySem.evalArgs_none ⟨rfl, ht, F.args_dict_values_1 _, _, meets_dict_values_raw d hs, ⟨es, ep, o, hgd, hx, hdt⟩, ?_⟩)
  exact ⟨.ref s1.heap.objs.size, _, I1.laid (t' := s1.toks) (fun b o q => Heap.get?_push_of_some _ q) (Nat.le_refl _) (viewO_ok (Heap.get?_push_size _ rfl)), rfl, q _ (I1.hok.fresh (Nat.le_refl _))⟩
theorem call_iterVT : CallR X (.builtin "iter") (rIterVT X.s_0.heap.objs.size) := by
  intro pins s σ H xs us Q I r h
  obtain ⟨p, d, o, kvs, rfl, hp, hd, q⟩ := h
  obtain ⟨u, rfl, ru⟩ := vals1 r
  cases ru
  obtain ⟨hs, hgd, hx, es, ep, hdt, hsz, ent⟩ := frzTv I hd
  have hv : s.heap.get? p = some (DSub.viewOb "dict_values" d) := (show ObjOk X.prog X.w H s.heap p (viewO "dict_values" p d) from I.hok p _ hp).1
  refine Calls.call_function_entry (by decide +kernel) (by decide +kernel) PySem.W.kdk_entry_iter (PySem.W.kdk_args_iter _) ?_
  unfold Builtin.«iter»
  refine wpAny_bind (m := someArgs "iter" 1 2 _) (wpAny_of_eq (a := [Value.ref p]) (by first | rfl | kernel_rfl!) ?_)
  show wpAny _ _ (pyIter (.ref p) >>= _) _ _ _
  refine wpAny_bind (DSub.iter_vals hv hgd hdt ?_)
  refine wpAny_pure ⟨_, rfl, ?_⟩
  exact ⟨.ref s.heap.objs.size, _, I.laid (t' := s.toks) (fun b u e => Heap.get?_push_of_some _ e) (Nat.le_refl _) (vit_ok hdt (Heap.get?_push_size _ rfl)), rfl, q _ (I.hok.fresh (Nat.le_refl _)) I.sz⟩
end
def iOwnV (C : Addr) (n : Nat) (K : PySem.W.Frag) (sp : Nat → Sp) (te : TE) : TI := fun σ H R => te σ H fun x H1 => ∃ a dx fs, x = .ref a ∧ H1 a = some (.ins C dx fs) ∧ ∀ z, n ≤ z → sp z [.ref a] H1 (fun v H2 => ∃ it d o kvs, v = .ref it ∧ H2 it = some (VItO d o it) ∧ n ≤ it ∧ R (Itv d o kvs) (dropH H2 it)) C8.E0
section
variable {X : Cx} {k j : Nat} {C : Addr} {sp : Nat → Sp} {tg e : Expr} {te : TE}
theorem pi_ownV (c : MetN X.prog X.w X.K X.mg X.base k C "__iter__" sp) (hr : Room j X.A) (hk : k ≤ j) (he : PE X e te) : PI X tg e (iOwnV C X.s_0.heap.objs.size X.K sp te) := by
  refine ⟨fun pins s σ H R I h => ?_⟩
  refine thn (he.run pins s σ H _ I h) fun u s1 ⟨x, H1, I1, rx, a, dx, fs, ex, ha, q⟩ => ?_
  subst ex
  obtain rfl : u = .ref a := rx
  obtain ⟨f, hm, F⟩ := c.ex
  obtain ⟨mA, J, _⟩ := ins_get I1.hok ha
  obtain ⟨od, J, _⟩ := J.look
  obtain ⟨m, hF⟩ := I1.fr
  refine PySem.W.owit_iter hF I1.ok.mod.kin J hm.at_ hm.fn ?_
  have r2 : Vals [V.ref a] [Value.ref a] := .cons rfl .nil
  refine wpAny_call (codeAny_mono (F X.A X.stack s1 H1 [.ref a] [.ref a] _ C8.E0 (hr.mono hk) I1.env0 r2 (q _ I1.sz)) fun r s' hq => ?_)
  cases r with
  | error e => exact C8.pass0 (E := C8.E0) pins σ H1 s1 e s' I1 hq
  | ok fl =>
    cases fl with
    | ret u =>
      obtain ⟨v, H', I', rv, it, d, o, kvs, rfl, hi, hn, q'⟩ := I1.after hq
      obtain rfl : u = .ref it := rv
      have okv : ObjOk X.prog X.w H' s'.heap it (VItO d o it) := I'.hok it _ hi
      obtain ⟨⟨es, ep, hod, eo⟩, _⟩ := okv
      have st : s'.heap.get? it = some (DVw.valOb d 0 es.size ep) := eo
      have hi' := hi
      unfold VItO at hi'
      refine wpAny_specialOf (name := Str.ofString "__next__") ⟨_, eo, rfl⟩ PySem.F.slot_dict_valueiterator_next.lookup ?_
      refine ⟨it, [it], _, _, dropH H' it, rfl, inv_drop I' hi', turn_vals2 it hod, st, fun b hb => ?_, q'⟩
      have e : b = it := by simpa using hb
      rw [e]
      exact inv_fp I' hi hn
    | next => exact False.elim hq
    | brk => exact False.elim hq
    | cont => exact False.elim hq
end
end Wp

namespace T
open PySem PySem.Spec PyProof.Rows L2 TyNe Wp
local macro_rules | `(tactic| walk_at "ne") => `(tactic| first
  | assumption
  | (refine Ne.symm ?_; assumption)
  | exact ne_of_none (by assumption) (by assumption)
  | exact (ne_of_none (by assumption) (by assumption)).symm
  | exact Stm.ne (by assumption) (by assumption)
  | exact (Stm.ne (by assumption) (by assumption)).symm)
local macro_rules | `(tactic| walk_at "hp") => `(tactic| first
  | assumption
  | exact upd_same
  | (rw [upd_ne (by walk_at "ne")]; walk_at "hp")
  | (refine Same.get (by assumption) ?_; walk_at "hp")
  | (refine Kp.get (by assumption) ?_ ?_ <;> first | (walk_at "hp"; done) | (walk_at "ne"; done)))
local macro_rules | `(tactic| walk_at "sq") => `(tactic| first
  | assumption
  | exact TupK.sq (by assumption)
  | exact SqL.of (by walk_at "hp")
  | exact SqT.of (by walk_at "hp"))
local macro_rules | `(tactic| walk_at "ar") => `(tactic| first
  | assumption | rfl | omega | decide)
/-- one step of a reading -/
local macro_rules | `(tactic| walk_at "w1") => `(tactic| first
  | with_reducible refine w_seq ?_
  | with_reducible refine w_asg ?_
  | ((with_reducible show tVar _ _ _ _); refine w_var rfl ?_)
  | with_reducible refine w_c ?_
  | with_reducible refine w_name ?_
  | with_reducible refine w_op ?_
  | with_reducible refine w_un ?_
  | with_reducible refine w_cons ?_
  | with_reducible refine w_nil ?_
  | with_reducible refine w_call ?_
  | with_reducible refine w_cb ?_
  | with_reducible refine w_ret ?_
  | with_reducible refine w_retN ?_
  | with_reducible refine w_ifS ?_
  | with_reducible refine w_test ?_
  | with_reducible refine w_B ?_
  | with_reducible refine w_exb ?_
  | with_reducible refine w_exi ?_
  | with_reducible refine w_next ?_
  | with_reducible refine w_drop ?_
  | with_reducible refine w_and ?_
  | with_reducible refine w_or ?_
  | with_reducible refine w_not ?_
  | with_reducible refine w_andV ?_
  | with_reducible refine w_orV ?_
  | with_reducible refine w_notV ?_
  | with_reducible refine w_if ?_
  | with_reducible refine w_chain ?_
  | with_reducible refine w_sub ?_
  | with_reducible refine w_tup ?_
  | with_reducible refine w_lst ?_
  | with_reducible refine w_sl ?_
  | with_reducible refine w_noPart ?_
  | with_reducible refine w_part ?_
  | with_reducible refine w_I0 ?_
  | ((with_reducible refine w_I ?c ?_); (case c => first | exact .inr (by decide) | exact .inl (by decide) | exact (show (0 : Int) < _ by omega) | exact cmul_l (by omega) (by omega) | exact cmul_r (by omega) (by omega) | exact And.intro (by omega) (by omega) | exact And.intro (by decide) (And.intro (by decide) (by decide))))
  | with_reducible refine w_U ?_
  | with_reducible refine w_eqI ?_
  | with_reducible refine w_neI ?_
  | with_reducible refine w_eqS ?_
  | with_reducible refine w_neS ?_
  | with_reducible refine w_eqB ?_
  | with_reducible refine w_inSign ?_
  | with_reducible refine w_ninSign ?_
  | with_reducible refine w_isBl ?_
  | with_reducible refine w_int1 ?_
  | with_reducible refine w_int1b ?_
  | with_reducible refine w_max2 ?_
  | with_reducible refine w_bm ?_
  | with_reducible refine w_lc ?_
  | with_reducible refine w_iList ?_
  | with_reducible refine w_iTup ?_
  | with_reducible refine w_iStr ?_
  | with_reducible refine w_exs ?_
  | with_reducible refine w_isN ?_
  | with_reducible refine w_notN ?_
  | ((with_reducible show tyV _ "str" (.str _) _ ∧ _); refine And.intro rfl ?_)
  | ((with_reducible show tyV _ "list" (.ref _) _ ∧ _); refine w_tyL (by walk_at "hp") ?_)
  | with_reducible refine w_min2 ?_
  | ((with_reducible show rIxL _ (.ref _) (.int _) _ _); refine w_ixL (by walk_at "sq") (by first | exact rfl | exact atI_nat (j := 0) rfl | exact atI_nat (j := 1) rfl | exact atI_nat (j := 2) rfl) ?_)
  | ((with_reducible show rIxT _ (.ref _) (.int _) _ _); refine w_ixT (by walk_at "sq") (by first | exact rfl | exact atI_nat (j := 0) rfl | exact atI_nat (j := 1) rfl | exact atI_nat (j := 2) rfl) ?_)
  | ((with_reducible show rSetL (.ref _) (.int _) _ _ _); refine w_setL (by walk_at "hp") (by exact rfl) ?_)
  | ((with_reducible show qLenSeq _ [.ref _] _ _); first | refine w_lenL (by walk_at "sq") ?_ | refine w_lenT (by walk_at "sq") ?_)
  | with_reducible refine w_nf ?_
  | with_reducible refine w_nt ?_
  | with_reducible refine iteT ?_
  | with_reducible refine iteF ?_
  | ((with_reducible refine w_len0 ?h ?_); (case h => exact sz (by simp))))
local macro_rules | `(tactic| walk_at "w") => `(tactic| repeat (walk_at "w1"))
local macro_rules | `(tactic| walk_at "if") => `(tactic| first
  | (with_reducible refine w_ite ?_ ?_) | (with_reducible refine w_iteN ?_ ?_) | (with_reducible refine w_iteb ?_ ?_))
/-- the same, new objects as heaps of their own -/
local macro_rules | `(tactic| walk_at "v1") => `(tactic| first
  | with_reducible refine w_tupV ?_
  | with_reducible refine w_lstV ?_
  | with_reducible refine w_jcons ?_
  | with_reducible refine w_jnil ?_
  | with_reducible refine w_fmt ?_
  | with_reducible refine w_js ?_
  | with_reducible refine w_zipM ?_
  | ((with_reducible refine w_dec1 (by decide) ?_))
  | ((with_reducible refine w_dec0 (by decide) ?_))
  | ((with_reducible show qJoin _ (.str _) [.ref _] _ _); first | refine w_joinL (by walk_at "sq") ?_ ?_ | refine w_joinT (by walk_at "sq") ?_ ?_)
  | with_reducible refine w_count ?_
  | ((with_reducible show rIn _ _ (.str _) (.ref _) _ _); first | refine w_inTb (b := true) (by walk_at "sq") rfl rfl (by decide +kernel) ?_ | refine w_inTb (b := false) (by walk_at "sq") rfl rfl (by decide +kernel) ?_ | refine w_inLb (b := true) (by walk_at "sq") rfl rfl (by decide +kernel) ?_ | refine w_inLb (b := false) (by walk_at "sq") rfl rfl (by decide +kernel) ?_)
  | walk_at "w1")
local macro_rules | `(tactic| walk_at "v") => `(tactic| repeat (walk_at "v1"))
local macro_rules | `(tactic| walk_at "dn") => `(tactic| first
  | assumption
  | (refine Dn.same ?_ (by assumption); walk_at "dn")
  | (refine Dn.kp ?_ (by assumption); walk_at "dn")
  | (refine Dn.any ?_; walk_at "dn"))
local macro_rules | `(tactic| walk_at "ln") => `(tactic| first
  | decide
  | omega
  | (simp only [List.length_append, List.length_map, List.length_cons, List.length_nil]; omega))
/-- the same, new objects without names, sums of texts, numbers as texts, append -/
local macro_rules | `(tactic| walk_at "z1") => `(tactic| first
  | ((with_reducible refine w_new ?_); intro _ _ _ _ _)
  | ((with_reducible show rAppend (.ref _) [_] _ _); refine w_appV (by walk_at "hp") (by walk_at "ln") ?_; intro _ _ _)
  | ((with_reducible show qAddS (.str _) (.str _) _ _); refine w_addS (sz (by simp only [Str.length_append]; omega)) ?_)
  | ((with_reducible show qStrInt [.int _] _ _); refine w_strInt (by omega) (by omega) ?_)
  | walk_at "v1")
local macro_rules | `(tactic| walk_at "z") => `(tactic| repeat (walk_at "z1"))
/-- statements alone, up to the first expression -/
local macro_rules | `(tactic| walk_at "s") => `(tactic| repeat (first
  | with_reducible refine w_seq ?_
  | with_reducible refine w_asg ?_
  | with_reducible refine w_name ?_
  | with_reducible refine w_next ?_
  | with_reducible refine w_c ?_
  | with_reducible refine w_ret ?_
  | with_reducible refine w_drop ?_
  | with_reducible refine w_ifS ?_
  | with_reducible refine w_test ?_))
/-- the same, and not into a test -/
local macro_rules | `(tactic| walk_at "b") => `(tactic| repeat (first
  | with_reducible refine w_seq ?_
  | with_reducible refine w_asg ?_
  | with_reducible refine w_name ?_
  | with_reducible refine w_next ?_
  | with_reducible refine w_c ?_
  | with_reducible refine w_ret ?_
  | with_reducible refine w_drop ?_))

/-- what is known of the class Item at C -/
structure IsC_Item (K : PySem.W.Frag) (C : Addr) : Prop where
  cl : Cls K C
  n_author : NoAttr K C "author"
  n_text : NoAttr K C "text"
  n_parent : NoAttr K C "parent"
  n_edits : NoAttr K C "edits"
  n_recalled : NoAttr K C "recalled"
  n_ref : NoAttr K C "_ref"
  n_names : NoAttr K C "_names"
/-- what is known of the class Board at C -/
structure IsC_Board (K : PySem.W.Frag) (C : Addr) : Prop where
  cl : Cls K C
  n_title : NoAttr K C "title"
  n_founder : NoAttr K C "founder"
  n_items : NoAttr K C "_items"
  n_notices : NoAttr K C "_notices"
/-- what is known of the class Letter at C -/
structure IsC_Letter (K : PySem.W.Frag) (C : Addr) : Prop where
  cl : Cls K C
  n_author : NoAttr K C "author"
  n_number : NoAttr K C "number"
  n_stamp : NoAttr K C "stamp"
  n_seen : NoAttr K C "seen"
  n_body : NoAttr K C "body"
  n_counts : NoAttr K C "_counts"
/-! ### the defs of the stream of draws -/
def spCell (K : PySem.W.Frag) : Sp := fun vs H Q _ => ∃ (a : Addr) (ns : List Int) (k : Int), vs = [.ref a, .int k] ∧ SqL K H a (ns.map V.int) ∧ 0 ≤ k ∧ ∀ z, Q (.int z) H
def spStream (K : PySem.W.Frag) : Sp := fun vs H Q _ => ∃ (c k : Int), vs = [.int c, .int k] ∧ ∀ p H', H p = none → Same H H' → Stm H' p → Q (.ref p) H'
def spNext (K : PySem.W.Frag) : Sp := fun vs H Q _ => ∃ (p : Addr) (n : Int), vs = [.ref p, .int n] ∧ Stm H p ∧ 0 < n ∧ n < 1073741824 ∧ ∀ v H', Kp p H H' → Stm H' p → 0 ≤ v → v < n → Q (.int v) H'
def spFlag (K : PySem.W.Frag) : Sp := fun vs H Q _ => ∃ (a b : Bool), vs = [.bl a, .bl b] ∧ Q (.bl (decide (a = b))) H
section
variable {K : PySem.W.Frag} {vs : List V} {H : Hp} {Q : VK} {E : XK}
/-- _law_stream: slots 0:cell 1:k 2:digits -/
def t__law_stream (K : PySem.W.Frag) : TS := (tSeq (tAsg (tC (.int 0)) (gName 2))
  (tSeq (tIfS (tTest (tOp qGe (tVar 0) (tOp qPow (tC (.int 10)) (tC (.int 18))))) (tAsg (tVar 0) (gName 2)) tNext)
  (tRet (tLst (tCons (tVar 2) (tCons (tOp qMod (tCB qInt1 (tCons (tOp qAdd (tOp qAdd (tOp qMul (tVar 0) (tC (.int 48271))) (tOp qMul (tVar 1) (tC (.int 69621)))) (tC (.int 77))) tNil)) (tC (.int 2147483647))) tNil))))))
theorem l__law_stream (h : spStream K vs H Q E) : vs.length = 2 := by obtain ⟨c, k, rfl, _⟩ := h; rfl
theorem r__law_stream (h : spStream K vs H Q E) : t__law_stream K { nx := fun _ H' => Q .non H', rt := Q } (start ["cell", "k", "digits"] vs) H := by
  obtain ⟨c, k, rfl, q⟩ := h
  unfold t__law_stream
  walk_at "w"
  refine w_ite (fun hc => ?_) (fun hc => ?_)
  · walk_at "w"
    intro p hp
    refine q p _ hp (Same.upd (Same.refl H) hp) ⟨_, _, upd_same, ?_, Int.emod_nonneg _ (by decide)⟩
    have e : (10 : Int) ^ (18 : Int).toNat = 1000000000000000000 := by decide
    omega
  · walk_at "w"
    intro p hp
    exact q p _ hp (Same.upd (Same.refl H) hp) ⟨_, _, upd_same, by decide, Int.emod_nonneg _ (by decide)⟩
/-- _law_next: slots 0:stream 1:size 2:drawn -/
def t__law_next (K : PySem.W.Frag) : TS := (tSeq (tIfS (tTest (tOp qGt (tOp (rIxL K) (tVar 0) (tC (.int 0))) (tC (.int 0)))) (tSeq (tAsg (tOp qMod (tCB qInt1 (tCons (tOp (rIxL K) (tVar 0) (tC (.int 0))) tNil)) (tVar 1)) (gName 2))
  (tSeq (tAsg (tOp qFdiv (tOp (rIxL K) (tVar 0) (tC (.int 0))) (tVar 1)) (gSub (tVar 0) (tC (.int 0)) rSetL))
  (tRet (tVar 2)))) tNext)
  (tSeq (tAsg (tOp qMod (tCB qInt1 (tCons (tOp qAdd (tOp qMul (tOp (rIxL K) (tVar 0) (tC (.int 1))) (tC (.int 48271))) (tC (.int 12820163))) tNil)) (tC (.int 2147483647))) (gSub (tVar 0) (tC (.int 1)) rSetL))
  (tRet (tOp qMod (tCB qInt1 (tCons (tOp qFdiv (tOp qMod (tCB qInt1 (tCons (tOp qAdd (tOp qMul (tOp (rIxL K) (tVar 0) (tC (.int 1))) (tC (.int 16807))) (tC (.int 5))) tNil)) (tC (.int 2147483399))) (tC (.int 3))) tNil)) (tVar 1)))))
theorem l__law_next (h : spNext K vs H Q E) : vs.length = 2 := by obtain ⟨c, k, rfl, _⟩ := h; rfl
theorem r__law_next (h : spNext K vs H Q E) : t__law_next K { nx := fun _ H' => Q .non H', rt := Q } (start ["stream", "size", "drawn"] vs) H := by
  obtain ⟨p, n, rfl, ⟨a, b, hp, h0, h1⟩, hn, hm, q⟩ := h
  unfold t__law_next
  walk_at "w"
  refine w_ite (fun hc => ?_) (fun hc => ?_)
  · walk_at "w"
    exact q _ _ (Kp.updp Kp.refl) ⟨_, _, upd_same, Int.ediv_nonneg h0 (by omega), h1⟩ (Int.emod_nonneg _ (Int.ne_of_gt hn)) (Int.emod_lt_of_pos _ hn)
  · walk_at "w"
    exact q _ _ (Kp.updp Kp.refl) ⟨_, _, upd_same, h0, Int.emod_nonneg _ (by decide)⟩ (Int.emod_nonneg _ (Int.ne_of_gt hn)) (Int.emod_lt_of_pos _ hn)
/-- _law_flag: slots 0:actual 1:due -/
def t__law_flag (K : PySem.W.Frag) : TS := (tRet (tAndV (tCB (rIsi K) (tCons (tVar 0) (tCons (tC (.ty "bool")) tNil))) (tOp rEq (tVar 0) (tVar 1))))
theorem l__law_flag (h : spFlag K vs H Q E) : vs.length = 2 := by obtain ⟨c, k, rfl, _⟩ := h; rfl
theorem r__law_flag (h : spFlag K vs H Q E) : t__law_flag K { nx := fun _ H' => Q .non H', rt := Q } (start ["actual", "due"] vs) H := by
  obtain ⟨a, b, rfl, q⟩ := h
  unfold t__law_flag
  walk_at "w"
  refine w_isi (.base (.bl a)) (kit_ty (b := "bool") (r := true) (by decide +kernel)) ?_
  walk_at "w"
  exact q
end

/-! ### draws inside expressions -/
section
variable {K : PySem.W.Frag} {σ : L2.St} {H : Hp} {p : Addr} {P : PyData → Prop} {R : List PyData → Prop} {ta : TA}
theorem evs_next {i : Nat} {n : Int} (hi : σ[i]? = some (some (.ref p))) (h0 : 0 < n) (h1 : n < 1073741824) : EvS p (tCall (spNext K) [] C8.E0 (tCons (tVar i) (tCons (tC (.int n)) tNil))) σ H (fun d => ∃ v : Int, d = .int v ∧ 0 ≤ v ∧ v < n) := fun H1 k s Q q =>
  ⟨.ref p, hi, p, n, rfl, s, h0, h1, fun v H2 k2 s2 a b => q (.int v) (.int v) H2 k2 s2 ⟨v, rfl, a, b⟩ (.int v)⟩
/-- (a, b, ..)[draw] -/
theorem evs_pickT {i : Nat} {n : Int} (ha : EvSs p ta σ H R) (hi : σ[i]? = some (some (.ref p))) (h0 : 0 < n) (h1 : n ≤ 1000) (hR : ∀ ds, R ds → (ds.length : Int) = n ∧ ∀ d ∈ ds, P d) :
    EvS p (tOp (rIxT K) (tTup ta) (tCall (spNext K) [] C8.E0 (tCons (tVar i) (tCons (tC (.int n)) tNil)))) σ H P := fun H1 k s Q q =>
  evs_tup (P := fun d => ∃ ds, d = .tuple ds ∧ R ds) ha (fun ds r => ⟨by have := (hR ds r).1; omega, ds, rfl, r⟩) H1 k s _ fun v d H2 k2 s2 hd dn => by
    obtain ⟨ds, rfl, r⟩ := hd
    cases dn with
    | @tup a xs _ hap h hs =>
      refine evs_next hi h0 (by omega) H2 (k.trans k2) s2 _ fun v d H3 k3 s3 hv dv => ?_
      obtain ⟨j, rfl, j0, j1⟩ := hv
      cases dv
      have hl := hs.len
      have hn := (hR ds r).1
      have hj : j.toNat < xs.length := by omega
      obtain ⟨d, hd, dn⟩ := hs.get (List.getElem?_eq_getElem hj)
      refine w_ixT (SqT.of (k3 _ _ hap h)) (atI_of j0 (List.getElem?_eq_getElem hj)) (q _ d H3 (k2.trans k3) s3 ((hR ds r).2 d (List.mem_of_getElem? hd)) (dn.kp k3))
/-- [a, b, ..][draw] -/
theorem evs_pickL {i : Nat} {n : Int} (ha : EvSs p ta σ H R) (hi : σ[i]? = some (some (.ref p))) (h0 : 0 < n) (h1 : n ≤ 1000) (hR : ∀ ds, R ds → (ds.length : Int) = n ∧ ∀ d ∈ ds, P d) :
    EvS p (tOp (rIxL K) (tLst ta) (tCall (spNext K) [] C8.E0 (tCons (tVar i) (tCons (tC (.int n)) tNil)))) σ H P := fun H1 k s Q q =>
  evs_lst (P := fun d => ∃ ds, d = .list ds ∧ R ds) ha (fun ds r => ⟨by have := (hR ds r).1; omega, ds, rfl, r⟩) H1 k s _ fun v d H2 k2 s2 hd dn => by
    obtain ⟨ds, rfl, r⟩ := hd
    cases dn with
    | @lst a xs _ hap h hs =>
      refine evs_next hi h0 (by omega) H2 (k.trans k2) s2 _ fun v d H3 k3 s3 hv dv => ?_
      obtain ⟨j, rfl, j0, j1⟩ := hv
      cases dv
      have hl := hs.len
      have hn := (hR ds r).1
      have hj : j.toNat < xs.length := by omega
      obtain ⟨d, hd, dn⟩ := hs.get (List.getElem?_eq_getElem hj)
      refine w_ixL (SqL.of (k3 _ _ hap h)) (atI_of j0 (List.getElem?_eq_getElem hj)) (q _ d H3 (k2.trans k3) s3 ((hR ds r).2 d (List.mem_of_getElem? hd)) (dn.kp k3))
/-- all of the parts, and how many -/
def Are (P : PyData → Prop) (n : Nat) (ds : List PyData) : Prop := ds.length = n ∧ ∀ d ∈ ds, P d
theorem are_nil : EvSs p tNil σ H (Are P 0) := evss_nil ⟨rfl, fun _ h => nomatch h⟩
theorem are_cons {te : TE} {n : Nat} (h : EvS p te σ H P) (hs : EvSs p ta σ H (Are P n)) : EvSs p (tCons te ta) σ H (Are P (n + 1)) :=
  evss_cons h hs fun d r hd hr => ⟨congrArg (· + 1) hr.1, fun x hx => (List.mem_cons.mp hx).elim (fun e => e ▸ hd) (hr.2 x)⟩
theorem are_pick {n : Nat} {m : Int} (e : (n : Int) = m) : ∀ ds, Are P n ds → (ds.length : Int) = m ∧ ∀ d ∈ ds, P d := fun ds h => ⟨by rw [h.1]; exact e, h.2⟩
/-- a number drawn -/
abbrev isInt (lo hi : Int) : PyData → Prop := fun d => ∃ v : Int, d = .int v ∧ lo ≤ v ∧ v ≤ hi
theorem evs_intIn {i lo hi : Int} (h1 : lo ≤ i) (h2 : i ≤ hi) : EvS p (tC (.int i)) σ H (isInt lo hi) := evs_int ⟨i, rfl, h1, h2⟩
theorem evs_nextIn {i : Nat} {n lo hi : Int} (hi' : σ[i]? = some (some (.ref p))) (h0 : 0 < n) (h1 : n < 1073741824) (hl : lo ≤ 0) (hh : n - 1 ≤ hi) : EvS p (tCall (spNext K) [] C8.E0 (tCons (tVar i) (tCons (tC (.int n)) tNil))) σ H (isInt lo hi) :=
  (evs_next hi' h0 h1).weak fun d ⟨v, e, a, b⟩ => ⟨v, e, by omega, by omega⟩
/-- 'abc'[draw] -/
theorem w_pickS {i : Nat} {n : Int} {z : Str} {Q : VK} (hs : Stm H p) (hi : σ[i]? = some (some (.ref p))) (h0 : 0 < n) (hz : (z.length : Int) = n) (h1 : n ≤ 1000) (q : ∀ c H2, c ∈ z.cps.toList → Kp p H H2 → Stm H2 p → Q (.str ⟨#[c]⟩) H2) :
    (tOp rIxS (tC (.str z)) (tCall (spNext K) [] C8.E0 (tCons (tVar i) (tCons (tC (.int n)) tNil)))) σ H Q := by
  refine (evs_next (K := K) (H := H) hi h0 (by omega)).use hs fun v d H2 k2 s2 hv dv => ?_
  obtain ⟨j, rfl, j0, j1⟩ := hv
  cases dv
  have hl : z.length = z.cps.toList.length := by simp [Str.length]
  have hj : j.toNat < z.cps.toList.length := by omega
  exact w_ixS (Nat.le_trans (show z.length ≤ 1000 by omega) (by decide)) (atI_of j0 (List.getElem?_eq_getElem hj)) (q _ H2 (List.getElem_mem hj) k2 s2)
theorem evss_eq {te : TE} {d : PyData} {r : List PyData} (h : EvS p te σ H (· = d)) (hs : EvSs p ta σ H (· = r)) : EvSs p (tCons te ta) σ H (· = d :: r) := evss_cons h hs fun _ _ a b => by rw [a, b]
theorem evss_eq0 : EvSs p tNil σ H (· = []) := evss_nil rfl
theorem evs_tupE {ds : List PyData} (h : EvSs p ta σ H (· = ds)) (hp : P (.tuple ds)) (hl : ds.length ≤ 100000 := by simp) : EvS p (tTup ta) σ H P := evs_tup h fun _ e => e ▸ ⟨hl, hp⟩
theorem evs_lstE {ds : List PyData} (h : EvSs p ta σ H (· = ds)) (hp : P (.list ds)) (hl : ds.length ≤ 100000 := by simp) : EvS p (tLst ta) σ H P := evs_lst h fun _ e => e ▸ ⟨hl, hp⟩
end

/-! ### further steps -/
local macro_rules | `(tactic| walk_at "case") => `(tactic| dsimp only [Bd.kind, Bd.text, Bd.rest, Bd.toD])
local macro_rules | `(tactic| walk_at "z1") => `(tactic| ((with_reducible show qAddS (.str _) (.str _) _ _); refine w_addS (sz (by first | omega | (simp only [Str.length_append]; omega))) ?_))
local macro_rules | `(tactic| walk_at "z1") => `(tactic| ((with_reducible show qJoin _ (.str _) [.ref _] _ _); first | refine w_joinT (by walk_at "sq") (by assumption) ?_ | refine w_joinL (by walk_at "sq") (by assumption) ?_))
/-- what stands off an address still stands -/
local macro_rules | `(tactic| walk_at "kp") => `(tactic| first
  | assumption
  | exact Kp.refl
  | (refine Kp.trans ?_ (by assumption); walk_at "kp")
  | (refine Kp.trans ?_ (Same.kp (by assumption)); walk_at "kp"))
local macro_rules | `(tactic| walk_at "fin") => `(tactic| first
  | (walk_at "hp"; done)
  | (refine Eq.trans (by walk_at "hp") ?_; first | rfl | (simp only [List.map_cons, List.map_nil, List.append_nil, List.append_assoc, List.cons_append, List.nil_append]; rfl)))
local macro_rules | `(tactic| walk_at "ln") => `(tactic| exact Nat.le_of_ble_eq_true rfl)

/-! ### == of data -/
mutual
def noDict : PyData → Bool
  | .dict _ => false
  | .list ds => noDicts ds
  | .tuple ds => noDicts ds
  | _ => true
def noDicts : List PyData → Bool
  | [] => true
  | d :: ds => noDict d && noDicts ds
end
section
variable {K : PySem.W.Frag} {ok : Addr → Prop} {H : Hp} {Q : VK}
mutual
theorem dn_dp {v : V} {d : PyData} (n : noDict d = true) : Dn ok H v d → Dp K H v d
  | .non => .non
  | .bl b => .bl b
  | .int i => .int i
  | .str x => .str x
  | .lst _ h hs => .lst (SqL.of h) (dnall_dp n hs)
  | .tup _ h hs => .tup (SqT.of h) (dnall_dp n hs)
  | .dic _ h => absurd n (by simp [noDict])
theorem dnall_dp {vs : List V} {ds : List PyData} (n : noDicts ds = true) : DnAll ok H vs ds → DpAll K H vs ds
  | .nil => .nil
  | .cons h hs => .cons (dn_dp (Bool.and_eq_true_iff.mp n).1 h) (dnall_dp (Bool.and_eq_true_iff.mp n).2 hs)
end
mutual
theorem noDict_of_lay : ∀ {d : PyData}, d.canLay0 = true → noDict d = true
  | .none, _ => rfl
  | .bool _, _ => rfl
  | .int _, _ => rfl
  | .str _, _ => rfl
  | .list ds, h => noDicts_of_lay (ds := ds) (by rw [PyData.canLay0] at h; exact h)
  | .tuple ds, h => noDicts_of_lay (ds := ds) (by rw [PyData.canLay0] at h; exact h)
  | .dict _, h => by rw [PyData.canLay0] at h; exact nomatch h
theorem noDicts_of_lay : ∀ {ds : List PyData}, PyData.canLayAll0 ds = true → noDicts ds = true
  | [], _ => rfl
  | d :: ds, h => by
    rw [PyData.canLayAll0, Bool.and_eq_true] at h
    show (noDict d && noDicts ds) = true
    rw [noDict_of_lay h.1, noDicts_of_lay h.2]
    rfl
end
theorem w_eqD {x y : V} {d e : PyData} {ok2 : Addr → Prop} (h : Dn ok H x d) (h2 : Dn ok2 H y e) (s : SeqAt.shaped d = true) (s2 : SeqAt.shaped e = true) (q : Q (.bl (PyData.eqv d e)) H) : rEqD K x y H Q :=
  ⟨d, e, dn_dp (noDict_of_lay (SeqAt.canLay_of_shaped s)) h, dn_dp (noDict_of_lay (SeqAt.canLay_of_shaped s2)) h2, s, s2, q⟩
theorem w_neD {x y : V} {d e : PyData} {ok2 : Addr → Prop} (h : Dn ok H x d) (h2 : Dn ok2 H y e) (s : SeqAt.shaped d = true) (s2 : SeqAt.shaped e = true) (q : Q (.bl (!PyData.eqv d e)) H) : rNeD K x y H Q :=
  ⟨d, e, dn_dp (noDict_of_lay (SeqAt.canLay_of_shaped s)) h, dn_dp (noDict_of_lay (SeqAt.canLay_of_shaped s2)) h2, s, s2, q⟩
theorem w_eqDs {x y : V} {d : PyData} {ok2 : Addr → Prop} (h : Dn ok H x d) (h2 : Dn ok2 H y d) (s : SeqAt.shaped d = true) (q : Q (.bl true) H) : rEqD K x y H Q :=
  w_eqD h h2 s s (by rw [SeqAt.eqv_refl d (SeqAt.canLay_of_shaped s)]; exact q)
theorem w_neDs {x y : V} {d : PyData} {ok2 : Addr → Prop} (h : Dn ok H x d) (h2 : Dn ok2 H y d) (s : SeqAt.shaped d = true) (q : Q (.bl false) H) : rNeD K x y H Q :=
  w_neD h h2 s s (by rw [SeqAt.eqv_refl d (SeqAt.canLay_of_shaped s)]; exact q)
/-- signs that are ASCII -/
def ascii (z : Str) : Bool := z.cps.toList.all fun c => decide (c < 1114112)
theorem strOk_of {z : Str} (h : ascii z = true) : PyData.strOk z = true := by
  unfold PyData.strOk
  rw [← Array.all_toList]
  exact h
theorem shaped_str {z : Str} (h : ascii z = true) : SeqAt.shaped (.str z) = true := by
  unfold SeqAt.shaped
  rw [PyData.canLay0, strOk_of h]
  rfl
end
/-! ### data that may be compared -/
/-- its texts are texts, no dicts, no deeper than k -/
def Lay (k : Nat) (d : PyData) : Prop := d.canLay0 = true ∧ d.depth ≤ k
theorem Lay.shaped {k : Nat} {d : PyData} (h : Lay k d) (hk : k ≤ 64 := by decide) : SeqAt.shaped d = true := by
  unfold SeqAt.shaped
  rw [h.1, decide_eq_true (Nat.le_trans h.2 hk)]
  rfl
theorem Lay.up {j k : Nat} {d : PyData} (h : Lay j d) (hk : j ≤ k := by decide) : Lay k d := ⟨h.1, Nat.le_trans h.2 hk⟩
theorem lay_int {k : Nat} {i : Int} : Lay k (.int i) := ⟨by rw [PyData.canLay0], by rw [PyData.depth]; exact Nat.zero_le _⟩
theorem lay_str {k : Nat} {z : Str} (h : ascii z = true) : Lay k (.str z) := ⟨by rw [PyData.canLay0, strOk_of h], by rw [PyData.depth]; exact Nat.zero_le _⟩
theorem lay_all : ∀ {k : Nat} {ds : List PyData}, (∀ d ∈ ds, Lay k d) → PyData.canLayAll0 ds = true ∧ PyData.depthAll ds ≤ k
  | k, [], _ => ⟨by rw [PyData.canLayAll0], by rw [PyData.depthAll]; exact Nat.zero_le _⟩
  | k, d :: ds, h => by
    have h1 := h d (List.mem_cons_self ..)
    have h2 := lay_all fun e he => h e (List.mem_cons_of_mem _ he)
    refine ⟨by rw [PyData.canLayAll0, h1.1, h2.1]; rfl, ?_⟩
    rw [PyData.depthAll]
    exact Nat.max_le.mpr ⟨h1.2, h2.2⟩
theorem lay_tup {k : Nat} {ds : List PyData} (h : ∀ d ∈ ds, Lay k d) : Lay (k + 1) (.tuple ds) :=
  ⟨by rw [PyData.canLay0]; exact (lay_all h).1, by rw [PyData.depth]; exact Nat.succ_le_succ (lay_all h).2⟩
theorem lay1 {k : Nat} {a : PyData} (h : Lay k a) : Lay (k + 1) (.tuple [a]) := lay_tup fun d hd => by
  rw [List.mem_singleton.mp hd]
  exact h
theorem lay2 {k : Nat} {a b : PyData} (h : Lay k a) (h2 : Lay k b) : Lay (k + 1) (.tuple [a, b]) := lay_tup fun d hd => by
  rcases List.mem_cons.mp hd with rfl | hd
  · exact h
  · rw [List.mem_singleton.mp hd]
    exact h2
theorem lay3 {k : Nat} {a b c : PyData} (h : Lay k a) (h2 : Lay k b) (h3 : Lay k c) : Lay (k + 1) (.tuple [a, b, c]) := lay_tup fun d hd => by
  rcases List.mem_cons.mp hd with rfl | hd
  · exact h
  rcases List.mem_cons.mp hd with rfl | hd
  · exact h2
  · rw [List.mem_singleton.mp hd]
    exact h3
theorem lay5 {k : Nat} {a b c e f : PyData} (h : Lay k a) (h2 : Lay k b) (h3 : Lay k c) (h4 : Lay k e) (h5 : Lay k f) : Lay (k + 1) (.tuple [a, b, c, e, f]) := lay_tup fun d hd => by
  rcases List.mem_cons.mp hd with rfl | hd
  · exact h
  rcases List.mem_cons.mp hd with rfl | hd
  · exact h2
  rcases List.mem_cons.mp hd with rfl | hd
  · exact h3
  rcases List.mem_cons.mp hd with rfl | hd
  · exact h4
  · rw [List.mem_singleton.mp hd]
    exact h5

/-! ### data of texts, numbers and tuples alone -/
mutual
def plainB : PyData → Bool
  | .int _ => true
  | .str _ => true
  | .tuple ds => plainAll ds
  | _ => false
def plainAll : List PyData → Bool
  | [] => true
  | d :: ds => plainB d && plainAll ds
end
theorem plainAll_of : ∀ {ds : List PyData}, (∀ d ∈ ds, plainB d = true) → plainAll ds = true
  | [], _ => rfl
  | d :: ds, h => by
    rw [plainAll, h d (List.mem_cons_self ..), plainAll_of fun x hx => h x (List.mem_cons_of_mem _ hx)]
    rfl
theorem plain_tup {ds : List PyData} (h : ∀ d ∈ ds, plainB d = true) : plainB (.tuple ds) = true := by
  rw [plainB]
  exact plainAll_of h
mutual
theorem eqv_plain : ∀ {x y : PyData}, plainB x = true → plainB y = true → PyData.eqv x y = true → x = y
  | .int i, .int j, _, _, e => by
    rw [PyData.eqv, beq_iff_eq] at e
    rw [e]
  | .str i, .str j, _, _, e => by
    rw [PyData.eqv, beq_iff_eq] at e
    rw [e]
  | .tuple xs, .tuple ys, hx, hy, e => by
    rw [PyData.eqv] at e
    rw [eqvAll_plain (by rw [plainB] at hx; exact hx) (by rw [plainB] at hy; exact hy) e]
  | .int _, .str _, _, _, e => by rw [PyData.eqv] at e; exact nomatch e
  | .int _, .tuple _, _, _, e => by rw [PyData.eqv] at e; exact nomatch e
  | .str _, .int _, _, _, e => by rw [PyData.eqv] at e; exact nomatch e
  | .str _, .tuple _, _, _, e => by rw [PyData.eqv] at e; exact nomatch e
  | .tuple _, .int _, _, _, e => by rw [PyData.eqv] at e; exact nomatch e
  | .tuple _, .str _, _, _, e => by rw [PyData.eqv] at e; exact nomatch e
theorem eqvAll_plain : ∀ {xs ys : List PyData}, plainAll xs = true → plainAll ys = true → PyData.eqvAll xs ys = true → xs = ys
  | [], [], _, _, _ => rfl
  | x :: xs, y :: ys, hx, hy, e => by
    rw [plainAll, Bool.and_eq_true] at hx hy
    rw [PyData.eqvAll, Bool.and_eq_true] at e
    rw [eqv_plain hx.1 hy.1 e.1, eqvAll_plain hx.2 hy.2 e.2]
  | [], _ :: _, _, _, e => by rw [PyData.eqvAll] at e; exact nomatch e
  | _ :: _, [], _, _, e => by rw [PyData.eqvAll] at e; exact nomatch e
end
/-- tuples stay -/
def Tk (H H' : Hp) : Prop := ∀ b xs, H b = some (.tup xs) → H' b = some (.tup xs)
theorem Tk.refl {H : Hp} : Tk H H := fun _ _ e => e
theorem Tk.trans {H H1 H2 : Hp} (a : Tk H H1) (b : Tk H1 H2) : Tk H H2 := fun c xs e => b c xs (a c xs e)
theorem Tk.same {H H' : Hp} (s : Same H H') : Tk H H' := fun b xs e => s b _ e
theorem Tk.kp {p : Addr} {o : HO} {H H' : Hp} (k : Kp p H H') (hp : H p = some o) (n : ∀ xs, o ≠ .tup xs) : Tk H H' := fun b xs e => k b _ (fun z => by
  rw [z, hp] at e
  exact n xs (Option.some.inj e)) e
theorem Tk.kpL {p : Addr} {ys : List V} {H H' : Hp} (k : Kp p H H') (hp : H p = some (.lst ys)) : Tk H H' := Tk.kp k hp fun xs e => by cases e
mutual
theorem dn_tk {ok : Addr → Prop} {H H' : Hp} (t : Tk H H') {v : V} : ∀ {d : PyData}, plainB d = true → Dn ok H v d → Dn ok H' v d
  | .int _, _, .int i => .int i
  | .str _, _, .str x => .str x
  | .tuple ds, hp, .tup ha h hs => .tup ha (t _ _ h) (dnall_tk t (by rw [plainB] at hp; exact hp) hs)
theorem dnall_tk {ok : Addr → Prop} {H H' : Hp} (t : Tk H H') {vs : List V} : ∀ {ds : List PyData}, plainAll ds = true → DnAll ok H vs ds → DnAll ok H' vs ds
  | [], _, .nil => .nil
  | d :: ds, hp, .cons h hs => .cons (dn_tk t (by rw [plainAll, Bool.and_eq_true] at hp; exact hp.1) h) (dnall_tk t (by rw [plainAll, Bool.and_eq_true] at hp; exact hp.2) hs)
end
/-! ### letters -/
def lfs (a : Str) (n s : Int) (sv bv : V) (d : Addr) : List (Str × V) := [("author", .str a), ("number", .int n), ("stamp", .int s), ("seen", sv), ("body", bv), ("_counts", .ref d)]
abbrev csV (ps : List (Str × Int)) : List (L2.Key × V) := ps.map fun p => (Sum.inr p.1, V.int p.2)
def pairD (p : Str × Int) : PyData := .tuple [.str p.1, .int p.2]
def seenD (ps : List (Str × Int)) : PyData := .tuple (ps.map pairD)
def cnt (ps : List (Str × Int)) (m : Str) : Int := match ps.find? (fun p => decide (p.1 = m)) with | some p => p.2 | none => 0
section
variable {K : PySem.W.Frag} {C : Addr} {H H' : Hp} {x : Addr} {a : Str} {n s : Int} {ps : List (Str × Int)} {sv bv : V} {d : Addr}
theorem lfs_author : (lfs a n s sv bv d).lookup ("author" : Str) = some (.str a) := by rfl
theorem lfs_number : (lfs a n s sv bv d).lookup ("number" : Str) = some (.int n) := by rfl
theorem lfs_stamp : (lfs a n s sv bv d).lookup ("stamp" : Str) = some (.int s) := by rfl
theorem lfs_seen : (lfs a n s sv bv d).lookup ("seen" : Str) = some sv := by rfl
theorem lfs_body : (lfs a n s sv bv d).lookup ("body" : Str) = some bv := by rfl
theorem lfs_counts : (lfs a n s sv bv d).lookup ("_counts" : Str) = some (.ref d) := by rfl
theorem lfs_count : (lfs a n s sv bv d).lookup ("count" : Str) = none := by rfl
theorem lfs_hasSeen : (lfs a n s sv bv d).lookup ("has_seen" : Str) = none := by rfl
theorem lfs_value : (lfs a n s sv bv d).lookup ("value" : Str) = none := by rfl
theorem lfs_put : putF "_counts" (.ref d) (putF "body" bv (putF "seen" sv (putF "stamp" (.int s) (putF "number" (.int n) (putF "author" (.str a) []))))) = lfs a n s sv bv d := by rfl
theorem csV_app (a b : List (Str × Int)) : csV (a ++ b) = csV a ++ csV b := List.map_append
theorem valV_cs (m : Str) : ∀ ps : List (Str × Int), valV (csV ps) (Sum.inr m) = (ps.find? fun p => decide (p.1 = m)).map fun p => V.int p.2
  | [] => rfl
  | p :: ps => by
    by_cases e : p.1 = m
    · rw [List.find?_cons, decide_eq_true e]
      exact valV_pos (congrArg Sum.inr e)
    · rw [List.find?_cons, decide_eq_false e]
      exact (valV_neg (fun z => e (Sum.inr.inj z))).trans (valV_cs m ps)
theorem getD_cnt (m : Str) : (valV (csV ps) (Sum.inr m)).getD (.int 0) = .int (cnt ps m) := by
  rw [valV_cs]
  unfold cnt
  cases ps.find? (fun p => decide (p.1 = m)) <;> rfl
theorem pairs_at {ok : Addr → Prop} : ∀ {ps : List (Str × Int)} {vs : List V}, DnAll ok H vs (ps.map pairD) → ∀ (i : Nat) (v : V), vs[i]? = some v → ∃ (p : Str × Int) (t : Addr), ps[i]? = some p ∧ v = .ref t ∧ H t = some (.tup [.str p.1, .int p.2])
  | [], _, h, i, v, e => by
    cases h
    exact nomatch e
  | p :: ps, _, h, i, v, e => by
    cases h with
    | cons h hs =>
      cases i with
      | zero =>
        cases Option.some.inj e
        cases h with
        | tup _ ht hx =>
          cases hx with
          | cons h1 hx =>
            cases h1
            cases hx with
            | cons h2 hx =>
              cases h2
              cases hx
              exact ⟨p, _, rfl, rfl, ht⟩
      | succ i =>
        obtain ⟨p, t, e1, e2, e3⟩ := pairs_at hs i v e
        exact ⟨p, t, e1, e2, e3⟩
end
/-! ### letters as records -/
structure Lt where
  a : Str
  n : Int
  s : Int
  ps : List (Str × Int)
  b : PyData
def valD (L : Lt) : PyData := .tuple [.str L.a, .int L.n, .int L.s, seenD L.ps, L.b]
def keyD (L : Lt) : PyData := .tuple [.int L.s, .str L.a]
structure Wf (L : Lt) : Prop where
  n1 : 1 ≤ L.n
  nd : (L.ps.map (·.1)).Nodup
  len : L.ps.length ≤ 100
  aa : ascii L.a = true
  pa : ∀ p ∈ L.ps, ascii p.1 = true
  lb : Lay 3 L.b
  pb : plainB L.b = true
theorem plain_seen (ps : List (Str × Int)) : plainB (seenD ps) = true := plain_tup fun d hd => by
  obtain ⟨p, _, rfl⟩ := List.mem_map.mp hd
  rfl
theorem Wf.plain {L : Lt} (w : Wf L) : plainB (valD L) = true := plain_tup fun d hd => by
  simp only [List.mem_cons, List.not_mem_nil, or_false] at hd
  rcases hd with rfl | rfl | rfl | rfl | rfl
  · rfl
  · rfl
  · rfl
  · exact plain_seen _
  · exact w.pb
theorem lay_seen {ps : List (Str × Int)} (h : ∀ p ∈ ps, ascii p.1 = true) : Lay 2 (seenD ps) := lay_tup fun d hd => by
  obtain ⟨p, hp, rfl⟩ := List.mem_map.mp hd
  exact lay2 (lay_str (h p hp)) lay_int
theorem Wf.lay {L : Lt} (w : Wf L) : Lay 4 (valD L) := lay5 (lay_str w.aa) lay_int lay_int (lay_seen w.pa).up w.lb
/-- what stands in a heap and may be read: tuples and objects stay, dicts at good places too -/
def Fm (ok : Addr → Prop) (H H' : Hp) : Prop := Tk H H' ∧ (∀ b C dx fs, H b = some (.ins C dx fs) → H' b = some (.ins C dx fs)) ∧ ∀ b kvs, H b = some (.dK kvs) → ok b → H' b = some (.dK kvs)
theorem Fm.refl {ok : Addr → Prop} {H : Hp} : Fm ok H H := ⟨Tk.refl, fun _ _ _ _ e => e, fun _ _ e _ => e⟩
theorem Fm.trans {ok : Addr → Prop} {H H1 H2 : Hp} (a : Fm ok H H1) (b : Fm ok H1 H2) : Fm ok H H2 := ⟨a.1.trans b.1, fun c C dx fs e => b.2.1 c C dx fs (a.2.1 c C dx fs e), fun c kvs e o => b.2.2 c kvs (a.2.2 c kvs e o) o⟩
theorem Fm.same {ok : Addr → Prop} {H H' : Hp} (s : Same H H') : Fm ok H H' := ⟨Tk.same s, fun b _ _ _ e => s b _ e, fun b _ e _ => s b _ e⟩
theorem Fm.kpL {ok : Addr → Prop} {p : Addr} {ys : List V} {H H' : Hp} (k : Kp p H H') (hp : H p = some (.lst ys)) : Fm ok H H' :=
  ⟨Tk.kpL k hp, fun b _ _ _ e => k b _ (fun z => by rw [z, hp] at e; cases e) e, fun b _ e _ => k b _ (fun z => by rw [z, hp] at e; cases e) e⟩
theorem Fm.stm {ok : Addr → Prop} {p : Addr} {H H' : Hp} (k : Kp p H H') (s : Stm H p) : Fm ok H H' := by
  obtain ⟨a, b, h, _⟩ := s
  exact Fm.kpL k h
theorem Fm.kpD {p : Addr} {o : HO} {H H' : Hp} (k : Kp p H H') (hp : H p = some o) (n1 : ∀ xs, o ≠ .tup xs) (n2 : ∀ C dx fs, o ≠ .ins C dx fs) : Fm (Off p) H H' :=
  ⟨Tk.kp k hp n1, fun b C dx fs e => k b _ (fun z => by rw [z, hp] at e; exact n2 _ _ _ (Option.some.inj e)) e, fun b _ e n => k b _ n e⟩
def LtAt (ok : Addr → Prop) (C : Addr) (H : Hp) (x : Addr) (L : Lt) : Prop := ∃ dx d sv bv, H x = some (.ins C dx (lfs L.a L.n L.s sv bv d)) ∧ ok d ∧ H d = some (.dK (csV L.ps)) ∧ Dn Any H sv (seenD L.ps) ∧ Dn Any H bv L.b
theorem LtAt.fm {ok : Addr → Prop} {C x : Addr} {H H' : Hp} {L : Lt} (h : LtAt ok C H x L) (w : Wf L) (f : Fm ok H H') : LtAt ok C H' x L := by
  obtain ⟨dx, d, sv, bv, h1, h2, h3, h4, h5⟩ := h
  exact ⟨dx, d, sv, bv, f.2.1 _ _ _ _ h1, h2, f.2.2 _ _ h3 h2, dn_tk f.1 (plain_seen _) h4, dn_tk f.1 w.pb h5⟩
theorem LtAt.same {ok : Addr → Prop} {C x : Addr} {H H' : Hp} {L : Lt} (h : LtAt ok C H x L) (s : Same H H') : LtAt ok C H' x L := by
  obtain ⟨dx, d, sv, bv, h1, h2, h3, h4, h5⟩ := h
  exact ⟨dx, d, sv, bv, s _ _ h1, h2, s _ _ h3, h4.same s, h5.same s⟩
theorem LtAt.any {ok : Addr → Prop} {C x : Addr} {H : Hp} {L : Lt} (h : LtAt ok C H x L) : LtAt Any C H x L := by
  obtain ⟨dx, d, sv, bv, h1, h2, h3⟩ := h
  exact ⟨dx, d, sv, bv, h1, trivial, h3⟩
/-- lists of letters -/
abbrev lsV (ls : List (Addr × Lt)) : List V := ls.map fun y => V.ref y.1
def LsOk (ok : Addr → Prop) (C : Addr) (H : Hp) (ls : List (Addr × Lt)) : Prop := ∀ y ∈ ls, LtAt ok C H y.1 y.2 ∧ Wf y.2
theorem LsOk.fm {ok : Addr → Prop} {C : Addr} {H H' : Hp} {ls : List (Addr × Lt)} (h : LsOk ok C H ls) (f : Fm ok H H') : LsOk ok C H' ls := fun y hy => ⟨(h y hy).1.fm (h y hy).2 f, (h y hy).2⟩
theorem LsOk.same {ok : Addr → Prop} {C : Addr} {H H' : Hp} {ls : List (Addr × Lt)} (h : LsOk ok C H ls) (s : Same H H') : LsOk ok C H' ls := h.fm (Fm.same s)
theorem LsOk.any {ok : Addr → Prop} {C : Addr} {H : Hp} {ls : List (Addr × Lt)} (h : LsOk ok C H ls) : LsOk Any C H ls := fun y hy => ⟨(h y hy).1.any, (h y hy).2⟩
theorem LsOk.app {ok : Addr → Prop} {C : Addr} {H : Hp} {ls ms : List (Addr × Lt)} (h : LsOk ok C H ls) (k : LsOk ok C H ms) : LsOk ok C H (ls ++ ms) := fun y hy => (List.mem_append.mp hy).elim (h y) (k y)
theorem LsOk.sub {ok : Addr → Prop} {C : Addr} {H : Hp} {ls ms : List (Addr × Lt)} (h : LsOk ok C H ls) (k : ∀ y ∈ ms, y ∈ ls) : LsOk ok C H ms := fun y hy => h y (k y hy)
theorem LsOk.get {ok : Addr → Prop} {C : Addr} {H : Hp} {ls : List (Addr × Lt)} (h : LsOk ok C H ls) {i : Nat} {y : Addr × Lt} (e : ls[i]? = some y) : LtAt ok C H y.1 y.2 ∧ Wf y.2 := h y (List.mem_of_getElem? e)
def spInit (K : PySem.W.Frag) (C : Addr) : Sp := fun vs H Q _ => ∃ (x dx : Addr) (a : Str) (n s : Int) (ps : List (Str × Int)) (sv bv : V), vs = [.ref x, .str a, .int n, .int s, sv, bv] ∧ H x = some (.ins C dx []) ∧ Dn (Off x) H sv (seenD ps) ∧ (ps.map (·.1)).Nodup ∧ ps.length ≤ 1000 ∧
  ∀ H' d, H d = none → Kp x H H' → H' x = some (.ins C dx (lfs a n s sv bv d)) → H' d = some (.dK (csV ps)) → Q .non H'
def spRefP (K : PySem.W.Frag) (C : Addr) : Sp := fun vs H Q _ => ∃ (x : Addr) (L : Lt), vs = [.ref x] ∧ LtAt Any C H x L ∧ ∀ t H', H t = none → Same H H' → H' t = some (.tup [.str L.a, .int L.n]) → Q (.ref t) H'
def spKeyP (K : PySem.W.Frag) (C : Addr) : Sp := fun vs H Q _ => ∃ (x : Addr) (L : Lt), vs = [.ref x] ∧ LtAt Any C H x L ∧ ∀ t H', H t = none → Same H H' → H' t = some (.tup [.int L.s, .str L.a]) → Q (.ref t) H'
def spValue (K : PySem.W.Frag) (C : Addr) : Sp := fun vs H Q _ => ∃ (x : Addr) (L : Lt), vs = [.ref x] ∧ LtAt Any C H x L ∧ ∀ v H', Same H H' → Dn Any H' v (valD L) → Q v H'
def spCount (K : PySem.W.Frag) (C : Addr) : Sp := fun vs H Q _ => ∃ (x : Addr) (m : Str) (L : Lt), vs = [.ref x, .str m] ∧ LtAt Any C H x L ∧ Q (.int (cnt L.ps m)) H
section
variable {K : PySem.W.Frag} {C : Addr} {vs : List V} {H : Hp} {Q : VK} {E : XK}
theorem w_fldV {i : Nat} {σ : L2.St} {f : Str} {x dx : Addr} {fs : List (Str × V)} {v : V} (hi : σ[i]? = some (some (.ref x))) (h : H x = some (.ins C dx fs)) (c : Cls K C) (nn : NoAttr K C f) (l : fs.lookup f = some v) (q : Q v H) : tFld K (tVar i) f σ H Q :=
  ⟨_, hi, x, C, dx, fs, v, rfl, h, c, nn, l, q⟩
theorem w_methV {i : Nat} {σ : L2.St} {m : Str} {x dx : Addr} {fs : List (Str × V)} {sp : Sp} {dvs : List V} {E : XK} {t : TA} (hi : σ[i]? = some (some (.ref x))) (h : H x = some (.ins C dx fs)) (l : fs.lookup m = none) (q : t σ H fun vs H2 => sp (.ref x :: (vs ++ dvs)) H2 Q E) : tMeth C m sp dvs E (tVar i) t σ H Q :=
  ⟨_, hi, x, dx, fs, rfl, h, l, q⟩
theorem w_propV {i : Nat} {σ : L2.St} {x dx : Addr} {fs : List (Str × V)} {sp : Sp} {dvs : List V} {E : XK} (hi : σ[i]? = some (some (.ref x))) (h : H x = some (.ins C dx fs)) (q : sp (.ref x :: dvs) H Q E) : tProp C sp dvs E (tVar i) σ H Q :=
  ⟨_, hi, x, dx, fs, rfl, h, q⟩
/-- Letter_ref: slots 0:self -/
def t_Letter_ref (K : PySem.W.Frag) (C_Letter : Addr) : TS := (tRet (tTup (tCons (tFld K (tVar 0) "author") (tCons (tFld K (tVar 0) "number") tNil))))
theorem l_Letter_ref (h : spRefP K C vs H Q E) : vs.length = 1 := by obtain ⟨x, L, rfl, _⟩ := h; rfl
theorem r_Letter_ref (LC : IsC_Letter K C) (h : spRefP K C vs H Q E) : t_Letter_ref K C { nx := fun _ H' => Q .non H', rt := Q } (start ["self"] vs) H := by
  obtain ⟨x, L, rfl, ⟨dx, d, sv, bv, hx, _, hd, _⟩, q⟩ := h
  unfold t_Letter_ref
  walk_at "v"
  refine w_fldV rfl hx LC.cl LC.n_author lfs_author ?_
  walk_at "v"
  refine w_fldV rfl hx LC.cl LC.n_number lfs_number ?_
  walk_at "v"
  exact w_new q
/-- Letter___init__: slots 0:self 1:author 2:number 3:stamp 4:seen 5:body 6:name 7:count -/
def t_Letter___init__ (K : PySem.W.Frag) (C_Letter : Addr) : TS := (tSeq (sFld K (tVar 0) (tVar 1) "author")
  (tSeq (sFld K (tVar 0) (tVar 2) "number")
  (tSeq (sFld K (tVar 0) (tVar 3) "stamp")
  (tSeq (sFld K (tVar 0) (tVar 4) "seen")
  (tSeq (sFld K (tVar 0) (tVar 5) "body")
  (sFld K (tVar 0) (tDc (iTup K (tVar 4)) (gTup K 2 (gCons (gName 6) (gCons (gName 7) gNil))) tYes (tVar 6) (tVar 7) [6, 7]) "_counts"))))))
theorem l_Letter___init__ (h : spInit K C vs H Q E) : vs.length = 6 := by obtain ⟨x, dx, a, n, s, ps, sv, bv, rfl, _⟩ := h; rfl
theorem r_Letter___init__ (LC : IsC_Letter K C) (h : spInit K C vs H Q E) : t_Letter___init__ K C { nx := fun _ H' => Q .non H', rt := Q } (start ["self", "author", "number", "stamp", "seen", "body", "name", "count"] vs) H := by
  obtain ⟨x, dx, a, n, s, ps, sv, bv, rfl, hx, hsv, hnd, hlen, q⟩ := h
  unfold t_Letter___init__
  walk_at "w"
  refine w_sfld (w_var rfl (w_var rfl ⟨x, C, dx, _, rfl, hx, LC.cl, LC.n_author, (show 0 < 1000 by decide), ?_⟩))
  walk_at "w"
  refine w_sfld (w_var rfl (w_var rfl ⟨x, C, dx, _, rfl, upd_same, LC.cl, LC.n_number, (show 1 < 1000 by decide), ?_⟩))
  walk_at "w"
  refine w_sfld (w_var rfl (w_var rfl ⟨x, C, dx, _, rfl, upd_same, LC.cl, LC.n_stamp, (show 2 < 1000 by decide), ?_⟩))
  walk_at "w"
  refine w_sfld (w_var rfl (w_var rfl ⟨x, C, dx, _, rfl, upd_same, LC.cl, LC.n_seen, (show 3 < 1000 by decide), ?_⟩))
  walk_at "w"
  refine w_sfld (w_var rfl (w_var rfl ⟨x, C, dx, _, rfl, upd_same, LC.cl, LC.n_body, (show 4 < 1000 by decide), ?_⟩))
  walk_at "w"
  have kx : ∀ {G : Hp} {o : HO}, Kp x H G → Kp x H (upd G x o) := fun k => k.updp
  have k5 := kx (o := .ins C dx (putF "body" bv (putF "seen" sv (putF "stamp" (.int s) (putF "number" (.int n) (putF "author" (.str a) [])))))) (kx (o := .ins C dx (putF "seen" sv (putF "stamp" (.int s) (putF "number" (.int n) (putF "author" (.str a) []))))) (kx (o := .ins C dx (putF "stamp" (.int s) (putF "number" (.int n) (putF "author" (.str a) [])))) (kx (o := .ins C dx (putF "number" (.int n) (putF "author" (.str a) []))) (kx (o := .ins C dx (putF "author" (.str a) [])) Kp.refl))))
  have h5 : (upd (upd (upd (upd (upd H x (.ins C dx (putF "author" (.str a) []))) x (.ins C dx (putF "number" (.int n) (putF "author" (.str a) [])))) x (.ins C dx (putF "stamp" (.int s) (putF "number" (.int n) (putF "author" (.str a) []))))) x (.ins C dx (putF "seen" sv (putF "stamp" (.int s) (putF "number" (.int n) (putF "author" (.str a) [])))))) x (.ins C dx (putF "body" bv (putF "seen" sv (putF "stamp" (.int s) (putF "number" (.int n) (putF "author" (.str a) []))))))) x = some (.ins C dx (putF "body" bv (putF "seen" sv (putF "stamp" (.int s) (putF "number" (.int n) (putF "author" (.str a) [])))))) := upd_same
  revert k5 h5
  generalize (upd (upd (upd (upd (upd H x (.ins C dx (putF "author" (.str a) []))) x (.ins C dx (putF "number" (.int n) (putF "author" (.str a) [])))) x (.ins C dx (putF "stamp" (.int s) (putF "number" (.int n) (putF "author" (.str a) []))))) x (.ins C dx (putF "seen" sv (putF "stamp" (.int s) (putF "number" (.int n) (putF "author" (.str a) [])))))) x (.ins C dx (putF "body" bv (putF "seen" sv (putF "stamp" (.int s) (putF "number" (.int n) (putF "author" (.str a) []))))))) = H5
  intro k5 h5
  have hsv5 : Dn (Off x) H5 sv (seenD ps) := hsv.kp k5
  cases hsv5 with
  | @tup ta xs _ hok ht hxs =>
    have hxl : xs.length = ps.length := by rw [hxs.len, List.length_map]
    show sFld K (tVar 0) (tDc (iTup K (tVar 4)) (gTup K 2 (gCons (gName 6) (gCons (gName 7) gNil))) tYes (tVar 6) (tVar 7) [6, 7]) "_counts" _ _ _
    refine w_sfld ?_
    show iTup K (tVar 4) _ _ _
    refine w_iTup (w_var rfl ⟨ta, rfl, ⟨_, SqT.of ht⟩, fun D hD => ?_⟩)
    refine dc_tup (fun i H' => (∀ b o, b ≠ D → H5 b = some o → H' b = some o) ∧ H' D = some (.dK (csV (ps.take i)))) ⟨fun b o nb e => by rw [upd_ne nb]; exact e, upd_same⟩ (fun i H' _ pv => SqT.of (pv.1 _ _ (ne_of_none ht hD) ht)) (fun i v H' hv pv => ?_) (fun H' pv => ?_)
    · obtain ⟨p, t, e1, rfl, e3⟩ := pairs_at hxs i v hv
      refine ⟨t, _, rfl, SqT.of (pv.1 _ _ (ne_of_none e3 hD) e3), rfl, gc (w_name (gc (w_name (gn ⟨rfl, ?_⟩))))⟩
      refine w_yes ?_
      refine iteT_ ?_
      refine w_var rfl (w_var rfl ⟨_, Sum.inr p.1, rfl, pv.2, ?_, fun b o nb e => by rw [upd_ne nb]; exact pv.1 b o nb e, ?_⟩)
      · rw [List.length_map, List.length_take]
        exact Nat.lt_of_le_of_lt (show min i ps.length ≤ 1000 by omega) (by decide)
      · have hi : i < ps.length := (List.getElem?_eq_some_iff.mp e1).1
        have hp : ps[i] = p := (List.getElem?_eq_some_iff.mp e1).2
        have hnone : valV (csV (ps.take i)) (Sum.inr p.1) = none := by
          rw [valV_cs]
          have : (ps.take i).find? (fun q => decide (q.1 = p.1)) = none := by
            rw [List.find?_eq_none]
            intro q hq e
            have e := of_decide_eq_true e
            obtain ⟨j, hj⟩ := List.mem_iff_getElem?.mp hq
            rw [List.getElem?_take] at hj
            split at hj
            · rename_i hji
              have h1 : (ps.map (·.1))[j]? = some p.1 := by rw [List.getElem?_map, hj]; exact congrArg some e
              have h2 : (ps.map (·.1))[i]? = some p.1 := by rw [List.getElem?_map, e1]; rfl
              have := (List.getElem?_inj (by rw [List.length_map]; omega) hnd).mp (h1.trans h2.symm)
              omega
            · exact nomatch hj
          rw [this]
          rfl
        rw [upd_same, putK_new _ hnone, List.take_add_one, e1, csV_app]
        rfl
    · obtain ⟨p1, p2⟩ := pv
      have nx : D ≠ x := fun e => by
        subst e
        rw [h5] at hD
        cases hD
      have hx' := p1 x _ nx.symm h5
      rw [hxl, List.take_length] at p2
      refine w_var rfl ⟨x, C, dx, _, rfl, hx', LC.cl, LC.n_counts, (show 5 < 1000 by decide), ?_⟩
      rw [lfs_put]
      refine q _ D (k5.free nx hD) (fun b o nb e => ?_) upd_same (by rw [upd_ne nx]; exact p2)
      rw [upd_ne nb]
      have e5 := k5 b o nb e
      exact p1 b o (ne_of_none e5 hD) e5
end

/-! ### shared steps -/
section
variable {K : PySem.W.Frag} {C CL : Addr} {vs : List V} {H : Hp} {Q : VK} {E : XK} {σ : L2.St} {D : Ends} {td ty : TE} {tt : TT}
theorem same_none {H H' : Hp} {a : Addr} (s : Same H H') (h : H' a = none) : H a = none := by
  cases e : H a with
  | none => rfl
  | some o => rw [s _ _ e] at h; cases h
theorem Same.kp0 {H0 H H' : Hp} {p : Addr} (s : Same H0 H) (k : Kp p H H') (n : H0 p = none) : Same H0 H' := fun b o e => k b o (ne_of_none e n) (s _ _ e)
theorem Fm.kpK {ok : Addr → Prop} {p : Addr} {o : HO} {H H' : Hp} (k : Kp p H H') (hp : H p = some o) (n1 : ∀ xs, o ≠ .tup xs) (n2 : ∀ C dx fs, o ≠ .ins C dx fs) (n3 : ∀ kvs, o ≠ .dK kvs) : Fm ok H H' :=
  ⟨Tk.kp k hp n1, fun b C dx fs e => k b _ (fun z => by rw [z, hp] at e; exact n2 _ _ _ (Option.some.inj e)) e, fun b _ e _ => k b _ (fun z => by rw [z, hp] at e; exact n3 _ (Option.some.inj e)) e⟩
theorem ne_kind {b p : Addr} {o u : HO} (e : H b = some o) (hp : H p = some u) (n : o = u → False) : b ≠ p := fun z => by
  rw [z, hp] at e
  exact n (Option.some.inj e).symm
theorem cutV_to {xs : List V} {j : Nat} (h : j ≤ xs.length) : cutV xs none (some (j : Int)) = xs.take j := by
  unfold cutV
  rw [HT.sIx_none, HT.sIx_nat, Nat.min_eq_left h]
  rfl
theorem cutV_from {xs : List V} {i : Nat} (h : i ≤ xs.length) : cutV xs (some (i : Int)) none = xs.drop i := by
  unfold cutV
  rw [HT.sIx_none, HT.sIx_nat, Nat.min_eq_left h, ← List.length_drop, List.take_length]
theorem lay_list {k : Nat} {ds : List PyData} (h : ∀ d ∈ ds, Lay k d) : Lay (k + 1) (.list ds) :=
  ⟨by rw [PyData.canLay0]; exact (lay_all h).1, by rw [PyData.depth]; exact Nat.succ_le_succ (lay_all h).2⟩
theorem lay_vals {ls : List (Addr × Lt)} (h : ∀ y ∈ ls, Wf y.2) : SeqAt.shaped (.list (ls.map fun y => valD y.2)) = true := (lay_list (k := 4) fun d hd => by
  obtain ⟨y, hy, rfl⟩ := List.mem_map.mp hd
  exact (h y hy).lay).shaped
theorem stm_ne {H : Hp} {a p : Addr} {ls : List (Addr × Lt)} (s : Stm H p) (e : H a = some (.lst (lsV ls))) : a ≠ p := fun z => by
  obtain ⟨x, y, h, _⟩ := s
  rw [z, h] at e
  cases ls with
  | nil => cases e
  | cons o ls =>
    injection e with e
    injection e with e
    have : V.int x = V.ref o.1 := (List.cons.inj e).1
    exact nomatch this
theorem ixN_at {n j : Nat} (hj : j < n) : ixN n (j : Int) = some j := by
  unfold ixN
  rw [if_pos (by omega), if_pos (by omega)]
  simp
theorem lsV_app (a b : List (Addr × Lt)) : lsV (a ++ b) = lsV a ++ lsV b := List.map_append
theorem lsV_take (a : List (Addr × Lt)) (n : Nat) : (lsV a).take n = lsV (a.take n) := List.map_take.symm
theorem lsV_drop (a : List (Addr × Lt)) (n : Nat) : (lsV a).drop n = lsV (a.drop n) := List.map_drop.symm
theorem lsV_len (a : List (Addr × Lt)) : (lsV a).length = a.length := List.length_map _
theorem dn_made2 {ok : Addr → Prop} {C x dx : Addr} {H : Hp} {o : HO} {v : V} {d : PyData} (h : Dn ok H v d) (hx : H x = none) (hdx : H dx = none) (fs : List (Str × V)) : Dn (Off x) (upd (upd H dx o) x (.ins C dx fs)) v d :=
  (h.any.off hx).kp ((Kp.upd Kp.refl hdx).updp)
theorem stm_kp {q p : Addr} {H H' : Hp} (s : Stm H p) (k : Kp q H H') (n : p ≠ q) : Stm H' p := by
  obtain ⟨x, y, e, r⟩ := s
  exact ⟨x, y, k _ _ n e, r⟩
/-! ### a dict of counts -/
structure DI (cs : List (L2.Key × V)) (ks : List Str) (f : Str → Int) : Prop where
  keys : cs.map (·.1) = ks.map Sum.inr
  nd : ks.Nodup
  val : ∀ a, valV cs (Sum.inr a) = if a ∈ ks then some (.int (f a)) else none
def cv (ks : List Str) (f : Str → Int) (a : Str) : Int := if a ∈ ks then f a else 0
theorem DI.nil {f : Str → Int} : DI [] [] f := ⟨rfl, List.nodup_nil, fun _ => rfl⟩
theorem DI.len {cs : List (L2.Key × V)} {ks : List Str} {f : Str → Int} (h : DI cs ks f) : cs.length = ks.length := by
  have := congrArg List.length h.keys
  rw [List.length_map, List.length_map] at this
  exact this
theorem DI.getD {cs : List (L2.Key × V)} {ks : List Str} {f : Str → Int} (h : DI cs ks f) (a : Str) : (valV cs (Sum.inr a)).getD (.int 0) = .int (cv ks f a) := by
  rw [h.val]
  unfold cv
  split <;> rfl
theorem DI.has {cs : List (L2.Key × V)} {ks : List Str} {f : Str → Int} (h : DI cs ks f) {a : Str} (m : a ∈ ks) : valV cs (Sum.inr a) = some (.int (f a)) := by
  rw [h.val, if_pos m]
theorem DI.at_ {cs : List (L2.Key × V)} {ks : List Str} {f : Str → Int} (h : DI cs ks f) {i : Nat} {k : L2.Key} {v : V} (e : cs[i]? = some (k, v)) : ∃ a, ks[i]? = some a ∧ k = Sum.inr a := by
  have h1 : (cs.map (·.1))[i]? = some k := by rw [List.getElem?_map, e]; rfl
  rw [h.keys, List.getElem?_map] at h1
  obtain ⟨a, ha, rfl⟩ := Option.map_eq_some_iff.mp h1
  exact ⟨a, ha, rfl⟩
theorem DI.putNew {cs : List (L2.Key × V)} {ks : List Str} {f : Str → Int} (h : DI cs ks f) {a : Str} (n : a ∉ ks) (v : Int) : DI (putK cs (Sum.inr a) (.int v)) (ks ++ [a]) (fun b => if b = a then v else f b) := by
  have hn : valV cs (Sum.inr a) = none := by rw [h.val, if_neg n]
  refine ⟨?_, ?_, fun b => ?_⟩
  · rw [putK_new _ hn, List.map_append, List.map_append, h.keys]
    rfl
  · rw [List.nodup_append]
    refine ⟨h.nd, by simp, fun x hx y hy z => ?_⟩
    rw [List.mem_singleton.mp hy] at z
    exact n (z ▸ hx)
  · rw [valV_put]
    by_cases e : b = a
    · subst e
      rw [if_pos rfl, if_pos (List.mem_append_right _ (List.mem_singleton.mpr rfl)), if_pos rfl]
    · rw [if_neg (fun z => e (Sum.inr.inj z)), h.val, if_neg e]
      by_cases m : b ∈ ks
      · rw [if_pos m, if_pos (List.mem_append_left _ m)]
      · rw [if_neg m, if_neg (fun z => (List.mem_append.mp z).elim m fun z => e (List.mem_singleton.mp z))]
theorem DI.putOld {cs : List (L2.Key × V)} {ks : List Str} {f : Str → Int} (h : DI cs ks f) {a : Str} (n : a ∈ ks) (v : Int) : DI (putK cs (Sum.inr a) (.int v)) ks (fun b => if b = a then v else f b) := by
  have hn : (cs.any fun kv => decide (kv.1 = Sum.inr a)) = true := by rw [valV_any, h.has n]; rfl
  refine ⟨?_, h.nd, fun b => ?_⟩
  · unfold putK
    rw [if_pos hn, List.map_map, ← h.keys]
    refine List.map_congr_left fun kv _ => ?_
    show (if kv.1 = Sum.inr a then (kv.1, V.int v) else kv).1 = kv.1
    split <;> rfl
  · rw [valV_put]
    by_cases e : b = a
    · subst e
      rw [if_pos rfl, if_pos n, if_pos rfl]
    · rw [if_neg (fun z => e (Sum.inr.inj z)), h.val, if_neg e]
theorem DI.put {cs : List (L2.Key × V)} {ks : List Str} {f : Str → Int} (h : DI cs ks f) (a : Str) (v : Int) : ∃ ks', DI (putK cs (Sum.inr a) (.int v)) ks' (fun b => if b = a then v else f b) ∧ a ∈ ks' ∧ (∀ b, b ∈ ks' ↔ b ∈ ks ∨ b = a) ∧ ks'.length ≤ ks.length + 1 := by
  by_cases m : a ∈ ks
  · exact ⟨ks, h.putOld m v, m, fun b => ⟨.inl, fun z => z.elim id fun e => e ▸ m⟩, Nat.le_succ _⟩
  · refine ⟨ks ++ [a], h.putNew m v, List.mem_append_right _ (List.mem_singleton.mpr rfl), fun b => ?_, ?_⟩
    · rw [List.mem_append, List.mem_singleton]
    · rw [List.length_append, List.length_singleton]
      exact Nat.le_refl _
theorem w_din (q : ty σ H fun y H1 => td σ H1 fun x H2 => ∃ a o, x = .ref a ∧ DGet H2 a y o ∧ Q (.bl o.isSome) H2) : tDIn ty td σ H Q := q
theorem w_dnewT (q : ∀ p H2, H p = none → Same H H2 → H2 p = some (.dT []) → Q (.ref p) H2) : tDNewT σ H Q := fun p hp => q p _ hp (Same.upd (Same.refl H) hp) upd_same
theorem w_dnewK (q : ∀ p H2, H p = none → Same H H2 → H2 p = some (.dK []) → Q (.ref p) H2) : tDNewK σ H Q := fun p hp => q p _ hp (Same.upd (Same.refl H) hp) upd_same
theorem dputK {a : Addr} {kvs : List (L2.Key × V)} {k : L2.Key} {v : V} {R : Hp → Prop} (e : H a = some (.dK kvs)) (hl : kvs.length ≤ 100000) (q : ∀ H4, Kp a H H4 → H4 a = some (.dK (putK kvs k v)) → R H4) :
    ∃ a' H4, V.ref a = .ref a' ∧ DPut H a' (kV k) v H4 ∧ R H4 := ⟨a, _, rfl, DPut.k e (Nat.lt_of_le_of_lt hl (by decide)), q _ Kp.refl.updp upd_same⟩
theorem dputT {a b : Addr} {kvs : List (List L2.Key × V)} {k : List L2.Key} {v : V} {R : Hp → Prop} (e : H a = some (.dT kvs)) (eb : H b = some (.tup (k.map kV))) (hl : kvs.length ≤ 100000) (q : ∀ H4, Kp a H H4 → H4 a = some (.dT (putK kvs k v)) → R H4) :
    ∃ a' H4, V.ref a = .ref a' ∧ DPut H a' (.ref b) v H4 ∧ R H4 := ⟨a, _, rfl, .inr ⟨kvs, k, b, e, rfl, eb, Nat.lt_of_le_of_lt hl (by decide), rfl⟩, q _ Kp.refl.updp upd_same⟩
theorem sfldV {x dx : Addr} {fs : List (Str × V)} {f : Str} {y : V} {R : Hp → Prop} (h : H x = some (.ins C dx fs)) (c : Cls K C) (n : NoAttr K C f) (l : fs.length < 1000) (q : ∀ H4, Kp x H H4 → H4 x = some (.ins C dx (putF f y fs)) → R H4) :
    ∃ a C' dx' fs', V.ref x = .ref a ∧ H a = some (.ins C' dx' fs') ∧ Cls K C' ∧ NoAttr K C' f ∧ fs'.length < 1000 ∧ R (upd H a (.ins C' dx' (putF f y fs'))) := ⟨x, C, dx, fs, rfl, h, c, n, l, q _ Kp.refl.updp upd_same⟩
theorem w_sfldAug {ta tv : TE} {rd : V → V → Hp → VK → Prop} {f : Str} (q : ta σ H fun x H1 => ∃ a C dx fs v, x = .ref a ∧ H1 a = some (.ins C dx fs) ∧ Cls K C ∧ NoAttr K C f ∧ fs.lookup f = some v ∧
  tv σ H1 fun y H2 => rd v y H2 fun z H3 => ∃ dx' fs', H3 a = some (.ins C dx' fs') ∧ fs'.length < 1000 ∧ D.nx σ (upd H3 a (.ins C dx' (putF f z fs')))) : sFldAug K ta tv rd f D σ H := q
theorem ite_t {b : Bool} {A B : Prop} (h : b = true) (q : A) : if b = true then A else B := by rw [if_pos h]; exact q
theorem ite_f {b : Bool} {A B : Prop} (h : ¬ b = true) (q : B) : if b = true then A else B := by rw [if_neg h]; exact q
theorem same_made2 {x dx : Addr} {o o' : HO} {G : Hp} (hx : H x = none) (hdx : H dx = none) (k : Kp x (upd (upd H dx o) x o') G) : Same H G :=
  (((Kp.upd Kp.refl hdx).updp (H := H)).trans k).same hx
/-- [letter.value() for letter in ..] -/
theorem lcVals {ws : List Nat} {Qd : Addr → Hp → Prop} {a : Addr} {ls : List (Addr × Lt)} {i : Nat} (ha : H a = some (.lst (lsV ls))) (hok : LsOk Any C H ls) (hl : ls.length ≤ 1000) (hw : ∀ x, wipe ((wipe σ ws).set i (some x)) ws = wipe σ ws) (hi : ∀ x, ((wipe σ ws).set i (some x))[i]? = some (some x))
    (q : ∀ D ts H1, H D = none → Same H H1 → H1 D = some (.lst ts) → DnAll Any H1 ts (ls.map fun y => valD y.2) → Qd D H1) :
    ∀ D, H D = none → ∃ W : Nat → Nat → Hp → Prop, (∃ m, W 0 m (upd H D (.lst []))) ∧ ∀ i' m H, W i' m H →
  ((Itl K a).stop i' H ∧ Qd D H) ∨ ((Itl K a).go i' H ∧ ∃ Nx : Hp → Prop, (∀ H', Nx H' → ∃ m', m' < m ∧ W (i' + 1) m' H') ∧ ∀ x H', (Itl K a).yld i' H x H' → gName i x (wipe σ ws) H' fun σ2 H2 => wipe σ2 ws = wipe σ ws ∧ tYes σ2 H2 fun b H3 =>
    if b = true then tMeth C (Str.ofString "value") (spValue K C) [] C8.E0 (tVar i) tNil σ2 H3 fun y H4 => ∃ acc, H4 D = some (.lst acc) ∧ acc.length < sizeLine ∧ Nx (upd H4 D (.lst (acc ++ [y]))) else Nx H3) := by
  intro D hD
  refine lc_it (walk_list (xs := lsV ls)) (fun k G => Same H G ∧ ∃ ts, G D = some (.lst ts) ∧ ts.length ≤ k ∧ DnAll Any G ts ((ls.take k).map fun y => valD y.2)) ⟨Same.upd (Same.refl H) hD, [], upd_same, Nat.le_refl _, .nil⟩ (fun k G _ s => SqL.of (s.1 _ _ ha)) ?_ ?_
  · rintro k x G G' hk ⟨s, ts, eD, hts, dts⟩ ⟨rfl, hx⟩
    rw [List.getElem?_map] at hx
    obtain ⟨y, hy, rfl⟩ := Option.map_eq_some_iff.mp hx
    have hy' := hok.get hy
    obtain ⟨dx, d, sv, bv, hyx, _⟩ := id hy'.1
    rw [lsV_len] at hk
    refine w_name ⟨hw _, w_yes (iteT_ (w_methV (hi _) (s _ _ hyx) lfs_value (w_nil ⟨y.1, y.2, rfl, hy'.1.same s, fun v G2 s2 dv => ⟨ts, s2 _ _ eD, ?_, ?_, _, upd_same, ?_, ?_⟩⟩)))⟩
    · exact Nat.lt_of_le_of_lt (show ts.length ≤ 1000 by omega) (by decide)
    · exact fun b o e2 => by
        rw [upd_ne (ne_of_none e2 hD)]
        exact s2 _ _ (s _ _ e2)
    · rw [List.length_append, List.length_singleton]
      omega
    · have tk : Tk G2 (upd G2 D (.lst (ts ++ [v]))) := Tk.kpL Kp.refl.updp (s2 _ _ eD)
      rw [List.take_add_one, hy, Option.toList_some, List.map_append]
      refine DnAll.app (dnall_tk tk (plainAll_of fun d hd => ?_) (dts.same s2)) (.cons (dn_tk tk hy'.2.plain dv) .nil)
      obtain ⟨o, ho, rfl⟩ := List.mem_map.mp hd
      exact (hok o (List.mem_of_mem_take ho)).2.plain
  · rintro G ⟨s, ts, eD, hts, dts⟩
    rw [lsV_len, List.take_length] at dts
    exact q D ts G hD s eD dts
theorem lcLs {ws : List Nat} {Qd : Addr → Hp → Prop} {a : Addr} {ls : List (Addr × Lt)} {i : Nat} (p : Addr × Lt → Bool) (hS : ∀ H1, Same H H1 → SqL K H1 a (lsV ls)) (hl : ls.length ≤ 1000) (hw : ∀ x, wipe ((wipe σ ws).set i (some x)) ws = wipe σ ws) (hi : ∀ x, ((wipe σ ws).set i (some x))[i]? = some (some x))
    (ht : ∀ y ∈ ls, ∀ H1, Same H H1 → ∀ R : Bool → Hp → Prop, (∀ H2, Same H1 H2 → R (p y) H2) → tt ((wipe σ ws).set i (some (.ref y.1))) H1 R)
    (q : ∀ D H1, H D = none → Same H H1 → H1 D = some (.lst (lsV (ls.filter p))) → Qd D H1) :
    ∀ D, H D = none → ∃ W : Nat → Nat → Hp → Prop, (∃ m, W 0 m (upd H D (.lst []))) ∧ ∀ i' m H, W i' m H →
  ((Itl K a).stop i' H ∧ Qd D H) ∨ ((Itl K a).go i' H ∧ ∃ Nx : Hp → Prop, (∀ H', Nx H' → ∃ m', m' < m ∧ W (i' + 1) m' H') ∧ ∀ x H', (Itl K a).yld i' H x H' → gName i x (wipe σ ws) H' fun σ2 H2 => wipe σ2 ws = wipe σ ws ∧ tt σ2 H2 fun b H3 =>
    if b = true then tVar i σ2 H3 fun y H4 => ∃ acc, H4 D = some (.lst acc) ∧ acc.length < sizeLine ∧ Nx (upd H4 D (.lst (acc ++ [y]))) else Nx H3) := by
  intro D hD
  refine lc_it (walk_list (xs := lsV ls)) (fun k G => Same H G ∧ G D = some (.lst (lsV ((ls.take k).filter p)))) ⟨Same.upd (Same.refl H) hD, upd_same⟩ (fun k G _ s => hS _ s.1) ?_ ?_
  · rintro k x G G' hk ⟨s, e⟩ ⟨rfl, hx⟩
    rw [List.getElem?_map] at hx
    obtain ⟨y, hy, rfl⟩ := Option.map_eq_some_iff.mp hx
    refine w_name ⟨hw _, ht y (List.mem_of_getElem? hy) _ s _ fun H2 s2 => ?_⟩
    have et : ls.take (k + 1) = ls.take k ++ [y] := by rw [List.take_add_one, hy]; rfl
    cases hp : p y with
    | true =>
      refine ite_t rfl (w_var (hi _) ⟨_, s2 _ _ e, ?_, ?_, ?_⟩)
      · rw [List.length_map]
        have h1 := List.length_filter_le p (ls.take k)
        have h2 : (ls.take k).length ≤ ls.length := by rw [List.length_take]; omega
        exact Nat.lt_of_le_of_lt (show _ ≤ 1000 by omega) (by decide)
      · exact fun b o e2 => by
          rw [upd_ne (ne_of_none e2 hD)]
          exact s2 _ _ (s _ _ e2)
      · rw [upd_same, et, List.filter_append, List.filter_cons_of_pos hp, List.filter_nil]
        unfold lsV
        rw [List.map_append]
        rfl
    | false =>
      refine ite_f (by decide) ⟨s.trans s2, ?_⟩
      rw [et, List.filter_append, List.filter_cons_of_neg (by simp [hp]), List.filter_nil, List.append_nil]
      exact s2 _ _ e
  · rintro G ⟨s, e⟩
    rw [show (lsV ls).length = ls.length from List.length_map _, List.take_length] at e
    exact q D G hD s e
end

/-! ### people -/
def NAMES8 : List Str := ["an", "ann", "anna", "ann2", "b", "b7", "hugohugohugo", "h0"]
theorem ascii_of (z : String) : ascii (Str.ofString z) = true := by
  unfold ascii
  rw [List.all_eq_true]
  intro c hc
  have h : c ∈ z.toList.map fun x => x.toNat := by rw [Str.ofString_eq_toList] at hc; simpa using hc
  obtain ⟨x, _, rfl⟩ := List.mem_map.mp h
  have := x.valid
  exact decide_eq_true (by rcases this with h | ⟨_, h⟩ <;> (have e : x.toNat = x.val.toNat := rfl; omega))
theorem tl_app (a b : Str) : (a ++ b).cps.toList = a.cps.toList ++ b.cps.toList := TL.tl_append a b
theorem ascii_app {a b : Str} (h : ascii a = true) (h' : ascii b = true) : ascii (a ++ b) = true := by
  unfold ascii at h h' ⊢
  rw [tl_app, List.all_append, h, h']
  rfl
theorem names8_ascii : ∀ z ∈ NAMES8, ascii z = true := by decide
def spPeople (K : PySem.W.Frag) : Sp := fun vs H Q _ => ∃ (p : Addr) (n : Int), vs = [.ref p, .int n] ∧ Stm H p ∧ 0 ≤ n ∧ n ≤ 2 ∧
  ∀ a (ps : List Str) H', H a = none → Kp p H H' → Stm H' p → H' a = some (.lst (ps.map V.str)) → (∀ x ∈ ps, x ∈ NAMES8) → n ≤ ps.length → ps.length ≤ 8 → Q (.ref a) H'
section
variable {K : PySem.W.Frag} {vs : List V} {H : Hp} {Q : VK} {E : XK}
/-- _law_people: slots 0:stream 1:least 2:names 3:start 4:step 5:many 6:k -/
def t__law_people (K : PySem.W.Frag) : TS := (tSeq (tAsg (tLst (tCons (tC (.str "an")) (tCons (tC (.str "ann")) (tCons (tC (.str "anna")) (tCons (tC (.str "ann2")) (tCons (tC (.str "b")) (tCons (tC (.str "b7")) (tCons (tC (.str "hugohugohugo")) (tCons (tC (.str "h0")) tNil))))))))) (gName 2))
  (tSeq (tAsg (tCall (spNext K) [] C8.E0 (tCons (tVar 0) (tCons (tC (.int 8)) tNil))) (gName 3))
  (tSeq (tAsg (tOp qAdd (tC (.int 1)) (tOp qMul (tC (.int 2)) (tCall (spNext K) [] C8.E0 (tCons (tVar 0) (tCons (tC (.int 4)) tNil))))) (gName 4))
  (tSeq (tAsg (tOp qAdd (tVar 1) (tCall (spNext K) [] C8.E0 (tCons (tVar 0) (tCons (tOp qSub (tC (.int 6)) (tVar 1)) tNil)))) (gName 5))
  (tSeq (tIfS (tTest (tOp rEq (tCall (spNext K) [] C8.E0 (tCons (tVar 0) (tCons (tC (.int 16)) tNil))) (tC (.int 0)))) (tAsg (tOp qAdd (tC (.int 6)) (tCall (spNext K) [] C8.E0 (tCons (tVar 0) (tCons (tC (.int 3)) tNil)))) (gName 5)) tNext)
  (tRet (tLc (iRng1 (tCons (tVar 5) tNil)) (gName 6) tYes (tOp (rIxL K) (tVar 2) (tOp qMod (tOp qAdd (tVar 3) (tOp qMul (tVar 4) (tVar 6))) (tC (.int 8)))) [6])))))))
theorem l__law_people (h : spPeople K vs H Q E) : vs.length = 2 := by obtain ⟨p, n, rfl, _⟩ := h; rfl
theorem r__law_people (h : spPeople K vs H Q E) : t__law_people K { nx := fun _ H' => Q .non H', rt := Q } (start ["stream", "least", "names", "start", "step", "many", "k"] vs) H := by
  obtain ⟨p, n, rfl, hs, n0, n2, q⟩ := h
  unfold t__law_people
  refine w_seq (w_asg (w_lstV (w_cons (w_c (w_cons (w_c (w_cons (w_c (w_cons (w_c (w_cons (w_c (w_cons (w_c (w_cons (w_c (w_cons (w_c (w_nil ⟨sz (by simp), ?_⟩)))))))))))))))))))
  refine w_new fun N H1 f1 t1 e1 => w_name ?_
  have e1' : H1 N = some (.lst (NAMES8.map V.str)) := e1
  have s1 := hs.same t1
  walk_at "w"
  refine ⟨p, 8, rfl, s1, by decide, by decide, fun a0 H2 k2 s2 a1 a2 => ?_⟩
  walk_at "w"
  refine ⟨p, 4, rfl, s2, by decide, by decide, fun b0 H3 k3 s3 b1 b2 => ?_⟩
  walk_at "w"
  refine ⟨p, 6 - n, rfl, s3, by omega, by omega, fun c0 H4 k4 s4 c1 c2 => ?_⟩
  refine w_I0 (w_name ?_)
  walk_at "b"
  have nN : N ≠ p := hs.ne f1
  refine w_ifCut (Mid := fun σ' G => ∃ m : Int, σ' = [some (.ref p), some (.int n), some (.ref N), some (.int a0), some (.int (1 + 2 * b0)), some (.int m), none] ∧ Kp p H1 G ∧ Stm G p ∧ n ≤ m ∧ m ≤ 8) ?_ ?_
  · rintro σ' G ⟨m, rfl, kG, sG, m1, m2⟩
    have eN : G N = some (.lst (NAMES8.map V.str)) := kG _ _ nN e1'
    refine w_ret (w_lc (w_iRng1 (w_cons (w_var rfl (w_nil ⟨m, rfl, by omega, by omega, fun D hD => ?_⟩)))))
    refine lc_it walk_range (fun k G' => Same G G' ∧ ∃ ps : List Str, G' D = some (.lst (ps.map V.str)) ∧ ps.length = k ∧ ∀ x ∈ ps, x ∈ NAMES8) ⟨Same.upd (Same.refl G) hD, [], upd_same, rfl, fun x hx => nomatch hx⟩ (fun _ _ _ _ => trivial) ?_ ?_
    · rintro k x G1 G2 hk ⟨sG1, ps, eD, hl, hps⟩ ⟨rfl, rfl⟩
      refine w_name ⟨rfl, w_yes (iteT_ ?_)⟩
      walk_at "w"
      have h0 : 0 ≤ (a0 + (1 + 2 * b0) * (0 + (k : Int))) % 8 := Int.emod_nonneg _ (by decide)
      have h8 : (a0 + (1 + 2 * b0) * (0 + (k : Int))) % 8 < 8 := Int.emod_lt_of_pos _ (by decide)
      generalize (a0 + (1 + 2 * b0) * (0 + (k : Int))) % 8 = r at h0 h8
      have hr : r.toNat < NAMES8.length := by
        show r.toNat < 8
        omega
      refine w_ixL (SqL.of (sG1 _ _ eN)) (v := .str (NAMES8[r.toNat])) (atI_of h0 (by rw [List.getElem?_map, List.getElem?_eq_getElem hr]; rfl)) ⟨_, eD, ?_, ?_, ps ++ [NAMES8[r.toNat]], ?_, ?_, ?_⟩
      · rw [List.length_map, hl]
        exact Nat.lt_of_le_of_lt (show k ≤ 8 by omega) (by decide)
      · exact fun b o e2 => by
          rw [upd_ne (ne_of_none e2 hD)]
          exact sG1 _ _ e2
      · rw [upd_same, List.map_append]
        rfl
      · rw [List.length_append, hl]
        rfl
      · intro x hx
        rcases List.mem_append.mp hx with hx | hx
        · exact hps x hx
        · rw [List.mem_singleton.mp hx]
          exact List.getElem_mem hr
    · rintro G' ⟨sG', ps, eD, hl, hps⟩
      have nD : D ≠ p := sG.ne hD
      exact q D ps G' (same_none t1 (kG.free nD hD)) (((Same.kp t1).trans kG).trans (Same.kp sG')) (sG.same sG') eD hps (by omega) (by omega)
  · intro Rk hRk
    walk_at "w"
    refine ⟨p, 16, rfl, s4, by decide, by decide, fun d0 H5 k5 s5 d1 d2 => ?_⟩
    have k15 := ((k2.trans k3).trans k4).trans k5
    walk_at "w"
    refine w_ite (fun c => ?_) (fun c => ?_)
    · walk_at "w"
      refine ⟨p, 3, rfl, s5, by decide, by decide, fun m0 H6 k6 s6 m1 m2 => ?_⟩
      walk_at "w"
      exact hRk _ _ ⟨6 + m0, rfl, k15.trans k6, s6, by omega, by omega⟩
    · walk_at "w"
      exact hRk _ _ ⟨n + c0, rfl, k15, s5, by omega, by omega⟩
end

/-! ### texts and bodies that the laws of boards draw -/
theorem str_len (z : Str) : z.length = z.cps.toList.length := by simp [Str.length]
theorem cutS_to {z : Str} {i : Int} (h : 0 ≤ i) : (cutS z none (some i)).cps.toList = z.cps.toList.take i.toNat := by
  obtain ⟨j, rfl⟩ := Int.eq_ofNat_of_zero_le h
  show (z.cps.toList.drop (HT.sIx z.length 0 none)).take (HT.sIx z.length z.length (some (j : Int)) - HT.sIx z.length 0 none) = _
  rw [HT.sIx_none, HT.sIx_nat, Nat.sub_zero, List.drop_zero, Int.toNat_natCast, str_len]
  by_cases hj : j ≤ z.cps.toList.length
  · rw [Nat.min_eq_left hj]
  · rw [Nat.min_eq_right (by omega), List.take_of_length_le (Nat.le_refl _), List.take_of_length_le (by omega)]
theorem foldl_all (p : Nat → Bool) : ∀ (l : List (Array Nat)) (a : Array Nat), a.toList.all p = true → (∀ x ∈ l, x.toList.all p = true) → (l.foldl (· ++ ·) a).toList.all p = true
  | [], a, h, _ => h
  | x :: l, a, h, hl => by
    rw [List.foldl_cons]
    refine foldl_all p l _ ?_ fun y hy => hl y (List.mem_cons_of_mem _ hy)
    rw [Array.toList_append, List.all_append, h, hl x (List.mem_cons_self ..)]
    rfl
theorem ascii_mul {z : Str} (n : Int) (h : ascii z = true) : ascii (Txt.mul z n) = true := by
  unfold Txt.mul
  by_cases h1 : n < 1
  · rw [if_pos h1]
    rfl
  · rw [if_neg h1]
    by_cases h2 : (n == 1 || z.length == 0) = true
    · rw [if_pos h2]
      exact h
    · rw [if_neg h2]
      exact foldl_all _ _ _ rfl fun x hx => by
        rw [List.eq_of_mem_replicate hx]
        exact h
theorem ascii_cut {z : Str} {i : Nat} (h : ascii z = true) : ascii (cutS z none (some (i : Int))) = true := by
  unfold ascii at h ⊢
  rw [cutS_to (by omega), List.all_eq_true]
  rw [List.all_eq_true] at h
  exact fun c hc => h c (List.mem_of_mem_take hc)
theorem ascii_join {a : Str} (h : ascii a = true) : ∀ {ys : List Str}, (∀ y ∈ ys, ascii y = true) → ascii (Txt.join a ys) = true := by
  intro ys hy
  rw [join_eq]
  induction ys with
  | nil => rfl
  | cons y ys ih =>
    cases ys with
    | nil => exact hy y (List.mem_cons_self ..)
    | cons z ys => exact ascii_app (ascii_app (hy y (List.mem_cons_self ..)) h) (ih fun w hw => hy w (List.mem_cons_of_mem _ hw))
/-- a short text -/
abbrev shortD : PyData → Prop := fun d => ∃ z : Str, d = .str z ∧ ascii z = true ∧ z.length ≤ 12
/-- the bodies that the laws of boards draw -/
inductive Bb where
  | say (t : Str)
  | reply (a : Str) (n : Int) (t : Str)
  | edit (a : Str) (n : Int) (t : Str)
  | recall (a : Str) (n : Int)
  | mark (a : Str) (n : Int) (w : Str)
  | title (t : Str)
  | act (k nm : Str) (h : k = Str.ofString "add" ∨ k = Str.ofString "cut" ∨ k = Str.ofString "hand")
  | seen
  | found (t : Str) (ds : List PyData)
def Bb.kind : Bb → Str
  | .say _ => Str.ofString "say"
  | .reply _ _ _ => Str.ofString "reply"
  | .edit _ _ _ => Str.ofString "edit"
  | .recall _ _ => Str.ofString "recall"
  | .mark _ _ _ => Str.ofString "mark"
  | .title _ => Str.ofString "title"
  | .act k _ _ => k
  | .seen => Str.ofString "seen"
  | .found _ _ => Str.ofString "found"
def Bb.rest : Bb → List PyData
  | .say t => [.str t]
  | .reply a n t => [.tuple [.str a, .int n], .str t]
  | .edit a n t => [.tuple [.str a, .int n], .str t]
  | .recall a n => [.tuple [.str a, .int n]]
  | .mark a n w => [.tuple [.str a, .int n], .str w]
  | .title t => [.str t]
  | .act _ nm _ => [.str nm]
  | .seen => []
  | .found t ds => [.str t, .tuple ds]
def Bb.toD (b : Bb) : PyData := .tuple (.str b.kind :: b.rest)
structure BodyOk (b : PyData) : Prop where
  lay : Lay 3 b
  pl : plainB b = true
  sh : ∃ k ds, b = .tuple (.str k :: ds) ∧ ((k = Str.ofString "say" ∧ ∃ t, ds = [.str t] ∧ t.length ≤ 400) ∨ (k = Str.ofString "reply" ∧ ∃ r t, ds = [r, .str t] ∧ t.length ≤ 400) ∨ (k ≠ Str.ofString "say" ∧ k ≠ Str.ofString "reply"))
  bb : ∃ B : Bb, b = B.toD
def spLWord (K : PySem.W.Frag) : Sp := fun vs H Q _ => ∃ p, vs = [.ref p] ∧ Stm H p ∧ ∀ (z : Str) H', Kp p H H' → Stm H' p → z.length ≤ 4 → ascii z = true → Q (.str z) H'
def PeopleAt (H : Hp) (pa : Addr) (ps : List Str) : Prop := H pa = some (.lst (ps.map V.str)) ∧ 1 ≤ ps.length ∧ ps.length ≤ 20 ∧ ∀ x ∈ ps, ascii x = true ∧ x.length ≤ 12
def spLText (K : PySem.W.Frag) : Sp := fun vs H Q _ => ∃ (pa p : Addr) (ps : List Str), vs = [.ref pa, .ref p] ∧ Stm H p ∧ PeopleAt H pa ps ∧ ∀ (z : Str) H', Kp p H H' → Stm H' p → z.length ≤ 400 → ascii z = true → Q (.str z) H'
def spLRef (K : PySem.W.Frag) (C : Addr) : Sp := fun vs H Q _ => ∃ (l pa p : Addr) (ls : List (Addr × Lt)) (ps : List Str), vs = [.ref l, .ref pa, .ref p] ∧ Stm H p ∧ PeopleAt H pa ps ∧ H l = some (.lst (lsV ls)) ∧ LsOk Any C H ls ∧ ls.length ≤ 100 ∧
  ∀ t (a : Str) (n : Int) H', Kp p H H' → Stm H' p → H' t = some (.tup [.str a, .int n]) → ascii a = true → Q (.ref t) H'
def spLBody (K : PySem.W.Frag) (C : Addr) : Sp := fun vs H Q _ => ∃ (l pa p : Addr) (ls : List (Addr × Lt)) (ps : List Str), vs = [.ref l, .ref pa, .ref p] ∧ Stm H p ∧ PeopleAt H pa ps ∧ H l = some (.lst (lsV ls)) ∧ LsOk Any C H ls ∧ ls.length ≤ 100 ∧
  ∀ v b H', Kp p H H' → Stm H' p → Dn Any H' v b → BodyOk b → Q v H'
theorem stm_neS {H : Hp} {a p : Addr} {ps : List Str} (s : Stm H p) (e : H a = some (.lst (ps.map V.str))) : a ≠ p := fun z => by
  obtain ⟨x, y, h, _⟩ := s
  rw [z, h] at e
  cases ps with
  | nil => cases e
  | cons o ls =>
    injection e with e
    injection e with e
    have : V.int x = V.str o := (List.cons.inj e).1
    exact nomatch this
theorem PeopleAt.kp {H H' : Hp} {pa p : Addr} {ps : List Str} (h : PeopleAt H pa ps) (s : Stm H p) (k : Kp p H H') : PeopleAt H' pa ps := ⟨k _ _ (stm_neS s h.1) h.1, h.2⟩
theorem PeopleAt.same {H H' : Hp} {pa : Addr} {ps : List Str} (h : PeopleAt H pa ps) (s : Same H H') : PeopleAt H' pa ps := ⟨s _ _ h.1, h.2⟩
def SIG62 : Str := "abcdefghijklmnopqrstuvwxyzABCDEFGHIJKLMNOPQRSTUVWXYZ0123456789"
structure PartsAt (H G : Hp) (p P : Addr) (zs : List Str) : Prop where
  kp : Kp p H G
  st : Stm G p
  hp : G P = some (.lst (zs.map V.str))
  al : ∀ z ∈ zs, ascii z = true ∧ z.length ≤ 13
theorem PartsAt.draw {H G G' : Hp} {p P : Addr} {zs : List Str} (x : PartsAt H G p P zs) (n : P ≠ p) (k : Kp p G G') (s : Stm G' p) : PartsAt H G' p P zs := ⟨x.kp.trans k, s, k _ _ n x.hp, x.al⟩
theorem PartsAt.put {H G : Hp} {p P : Addr} {zs : List Str} {z : Str} {R : Hp → Prop} (x : PartsAt H G p P zs) (f : H P = none) (n : P ≠ p) (l : zs.length ≤ 100) (za : ascii z = true) (zl : z.length ≤ 13) (r : ∀ G', PartsAt H G' p P (zs ++ [z]) → R G') : rAppend (.ref P) [.str z] G (fun _ G' => R G') := by
  refine w_appV x.hp (by rw [List.length_map]; omega) fun G' k e => r G' ⟨fun b o nb e => k _ _ (ne_of_none e f) (x.kp _ _ nb e), stm_kp x.st k n.symm, by rw [e, List.map_append]; rfl, fun y hy => ?_⟩
  rcases List.mem_append.mp hy with hy | hy
  · exact x.al y hy
  · rw [List.mem_singleton.mp hy]
    exact ⟨za, zl⟩
section
variable {K : PySem.W.Frag} {C : Addr} {vs : List V} {H : Hp} {Q : VK} {E : XK}
theorem short_of {p : Addr} {σ : L2.St} {z : Str} (h : (ascii z && decide (z.length ≤ 12)) = true) : EvS p (tC (.str z)) σ H shortD := evs_str ⟨z, rfl, by
  rw [Bool.and_eq_true] at h
  exact ⟨h.1, of_decide_eq_true h.2⟩⟩
/-- _law_word: slots 0:stream 1:text 2:signs 3:k -/
def t__law_word (K : PySem.W.Frag) : TS := (tSeq (tAsg (tC (.str "")) (gName 1))
  (tSeq (tAsg (tC (.str "abcdefghijklmnopqrstuvwxyzABCDEFGHIJKLMNOPQRSTUVWXYZ0123456789")) (gName 2))
  (tSeq (tFor (iRng1 (tCons (tOp qAdd (tC (.int 1)) (tCall (spNext K) [] C8.E0 (tCons (tVar 0) (tCons (tC (.int 4)) tNil)))) tNil)) (gName 3) (tAsg (tOp qAddS (tVar 1) (tOp rIxS (tVar 2) (tCall (spNext K) [] C8.E0 (tCons (tVar 0) (tCons (tC (.int 62)) tNil))))) (gName 1)))
  (tRet (tVar 1)))))
theorem l__law_word (h : spLWord K vs H Q E) : vs.length = 1 := by obtain ⟨p, rfl, _⟩ := h; rfl
theorem r__law_word (h : spLWord K vs H Q E) : t__law_word K { nx := fun _ H' => Q .non H', rt := Q } (start ["stream", "text", "signs", "k"] vs) H := by
  obtain ⟨p, rfl, hs, q⟩ := h
  unfold t__law_word
  refine w_seq (w_asg (w_c (w_name ?_)))
  with_reducible refine w_seq ?_
  refine w_asg (w_c (w_name ?_))
  with_reducible refine w_seq ?_
  refine w_for (w_iRng1 (w_cons (w_op (w_c (w_call (w_cons (w_var rfl (w_cons (w_c (w_nil ⟨p, 4, rfl, hs, by decide, by decide, fun m H1 k1 s1 m0 m1 => w_I0 (w_nil ?_)⟩))))))))))
  refine w_rng (by omega) (by omega) (fun i σ G => (∃ (z : Str) (u3 : Option V), σ = [some (.ref p), some (.str z), some (.str SIG62), u3] ∧ z.length ≤ i ∧ ascii z = true) ∧ Kp p H G ∧ Stm G p) ⟨⟨_, _, rfl, Nat.le_refl _, rfl⟩, k1, s1⟩ ?_ ?_
  · rintro i σ G hi ⟨⟨z, u3, rfl, zl, za⟩, k, s⟩
    refine w_name (w_asg (w_op (w_var rfl (w_op (w_var rfl ?_)))))
    refine (evs_next (K := K) (H := G) rfl (by decide) (by decide)).use s fun v d H2 k2 s2 hv dv => ?_
    obtain ⟨j, rfl, j0, j1⟩ := hv
    cases dv
    have hj : j.toNat < SIG62.cps.toList.length := by
      have : SIG62.cps.toList.length = 62 := by decide
      omega
    have hc : SIG62.cps.toList[j.toNat] < 1114112 := by
      have h1 : SIG62.cps.toList.all (fun c => decide (c < 1114112)) = true := by decide
      exact of_decide_eq_true (List.all_eq_true.mp h1 _ (List.getElem_mem hj))
    refine w_ixS (by decide) (atI_of j0 (List.getElem?_eq_getElem hj)) (w_addS ?_ (w_name ⟨⟨_, _, rfl, ?_, ascii_app za ?_⟩, k.trans k2, s2⟩))
    · exact sz (by show z.length + 1 ≤ 100000; omega)
    · rw [str_len, tl_app, List.length_append, ← str_len]
      show z.length + 1 ≤ _
      omega
    · unfold ascii
      show (decide (SIG62.cps.toList[j.toNat] < 1114112) && true) = true
      rw [decide_eq_true hc]
      rfl
  · rintro σ G ⟨⟨z, u3, rfl, zl, za⟩, k, s⟩
    with_reducible refine w_ret ?_
    exact w_var rfl (q z G k s (by omega) za)
/-- _law_text: slots 0:people 1:stream 2:parts 3:k 4:kind -/
def t__law_text (K : PySem.W.Frag) : TS := (tSeq (tAsg (tLst tNil) (gName 2))
  (tSeq (tFor (iRng1 (tCons (tOp qAdd (tC (.int 1)) (tCall (spNext K) [] C8.E0 (tCons (tVar 1) (tCons (tC (.int 6)) tNil)))) tNil)) (gName 3) (tSeq (tAsg (tCall (spNext K) [] C8.E0 (tCons (tVar 1) (tCons (tC (.int 5)) tNil))) (gName 4))
  (tSeq (tIfS (tTest (tOp rEq (tVar 4) (tC (.int 0)))) (tDrop (tBM K "list" rAppend (tVar 2) (tCons (tOp qAddS (tC (.str "\x40")) (tOp (rIxL K) (tVar 0) (tCall (spNext K) [] C8.E0 (tCons (tVar 1) (tCons (tCB (qLenSeq K) (tCons (tVar 0) tNil)) tNil))))) tNil))) (tIfS (tTest (tOp rEq (tVar 4) (tC (.int 1)))) (tDrop (tBM K "list" rAppend (tVar 2) (tCons (tOp (rIxT K) (tTup (tCons (tC (.str "tea")) (tCons (tC (.str "Tea")) (tCons (tC (.str "at4")) (tCons (tC (.str "me")) (tCons (tC (.str "4")) (tCons (tC (.str "no")) tNil))))))) (tCall (spNext K) [] C8.E0 (tCons (tVar 1) (tCons (tC (.int 6)) tNil)))) tNil))) (tDrop (tBM K "list" rAppend (tVar 2) (tCons (tCall (spLWord K) [] C8.E0 (tCons (tVar 1) tNil)) tNil)))))
  (tDrop (tBM K "list" rAppend (tVar 2) (tCons (tOp (rIxT K) (tTup (tCons (tC (.str " ")) (tCons (tC (.str ", ")) (tCons (tC (.str "!")) (tCons (tC (.str "\n")) (tCons (tC (.str "-")) (tCons (tC (.str "\x40")) (tCons (tC (.str "a")) (tCons (tC (.str "7")) (tCons (tC (.str " \x40")) (tCons (tC (.str "_")) (tCons (tC (.str "Z")) tNil)))))))))))) (tCall (spNext K) [] C8.E0 (tCons (tVar 1) (tCons (tC (.int 11)) tNil)))) tNil))))))
  (tRet (tSl rSlS (tOp qMulS (tBM K "str" (qJoin K) (tC (.str "")) (tCons (tVar 2) tNil)) (tOp (rIxT K) (tTup (tCons (tC (.int 1)) (tCons (tC (.int 1)) (tCons (tC (.int 1)) (tCons (tC (.int 1)) (tCons (tC (.int 1)) (tCons (tC (.int 1)) (tCons (tC (.int 1)) (tCons (tC (.int 5)) tNil))))))))) (tCall (spNext K) [] C8.E0 (tCons (tVar 1) (tCons (tC (.int 8)) tNil))))) tNoPart (tPart (tC (.int 400)))))))
theorem l__law_text (h : spLText K vs H Q E) : vs.length = 2 := by obtain ⟨pa, p, ps, rfl, _⟩ := h; rfl
theorem r__law_text (h : spLText K vs H Q E) : t__law_text K { nx := fun _ H' => Q .non H', rt := Q } (start ["people", "stream", "parts", "k", "kind"] vs) H := by
  obtain ⟨pa, p, ps, rfl, hs, hpa, q⟩ := h
  unfold t__law_text
  refine w_seq (w_asg (w_lstV (w_nil ⟨sz (by simp), w_new fun P H1 f0 s1 e1 => w_name ?_⟩)))
  have st1 := hs.same s1
  have nP : P ≠ p := hs.ne f0
  have hP0 : H P = none := f0
  with_reducible refine w_seq ?_
  refine w_for (w_iRng1 (w_cons (w_op (w_c (w_call (w_cons (w_var rfl (w_cons (w_c (w_nil ⟨p, 6, rfl, st1, by decide, by decide, fun m H2 k2 s2 m0 m1 => w_I0 (w_nil ?_)⟩))))))))))
  refine w_rng (by omega) (by omega) (fun i σ G => (∃ u3 u4 : Option V, σ = [some (.ref pa), some (.ref p), some (.ref P), u3, u4]) ∧ ∃ zs, PartsAt H G p P zs ∧ zs.length ≤ 2 * i) ⟨⟨_, _, rfl⟩, [], ⟨(Same.kp s1).trans k2, s2, k2 _ _ nP e1, fun z hz => nomatch hz⟩, Nat.le_refl _⟩ ?_ ?_
  · rintro i σ G hi ⟨⟨u3, u4, rfl⟩, zs, x, zl⟩
    have hi6 : i < 6 := by omega
    refine w_name ?_
    with_reducible refine w_seq ?_
    refine w_asg (w_call (w_cons (w_var rfl (w_cons (w_c (w_nil ⟨p, 5, rfl, x.st, by decide, by decide, fun kd G2 k2 s2 _ _ => w_name ?_⟩))))))
    have x2 := x.draw nP k2 s2
    -- the first part
    with_reducible refine w_seq ?_
    refine w_ifCut (Mid := fun σ' G => (∃ u3 u4 : Option V, σ' = [some (.ref pa), some (.ref p), some (.ref P), u3, u4]) ∧ ∃ zs, PartsAt H G p P zs ∧ zs.length ≤ 2 * i + 1) ?_ ?_
    rotate_left
    · intro Rk hRk
      refine w_ifS (w_test (w_op (w_var rfl (w_c (w_eqI (w_exb (w_ite (fun c => ?_) (fun c => w_ifS ?_))))))))
      · refine w_drop (w_bm (w_var rfl (w_tyL x2.hp (w_cons (w_op (w_c (w_op (w_var rfl ?_))))))))
        have hp2 := hpa.kp hs x2.kp
        refine w_call (w_cons (w_var rfl (w_cons (w_cb (w_cons (w_var rfl (w_nil (w_lenL (SqL.of hp2.1) (w_nil ⟨p, _, rfl, x2.st, by rw [List.length_map]; have := hp2.2.1; omega, by rw [List.length_map]; have := hp2.2.2.1; omega, fun v G3 k3 s3 v0 v1 => ?_⟩)))))))))
        have hp3 := hp2.kp x2.st k3
        rw [List.length_map] at v1
        have hvl : v.toNat < ps.length := by omega
        have hn := hpa.2.2.2 _ (List.getElem_mem hvl)
        refine w_ixL (SqL.of hp3.1) (v := .str ps[v.toNat]) (atI_of v0 (by rw [List.getElem?_map, List.getElem?_eq_getElem hvl]; rfl)) (w_addS (sz (by have := hn.2; show 1 + ps[v.toNat].length ≤ 100000; omega)) (w_nil ?_))
        exact (x2.draw nP k3 s3).put hP0 nP (by omega) (ascii_app rfl hn.1) (by rw [str_len, tl_app, List.length_append, ← str_len]; have := hn.2; show 1 + ps[v.toNat].length ≤ 13; omega) fun G4 x4 => hRk _ _ ⟨⟨_, _, rfl⟩, _, x4, by rw [List.length_append, List.length_singleton]; omega⟩
      · refine w_test (w_op (w_var rfl (w_c (w_eqI (w_exb (w_ite (fun c => ?_) (fun c => ?_)))))))
        · refine w_drop (w_bm (w_var rfl (w_tyL x2.hp (w_cons ?_))))
          refine (evs_pickT (P := shortD) (are_cons (short_of rfl) (are_cons (short_of rfl) (are_cons (short_of rfl) (are_cons (short_of rfl) (are_cons (short_of rfl) (are_cons (short_of rfl) are_nil)))))) rfl (by decide) (by decide) (are_pick rfl)).use x2.st fun v d G3 k3 s3 hd dn => ?_
          obtain ⟨z, rfl, za, zl'⟩ := hd
          cases dn
          exact w_nil ((x2.draw nP k3 s3).put hP0 nP (by omega) za (by omega) fun G4 x4 => hRk _ _ ⟨⟨_, _, rfl⟩, _, x4, by rw [List.length_append, List.length_singleton]; omega⟩)
        · refine w_drop (w_bm (w_var rfl (w_tyL x2.hp (w_cons (w_call (w_cons (w_var rfl (w_nil ⟨p, rfl, x2.st, fun z G3 k3 s3 zl' za => w_nil ?_⟩))))))))
          exact (x2.draw nP k3 s3).put hP0 nP (by omega) za (by omega) fun G4 x4 => hRk _ _ ⟨⟨_, _, rfl⟩, _, x4, by rw [List.length_append, List.length_singleton]; omega⟩
    · rintro σ' G3 ⟨⟨u3, u4, rfl⟩, zs3, x3, zl3⟩
      with_reducible refine w_drop ?_
      refine w_bm (w_var rfl (w_tyL x3.hp (w_cons ?_)))
      refine (evs_pickT (P := shortD) (are_cons (short_of rfl) (are_cons (short_of rfl) (are_cons (short_of rfl) (are_cons (short_of rfl) (are_cons (short_of rfl) (are_cons (short_of rfl) (are_cons (short_of rfl) (are_cons (short_of rfl) (are_cons (short_of rfl) (are_cons (short_of rfl) (are_cons (short_of rfl) are_nil))))))))))) rfl (by decide) (by decide) (are_pick rfl)).use x3.st fun v d G4 k4 s4 hd dn => ?_
      obtain ⟨z, rfl, za, zl'⟩ := hd
      cases dn
      exact w_nil ((x3.draw nP k4 s4).put hP0 nP (by omega) za (by omega) fun G5 x5 => ⟨⟨_, _, rfl⟩, _, x5, by rw [List.length_append, List.length_singleton]; omega⟩)
  · rintro σ G ⟨⟨u3, u4, rfl⟩, zs, x, zl⟩
    have hzl : zs.length ≤ 12 := by omega
    have hsum : (zs.map (·.length)).sum + zs.length * (Str.ofString "").length ≤ 156 := by
      have h1 := Wp.sum_le (fun z : Str => z.length) 13 (l := zs) fun z hz => (x.al z hz).2
      have h2 : (Str.ofString "").length = 0 := by decide
      rw [h2]
      have : zs.length * 13 ≤ 12 * 13 := Nat.mul_le_mul_right _ hzl
      omega
    have hj : (Txt.join (Str.ofString "") zs).length ≤ 156 := Nat.le_trans (Wp.join_len _ _) hsum
    have hja : ascii (Txt.join (Str.ofString "") zs) = true := ascii_join rfl fun z hz => (x.al z hz).1
    with_reducible refine w_ret ?_
    refine w_sl (w_op (w_bm (w_c ⟨rfl, w_cons (w_var rfl (w_nil (w_joinL (SqL.of x.hp) (Nat.le_trans hsum (by decide)) ?_)))⟩)))
    generalize Txt.join (Str.ofString "") zs = J at hj hja
    refine (evs_pickT (P := isInt 0 5) (are_cons (evs_intIn (by decide) (by decide)) (are_cons (evs_intIn (by decide) (by decide)) (are_cons (evs_intIn (by decide) (by decide)) (are_cons (evs_intIn (by decide) (by decide)) (are_cons (evs_intIn (by decide) (by decide)) (are_cons (evs_intIn (by decide) (by decide)) (are_cons (evs_intIn (by decide) (by decide)) (are_cons (evs_intIn (by decide) (by decide)) are_nil)))))))) rfl (by decide) (by decide) (are_pick rfl)).use x.st fun v d G3 k3 s3 hd dn => ?_
    obtain ⟨n, rfl, n0, n1⟩ := hd
    cases dn
    refine w_mulS n0 (by omega) (by omega) fun hml => w_noPart (w_part (w_c (w_exi (w_slS ?_ ?_))))
    · exact Nat.le_trans hml (Nat.le_trans (Nat.mul_le_mul hj (show n.toNat ≤ 5 by omega)) (by decide))
    · refine q _ G3 (x.kp.trans k3) s3 ?_ (ascii_cut (i := 400) (ascii_mul n hja))
      rw [str_len, cutS_to (by decide), List.length_take]
      exact Nat.min_le_left _ _
/-- _law_ref: slots 0:letters 1:people 2:stream -/
def t__law_ref (K : PySem.W.Frag) (C_Letter : Addr) : TS := (tSeq (tIfS (tAnd (tTest (tOp qGt (tCB (qLenSeq K) (tCons (tVar 0) tNil)) (tC (.int 0)))) (tTest (tOp qGt (tCall (spNext K) [] C8.E0 (tCons (tVar 2) (tCons (tC (.int 8)) tNil))) (tC (.int 0))))) (tRet (tProp C_Letter (spRefP K C_Letter) [] C8.E0 (tOp (rIxL K) (tVar 0) (tCall (spNext K) [] C8.E0 (tCons (tVar 2) (tCons (tCB (qLenSeq K) (tCons (tVar 0) tNil)) tNil)))))) tNext)
  (tRet (tTup (tCons (tOp (rIxL K) (tVar 1) (tCall (spNext K) [] C8.E0 (tCons (tVar 2) (tCons (tCB (qLenSeq K) (tCons (tVar 1) tNil)) tNil)))) (tCons (tOp qAdd (tC (.int 1)) (tCall (spNext K) [] C8.E0 (tCons (tVar 2) (tCons (tC (.int 30)) tNil)))) tNil)))))
theorem l__law_ref (h : spLRef K C vs H Q E) : vs.length = 3 := by obtain ⟨l, pa, p, ls, ps, rfl, _⟩ := h; rfl
theorem r__law_ref (LC : IsC_Letter K C) (h : spLRef K C vs H Q E) : t__law_ref K C { nx := fun _ H' => Q .non H', rt := Q } (start ["letters", "people", "stream"] vs) H := by
  obtain ⟨l, pa, p, ls, ps, rfl, hs, hpa, hl, hok, hll, q⟩ := h
  have npl := stm_ne hs hl
  have fin : ∀ G, Kp p H G → Stm G p → (tRet (tTup (tCons (tOp (rIxL K) (tVar 1) (tCall (spNext K) [] C8.E0 (tCons (tVar 2) (tCons (tCB (qLenSeq K) (tCons (tVar 1) tNil)) tNil)))) (tCons (tOp qAdd (tC (.int 1)) (tCall (spNext K) [] C8.E0 (tCons (tVar 2) (tCons (tC (.int 30)) tNil)))) tNil)))) { nx := fun _ H' => Q .non H', rt := Q } [some (.ref l), some (.ref pa), some (.ref p)] G := by
    intro G k s
    have hp2 := hpa.kp hs k
    refine w_ret (w_tupV (w_cons (w_op (w_var rfl (w_call (w_cons (w_var rfl (w_cons (w_cb (w_cons (w_var rfl (w_nil (w_lenL (SqL.of hp2.1) (w_nil ⟨p, _, rfl, s, by rw [List.length_map]; have := hp2.2.1; omega, by rw [List.length_map]; have := hp2.2.2.1; omega, fun v G3 k3 s3 v0 v1 => ?_⟩))))))))))))))
    have hp3 := hp2.kp s k3
    rw [List.length_map] at v1
    have hvl : v.toNat < ps.length := by omega
    refine w_ixL (SqL.of hp3.1) (v := .str ps[v.toNat]) (atI_of v0 (by rw [List.getElem?_map, List.getElem?_eq_getElem hvl]; rfl)) (w_cons (w_op (w_c (w_call (w_cons (w_var rfl (w_cons (w_c (w_nil ⟨p, 30, rfl, s3, by decide, by decide, fun w G4 k4 s4 _ _ => w_I0 (w_nil ⟨sz (by simp), ?_⟩)⟩)))))))))
    exact w_new fun t G5 _ s5 e5 => q t _ _ G5 (((k.trans k3).trans k4).trans (Same.kp s5)) (s4.same s5) e5 (hpa.2.2.2 _ (List.getElem_mem hvl)).1
  unfold t__law_ref
  refine w_seq (w_ifS (w_and (w_test (w_op (w_cb (w_cons (w_var rfl (w_nil (w_lenL (SqL.of hl) (w_c (w_I0 (w_exb (w_ite (fun c => ?_) (fun c => ite_f (by decide) (w_next (fin H Kp.refl hs))))))))))))))))
  rw [lsV_len] at c
  refine w_test (w_op (w_call (w_cons (w_var rfl (w_cons (w_c (w_nil ⟨p, 8, rfl, hs, by decide, by decide, fun v G3 k3 s3 v0 v1 => w_c (w_I0 (w_exb (w_ite (fun c2 => ?_) (fun c2 => w_next (fin G3 k3 s3)))))⟩)))))))
  have hl3 := k3 _ _ npl hl
  refine w_ret (w_prop (w_op (w_var rfl (w_call (w_cons (w_var rfl (w_cons (w_cb (w_cons (w_var rfl (w_nil (w_lenL (SqL.of hl3) (w_nil ⟨p, _, rfl, s3, by rw [lsV_len]; omega, by rw [lsV_len]; omega, fun w G4 k4 s4 w0 w1 => ?_⟩)))))))))))))
  rw [lsV_len] at w1
  have hwl : w.toNat < ls.length := by omega
  have ho := hok _ (List.getElem_mem hwl)
  have ho4 := (ho.1.fm ho.2 (Fm.stm k3 hs)).fm ho.2 (Fm.stm k4 s3)
  obtain ⟨dx, d, sv, bv, hx, _⟩ := id ho4
  refine w_ixL (SqL.of (k4 _ _ npl hl3)) (v := .ref ls[w.toNat].1) (atI_of w0 (by rw [List.getElem?_map, List.getElem?_eq_getElem hwl]; rfl)) ⟨_, dx, _, rfl, hx, _, _, rfl, ho4, fun t G5 _ s5 e5 => q t _ _ G5 ((k3.trans k4).trans (Same.kp s5)) (s4.same s5) e5 ho.2.aa⟩
end

/-! ### bodies and letters that the laws of boards draw -/
theorem bodyOk_say {z : Str} (hl : z.length ≤ 400) (ha : ascii z = true) : BodyOk (.tuple [.str (Str.ofString "say"), .str z]) := ⟨(lay2 (k := 1) (lay_str (ascii_of _)) (lay_str ha)).up, rfl, ⟨_, _, rfl, .inl ⟨rfl, z, rfl, hl⟩⟩, ⟨.say z, rfl⟩⟩
theorem bodyOk_ref3 {k : String} {a z : Str} {n : Int} (hk : Str.ofString k ≠ Str.ofString "say") (ha : ascii a = true) (hz : ascii z = true) (hl : z.length ≤ 400) (hb : ∃ B : Bb, (PyData.tuple [.str (Str.ofString k), .tuple [.str a, .int n], .str z]) = B.toD) : BodyOk (.tuple [.str (Str.ofString k), .tuple [.str a, .int n], .str z]) :=
  ⟨lay3 (k := 2) (lay_str (ascii_of _)) (lay2 (k := 1) (lay_str ha) lay_int) (lay_str hz), rfl, ⟨_, _, rfl, (if h : Str.ofString k = Str.ofString "reply" then .inr (.inl ⟨h, _, z, rfl, hl⟩) else .inr (.inr ⟨hk, h⟩))⟩, hb⟩
theorem bodyOk_ref2 {k : String} {a : Str} {n : Int} (hk : Str.ofString k ≠ Str.ofString "say") (hk2 : Str.ofString k ≠ Str.ofString "reply") (ha : ascii a = true) (hb : ∃ B : Bb, (PyData.tuple [.str (Str.ofString k), .tuple [.str a, .int n]]) = B.toD) : BodyOk (.tuple [.str (Str.ofString k), .tuple [.str a, .int n]]) :=
  ⟨lay2 (k := 2) (lay_str (ascii_of _)) (lay2 (k := 1) (lay_str ha) lay_int), rfl, ⟨_, _, rfl, .inr (.inr ⟨hk, hk2⟩)⟩, hb⟩
theorem bodyOk_str2 {k z : Str} (hk : k ≠ Str.ofString "say") (hk2 : k ≠ Str.ofString "reply") (ak : ascii k = true) (ha : ascii z = true) (hb : ∃ B : Bb, (PyData.tuple [.str k, .str z]) = B.toD) : BodyOk (.tuple [.str k, .str z]) :=
  ⟨(lay2 (k := 1) (lay_str ak) (lay_str ha)).up, rfl, ⟨_, _, rfl, .inr (.inr ⟨hk, hk2⟩)⟩, hb⟩
theorem bodyOk_seen : BodyOk (.tuple [.str (Str.ofString "seen")]) := ⟨(lay1 (k := 1) (lay_str (ascii_of _))).up, rfl, ⟨_, _, rfl, .inr (.inr ⟨by decide, by decide⟩)⟩, ⟨.seen, rfl⟩⟩
def spLetters (K : PySem.W.Frag) (C : Addr) : Sp := fun vs H Q _ => ∃ (sc : Addr) (ns : List Int) (pa : Addr) (ps : List Str), vs = [.ref sc, .ref pa, .int 1] ∧ SqL K H sc (ns.map V.int) ∧ ns.length ≤ 63 ∧ PeopleAt H pa ps ∧
  ∀ p (ls : List (Addr × Lt)) H', H p = none → Same H H' → H' p = some (.lst (lsV ls)) → LsOk Any C H' ls → (∀ y ∈ ls, BodyOk y.2.b) → ls.length ≤ 60 → (∀ y ∈ ls, y.2.a ∈ ps) → Q (.ref p) H'
theorem Fm.kx {p1 c : Addr} {ys : List V} {cs : List (L2.Key × V)} {G3 G : Hp} (h1 : G3 p1 = some (.lst ys)) (hc : G3 c = some (.dK cs)) (k : ∀ b o, b ≠ p1 → b ≠ c → G3 b = some o → G b = some o) : Fm (Off c) G3 G :=
  ⟨fun b xs e => k b _ (ne_kind e h1 fun z => by cases z) (ne_kind e hc fun z => by cases z) e, fun b C dx fs e => k b _ (ne_kind e h1 fun z => by cases z) (ne_kind e hc fun z => by cases z) e, fun b kvs e n => k b _ (ne_kind e h1 fun z => by cases z) n e⟩
section
variable {K : PySem.W.Frag} {C : Addr} {vs : List V} {H : Hp} {Q : VK} {E : XK}
theorem dn_strD {ok : Addr → Prop} {z : Str} {v : V} {H : Hp} (h : v = .str z) : Dn ok H v (.str z) := h ▸ .str z
/-- _law_body: slots 0:letters 1:people 2:stream 3:kind 4:ref 5:name 6:act -/
def t__law_body (K : PySem.W.Frag) (C_Letter : Addr) : TS := (tSeq (tAsg (tCall (spNext K) [] C8.E0 (tCons (tVar 2) (tCons (tC (.int 20)) tNil))) (gName 3))
  (tSeq (tAsg (tCall (spLRef K C_Letter) [] C8.E0 (tCons (tVar 0) (tCons (tVar 1) (tCons (tVar 2) tNil)))) (gName 4))
  (tSeq (tIfS (tTest (tOp qLt (tVar 3) (tC (.int 5)))) (tRet (tTup (tCons (tC (.str "say")) (tCons (tCall (spLText K) [] C8.E0 (tCons (tVar 1) (tCons (tVar 2) tNil))) tNil)))) tNext)
  (tSeq (tIfS (tTest (tOp qLt (tVar 3) (tC (.int 10)))) (tRet (tTup (tCons (tC (.str "reply")) (tCons (tVar 4) (tCons (tCall (spLText K) [] C8.E0 (tCons (tVar 1) (tCons (tVar 2) tNil))) tNil))))) tNext)
  (tSeq (tIfS (tTest (tOp qLt (tVar 3) (tC (.int 12)))) (tRet (tTup (tCons (tC (.str "edit")) (tCons (tVar 4) (tCons (tCall (spLText K) [] C8.E0 (tCons (tVar 1) (tCons (tVar 2) tNil))) tNil))))) tNext)
  (tSeq (tIfS (tTest (tOp qLt (tVar 3) (tC (.int 15)))) (tRet (tTup (tCons (tC (.str "mark")) (tCons (tVar 4) (tCons (tOp (rIxT K) (tTup (tCons (tC (.str "ha")) (tCons (tC (.str "yes")) (tCons (tC (.str "a0")) (tCons (tC (.str "zz")) tNil))))) (tCall (spNext K) [] C8.E0 (tCons (tVar 2) (tCons (tC (.int 4)) tNil)))) tNil))))) tNext)
  (tSeq (tAsg (tOp (rIxL K) (tVar 1) (tCall (spNext K) [] C8.E0 (tCons (tVar 2) (tCons (tCB (qLenSeq K) (tCons (tVar 1) tNil)) tNil)))) (gName 5))
  (tSeq (tAsg (tTup (tCons (tOp (rIxT K) (tTup (tCons (tC (.str "cut")) (tCons (tC (.str "hand")) tNil))) (tCall (spNext K) [] C8.E0 (tCons (tVar 2) (tCons (tC (.int 2)) tNil)))) (tCons (tVar 5) tNil))) (gName 6))
  (tRet (tOp (rIxT K) (tTup (tCons (tTup (tCons (tC (.str "recall")) (tCons (tVar 4) tNil))) (tCons (tTup (tCons (tC (.str "title")) (tCons (tOp qMulS (tCall (spLWord K) [] C8.E0 (tCons (tVar 2) tNil)) (tCall (spNext K) [] C8.E0 (tCons (tVar 2) (tCons (tC (.int 2)) tNil)))) tNil))) (tCons (tTup (tCons (tC (.str "add")) (tCons (tVar 5) tNil))) (tCons (tVar 6) (tCons (tTup (tCons (tC (.str "seen")) tNil)) tNil)))))) (tOp qSub (tVar 3) (tC (.int 15)))))))))))))
theorem l__law_body (h : spLBody K C vs H Q E) : vs.length = 3 := by obtain ⟨l, pa, p, ls, ps, rfl, _⟩ := h; rfl
theorem r__law_body (LC : IsC_Letter K C) (h : spLBody K C vs H Q E) : t__law_body K C { nx := fun _ H' => Q .non H', rt := Q } (start ["letters", "people", "stream", "kind", "ref", "name", "act"] vs) H := by
  obtain ⟨l, pa, p, ls, ps, rfl, hs, hpa, hl, hok, hll, q⟩ := h
  have npl := stm_ne hs hl
  unfold t__law_body
  refine w_seq (w_asg (w_call (w_cons (w_var rfl (w_cons (w_c (w_nil ⟨p, 20, rfl, hs, by decide, by decide, fun kd H1 k1 s1 c0 c1 => w_name ?_⟩)))))))
  with_reducible refine w_seq ?_
  refine w_asg (w_call (w_cons (w_var rfl (w_cons (w_var rfl (w_cons (w_var rfl (w_nil ⟨l, pa, p, ls, ps, rfl, s1, hpa.kp hs k1, k1 _ _ npl hl, hok.fm (Fm.stm k1 hs), hll, fun t a n H2 k2 s2 et ha => w_name ?_⟩))))))))
  have k12 := k1.trans k2
  have hp2 := hpa.kp hs k12
  have dref : ∀ {G : Hp}, Tk H2 G → Dn Any G (.ref t) (.tuple [.str a, .int n]) := fun tk => .tup trivial (tk _ _ et) (.cons (.str _) (.cons (.int _) .nil))
  -- say
  with_reducible refine w_seq ?_
  refine w_ifS (w_test (w_op (w_var rfl (w_c (w_I0 (w_exb (w_ite (fun c2 => ?_) (fun c2 => w_next ?_))))))))
  · refine w_ret (w_tupV (w_cons (w_c (w_cons (w_call (w_cons (w_var rfl (w_cons (w_var rfl (w_nil ⟨pa, p, ps, rfl, s2, hp2, fun z H3 k3 s3 zl za => w_nil ⟨sz (by simp), w_new fun r H4 _ s4 e4 => ?_⟩⟩))))))))))
    exact q _ _ H4 ((k12.trans k3).trans (Same.kp s4)) (s3.same s4) (.tup trivial e4 (.cons (.str _) (.cons (.str _) .nil))) (bodyOk_say zl za)
  -- reply
  with_reducible refine w_seq ?_
  refine w_ifS (w_test (w_op (w_var rfl (w_c (w_I0 (w_exb (w_ite (fun c3 => ?_) (fun c3 => w_next ?_))))))))
  · refine w_ret (w_tupV (w_cons (w_c (w_cons (w_var rfl (w_cons (w_call (w_cons (w_var rfl (w_cons (w_var rfl (w_nil ⟨pa, p, ps, rfl, s2, hp2, fun z H3 k3 s3 zl za => w_nil ⟨sz (by simp), w_new fun r H4 _ s4 e4 => ?_⟩⟩))))))))))))
    exact q _ _ H4 ((k12.trans k3).trans (Same.kp s4)) (s3.same s4) (.tup trivial e4 (.cons (.str _) (.cons (dref ((Fm.stm (ok := Any) k3 s2).1.trans (Tk.same s4))) (.cons (.str _) .nil)))) (bodyOk_ref3 (by decide) ha za zl ⟨.reply _ _ _, rfl⟩)
  -- edit
  with_reducible refine w_seq ?_
  refine w_ifS (w_test (w_op (w_var rfl (w_c (w_I0 (w_exb (w_ite (fun c4 => ?_) (fun c4 => w_next ?_))))))))
  · refine w_ret (w_tupV (w_cons (w_c (w_cons (w_var rfl (w_cons (w_call (w_cons (w_var rfl (w_cons (w_var rfl (w_nil ⟨pa, p, ps, rfl, s2, hp2, fun z H3 k3 s3 zl za => w_nil ⟨sz (by simp), w_new fun r H4 _ s4 e4 => ?_⟩⟩))))))))))))
    exact q _ _ H4 ((k12.trans k3).trans (Same.kp s4)) (s3.same s4) (.tup trivial e4 (.cons (.str _) (.cons (dref ((Fm.stm (ok := Any) k3 s2).1.trans (Tk.same s4))) (.cons (.str _) .nil)))) (bodyOk_ref3 (by decide) ha za zl ⟨.edit _ _ _, rfl⟩)
  -- mark
  with_reducible refine w_seq ?_
  refine w_ifS (w_test (w_op (w_var rfl (w_c (w_I0 (w_exb (w_ite (fun c5 => ?_) (fun c5 => w_next ?_))))))))
  · refine w_ret (w_tupV (w_cons (w_c (w_cons (w_var rfl (w_cons ?_))))))
    refine (evs_pickT (P := shortD) (are_cons (short_of rfl) (are_cons (short_of rfl) (are_cons (short_of rfl) (are_cons (short_of rfl) are_nil)))) rfl (by decide) (by decide) (are_pick rfl)).use s2 fun v d H3 k3 s3 hd dn => ?_
    obtain ⟨z, rfl, za, zl⟩ := hd
    cases dn
    refine w_nil ⟨sz (by simp), w_new fun r H4 _ s4 e4 => ?_⟩
    exact q _ _ H4 ((k12.trans k3).trans (Same.kp s4)) (s3.same s4) (.tup trivial e4 (.cons (.str _) (.cons (dref ((Fm.stm (ok := Any) k3 s2).1.trans (Tk.same s4))) (.cons (.str _) .nil)))) (bodyOk_ref3 (by decide) ha za (by omega) ⟨.mark _ _ _, rfl⟩)
  -- a name
  with_reducible refine w_seq ?_
  refine w_asg (w_op (w_var rfl (w_call (w_cons (w_var rfl (w_cons (w_cb (w_cons (w_var rfl (w_nil (w_lenL (SqL.of hp2.1) (w_nil ⟨p, _, rfl, s2, by rw [List.length_map]; have := hp2.2.1; omega, by rw [List.length_map]; have := hp2.2.2.1; omega, fun v H3 k3 s3 v0 v1 => ?_⟩))))))))))))
  rw [List.length_map] at v1
  have hvl : v.toNat < ps.length := by omega
  have hn := (hpa.2.2.2 _ (List.getElem_mem hvl)).1
  have hp3 := hp2.kp s2 k3
  refine w_ixL (SqL.of hp3.1) (v := .str ps[v.toNat]) (atI_of v0 (by rw [List.getElem?_map, List.getElem?_eq_getElem hvl]; rfl)) (w_name ?_)
  generalize ps[v.toNat] = nm at hn
  -- an act
  with_reducible refine w_seq ?_
  refine w_asg (w_tupV (w_cons ?_))
  refine (evs_pickT (P := fun d => ∃ k : Str, d = .str k ∧ (k = Str.ofString "cut" ∨ k = Str.ofString "hand")) (are_cons (evs_str ⟨_, rfl, .inl rfl⟩) (are_cons (evs_str ⟨_, rfl, .inr rfl⟩) are_nil)) rfl (by decide) (by decide) (are_pick rfl)).use s3 fun w d H4 k4 s4 hd dn => ?_
  obtain ⟨ak, rfl, hak⟩ := hd
  cases dn
  refine w_cons (w_var rfl (w_nil ⟨sz (by simp), w_new fun act H5 _ s5 e5 => w_name ?_⟩))
  have hbA : BodyOk (.tuple [.str ak, .str nm]) := bodyOk_str2 (by rcases hak with rfl | rfl <;> decide) (by rcases hak with rfl | rfl <;> decide) (by rcases hak with rfl | rfl <;> exact ascii_of _) hn ⟨.act _ _ (by rcases hak with rfl | rfl <;> simp), rfl⟩
  have tk5 : Tk H2 H5 := ((Fm.stm (ok := Any) k3 s2).1.trans (Fm.stm (ok := Any) k4 s3).1).trans (Tk.same s5)
  have s45 := s4.same s5
  have kp5 : Kp p H H5 := ((k12.trans k3).trans k4).trans (Same.kp s5)
  with_reducible refine w_ret ?_
  refine w_op (w_tupV (w_cons (w_tupV (w_cons (w_c (w_cons (w_var rfl (w_nil ⟨sz (by simp), w_new fun t0 H6 _ s6 e6 => ?_⟩))))))))
  refine w_cons (w_tupV (w_cons (w_c (w_cons (w_op (w_call (w_cons (w_var rfl (w_nil ⟨p, rfl, s45.same s6, fun z H7 k7 s7 zl za => ?_⟩)))))))))
  refine w_call (w_cons (w_var rfl (w_cons (w_c (w_nil ⟨p, 2, rfl, s7, by decide, by decide, fun m H8 k8 s8 m0 m1 => ?_⟩)))))
  refine w_mulS m0 (by omega) (by omega) fun hml => w_nil ⟨sz (by simp), w_new fun t1 H9 _ s9 e9 => ?_⟩
  refine w_cons (w_tupV (w_cons (w_c (w_cons (w_var rfl (w_nil ⟨sz (by simp), w_new fun t2 H10 _ s10 e10 => ?_⟩))))))
  refine w_cons (w_var rfl (w_cons (w_tupV (w_cons (w_c (w_nil ⟨sz (by simp), w_new fun t4 H11 _ s11 e11 => ?_⟩))))))
  refine w_nil ⟨sz (by simp), w_new fun T H12 _ s12 e12 => w_op (w_var rfl (w_c (w_I0 ?_)))⟩
  have tk7 : Tk H6 H8 := (Fm.stm (ok := Any) k7 (s45.same s6)).1.trans (Fm.stm (ok := Any) k8 s7).1
  have tkE : Tk H8 H12 := (((Tk.same s9).trans (Tk.same s10)).trans (Tk.same s11)).trans (Tk.same s12)
  have tk6 : Tk H6 H12 := tk7.trans tkE
  have tk2 : Tk H2 H12 := (tk5.trans (Tk.same s6)).trans tk6
  have kpE : Kp p H H12 := (((((((kp5.trans (Same.kp s6)).trans k7).trans k8).trans (Same.kp s9)).trans (Same.kp s10)).trans (Same.kp s11)).trans (Same.kp s12))
  have sE : Stm H12 p := (((s8.same s9).same s10).same s11).same s12
  have hj : kd - 15 = 0 ∨ kd - 15 = 1 ∨ kd - 15 = 2 ∨ kd - 15 = 3 ∨ kd - 15 = 4 := by omega
  rcases hj with e | e | e | e | e <;> rw [e]
  · refine w_ixT (SqT.of e12) (atI_nat (j := 0) rfl) (q _ _ H12 kpE sE (.tup trivial (tk6 _ _ e6) (.cons (.str _) (.cons (dref tk2) .nil))) (bodyOk_ref2 (by decide) (by decide) ha ⟨.recall _ _, rfl⟩))
  · refine w_ixT (SqT.of e12) (atI_nat (j := 1) rfl) (q _ _ H12 kpE sE (.tup trivial (s12 _ _ (s11 _ _ (s10 _ _ e9))) (.cons (.str _) (.cons (.str _) .nil))) (bodyOk_str2 (by decide) (by decide) (ascii_of _) (ascii_mul m za) ⟨.title _, rfl⟩))
  · refine w_ixT (SqT.of e12) (atI_nat (j := 2) rfl) (q _ _ H12 kpE sE (.tup trivial (s12 _ _ (s11 _ _ e10)) (.cons (.str _) (.cons (.str _) .nil))) (bodyOk_str2 (by decide) (by decide) (ascii_of _) hn ⟨.act _ _ (.inl rfl), rfl⟩))
  · refine w_ixT (SqT.of e12) (atI_nat (j := 3) rfl) (q _ _ H12 kpE sE (.tup trivial (tk6 _ _ (s6 _ _ e5)) (.cons (.str _) (.cons (.str _) .nil))) hbA)
  · refine w_ixT (SqT.of e12) (atI_nat (j := 4) rfl) (q _ _ H12 kpE sE (.tup trivial (s12 _ _ e11) (.cons (.str _) .nil)) bodyOk_seen)
/-- _law_letters: slots 0:script 1:people 2:least 3:letters 4:counts 5:k 6:stream 7:author 8:name 9:seen 10:body -/
def t__law_letters (K : PySem.W.Frag) (C_Letter : Addr) : TS := (tSeq (tAsg (tLst tNil) (gName 3))
  (tSeq (tAsg tDNewK (gName 4))
  (tSeq (tFor (iRng2 (tCons (tVar 2) (tCons (tCB qMin2 (tCons (tCB (qLenSeq K) (tCons (tVar 0) tNil)) (tCons (tC (.int 61)) tNil))) tNil))) (gName 5) (tSeq (tAsg (tCall (spStream K) [] C8.E0 (tCons (tOp (rIxL K) (tVar 0) (tVar 5)) (tCons (tVar 5) tNil))) (gName 6))
  (tSeq (tAsg (tOp (rIxL K) (tVar 1) (tCall (spNext K) [] C8.E0 (tCons (tVar 6) (tCons (tCB (qLenSeq K) (tCons (tVar 1) tNil)) tNil)))) (gName 7))
  (tSeq (sDPut (tVar 4) (tVar 7) (tOp qAdd (tDGet2 (tVar 4) (tVar 7) (tC (.int 0))) (tC (.int 1))))
  (tSeq (tAsg (tCB (qTupleOf K) (tCons (tLc (iList K (tCB Wp.qSortedD (tCons (tVar 4) tNil))) (gName 8) tYes (tTup (tCons (tVar 8) (tCons (tDGet (tVar 4) (tVar 8)) tNil))) [8]) tNil)) (gName 9))
  (tSeq (tAsg (tCall (spLBody K C_Letter) [] C8.E0 (tCons (tVar 3) (tCons (tVar 1) (tCons (tVar 6) tNil)))) (gName 10))
  (tDrop (tBM K "list" rAppend (tVar 3) (tCons (tMake C_Letter (spInit K C_Letter) [] C8.E0 (tCons (tVar 7) (tCons (tDGet (tVar 4) (tVar 7)) (tCons (tOp qAdd (tVar 5) (tC (.int 2))) (tCons (tVar 9) (tCons (tVar 10) tNil)))))) tNil)))))))))
  (tRet (tVar 3)))))
theorem l__law_letters (h : spLetters K C vs H Q E) : vs.length = 3 := by obtain ⟨sc, ns, pa, ps, rfl, _⟩ := h; rfl
theorem r__law_letters (LC : IsC_Letter K C) (h : spLetters K C vs H Q E) : t__law_letters K C { nx := fun _ H' => Q .non H', rt := Q } (start ["script", "people", "least", "letters", "counts", "k", "stream", "author", "name", "seen", "body"] vs) H := by
  obtain ⟨sc, ns, pa, ps, rfl, hS, hn, hpa, q⟩ := h
  unfold t__law_letters
  refine w_seq (w_asg (w_lstV (w_nil ⟨sz (by simp), w_new fun p H1 p0 s1 e1 => w_name ?_⟩)))
  with_reducible refine w_seq ?_
  refine w_asg (w_dnewK fun c H2 c0 s2 e2 => w_name ?_)
  with_reducible refine w_seq ?_
  refine w_for (w_iRng2 (w_cons (w_var rfl (w_cons (w_cb (w_cons (w_cb (w_cons (w_var rfl (w_nil (w_lenL ((s1.trans s2).seq hS) (w_cons (w_c (w_nil (w_min2 (w_nil ?_))))))))))))))))
  rw [List.length_map]
  have hm : (if (61 : Int) < (ns.length : Int) then (61 : Int) else (ns.length : Int)) ≤ 61 ∧ (if (61 : Int) < (ns.length : Int) then (61 : Int) else (ns.length : Int)) ≤ ns.length ∧ 0 ≤ (if (61 : Int) < (ns.length : Int) then (61 : Int) else (ns.length : Int)) := by
    split <;> omega
  generalize (if (61 : Int) < (ns.length : Int) then (61 : Int) else (ns.length : Int)) = m at hm
  refine ⟨1, m, rfl, ⟨by decide, by decide, by omega, by omega⟩, ?_⟩
  refine for_it walk_range (fun i σ G => (∃ u5 u6 u7 u8 u9 u10, σ = [some (.ref sc), some (.ref pa), some (.int 1), some (.ref p), some (.ref c), u5, u6, u7, u8, u9, u10]) ∧ Same H G ∧ ∃ ls cs ks f, G p = some (.lst (lsV ls)) ∧ ls.length = i ∧ LsOk (Off c) C G ls ∧ (∀ y ∈ ls, BodyOk y.2.b ∧ y.2.a ∈ ps) ∧ G c = some (.dK cs) ∧ DI cs ks f ∧ (∀ a ∈ ks, a ∈ ps) ∧ ks.length ≤ i ∧ ∀ a ∈ ks, 1 ≤ f a) ?_ (fun _ _ _ _ _ => trivial) ?_ ?_
  · exact ⟨⟨_, _, _, _, _, _, rfl⟩, s1.trans s2, [], [], [], fun _ => 0, s2 _ _ e1, rfl, fun y hy => (nomatch hy), fun y hy => (nomatch hy), e2, DI.nil, fun a ha => (nomatch ha), Nat.le_refl _, fun a ha => (nomatch ha)⟩
  · rintro i x σ G G' hi ⟨⟨u5, u6, u7, u8, u9, u10, rfl⟩, sG, ls, cs, ks, f, gp, hlen, hok, hbd, gc0, di, hks, hkl, hf⟩ ⟨rfl, rfl⟩
    have hc0 : H c = none := same_none s1 c0
    have ncp : c ≠ p := (ne_of_none e1 c0).symm
    have hiI : (1 : Int) + (i : Int) < ns.length := by omega
    have hi60 : i < 60 := by omega
    refine w_name ?_
    -- the stream
    with_reducible refine w_seq ?_
    refine w_asg (w_call (w_cons (w_op (w_var rfl (w_var rfl (w_ixL (v := .int ns[1 + i]) (sG.seq hS) (atI_of (by omega) ?_) (w_cons (w_var rfl (w_nil ⟨_, _, rfl, fun p1 G1 f1 t1 st1 => w_name ?_⟩)))))))))
    · rw [List.getElem?_map, show (1 + (i : Int)).toNat = 1 + i by omega, List.getElem?_eq_getElem (by omega)]
      rfl
    have p10 : H p1 = none := same_none sG f1
    have npp : p ≠ p1 := ne_of_none gp f1
    have ncp1 : c ≠ p1 := ne_of_none gc0 f1
    have hpa1 := (hpa.same sG).same t1
    -- the author
    with_reducible refine w_seq ?_
    refine w_asg (w_op (w_var rfl (w_call (w_cons (w_var rfl (w_cons (w_cb (w_cons (w_var rfl (w_nil (w_lenL (SqL.of hpa1.1) (w_nil ?_))))))))))))
    rw [List.length_map]
    refine ⟨p1, ps.length, rfl, st1, by have := hpa.2.1; omega, by have := hpa.2.2.1; omega, fun r G2 k2 st2 r0 r1 => ?_⟩
    have hrl : r.toNat < ps.length := by omega
    have hpa2 := hpa1.kp st1 k2
    refine w_ixL (SqL.of hpa2.1) (v := .str ps[r.toNat]) (atI_of r0 (by rw [List.getElem?_map, List.getElem?_eq_getElem hrl]; rfl)) (w_name ?_)
    have ham : ps[r.toNat] ∈ ps := List.getElem_mem hrl
    generalize ps[r.toNat] = a at ham
    have sG2 : Same H G2 := Same.kp0 (sG.trans t1) k2 p10
    have gp2 := k2 _ _ npp (t1 _ _ gp)
    have gc2 := k2 _ _ ncp1 (t1 _ _ gc0)
    have ok2 : LsOk (Off c) C G2 ls := (hok.same t1).fm (Fm.stm k2 st1)
    -- its count
    with_reducible refine w_seq ?_
    refine w_dput (w_op (w_dget2 (w_var rfl ⟨c, rfl, .inl ⟨_, .inl gc2⟩, w_var rfl (w_c ⟨_, DGet.k (k := Sum.inr a) gc2, ?_⟩)⟩)))
    rw [di.getD a]
    refine w_c (w_I0 (w_var rfl (w_var rfl (dputK (k := Sum.inr a) gc2 (by rw [di.len]; omega) fun G3 k3 gc3 => ?_))))
    obtain ⟨ks', di', hak, hmk, hkl'⟩ := di.put a (cv ks f a + 1)
    have sG3 : Same H G3 := Same.kp0 sG2 k3 hc0
    have gp3 := k3 _ _ ncp.symm gp2
    have st3 : Stm G3 p1 := stm_kp st2 k3 ncp1.symm
    have ok3 : LsOk (Off c) C G3 ls := ok2.fm (Fm.kpD k3 gc2 (fun _ z => by cases z) fun _ _ _ z => by cases z)
    have hks' : ∀ b ∈ ks', b ∈ ps := fun b hb => ((hmk b).mp hb).elim (hks b) fun e => e ▸ ham
    have hf' : ∀ b ∈ ks', 1 ≤ (if b = a then cv ks f a + 1 else f b) := fun b hb => by
      have h1 : 0 ≤ cv ks f a := by
        unfold cv
        split
        · rename_i m
          have := hf a m
          omega
        · exact Int.le_refl _
      split
      · omega
      · rename_i nb
        exact hf b (((hmk b).mp hb).elim id fun e => absurd e nb)
    generalize hfg : (fun b => if b = a then cv ks f a + 1 else f b) = f' at di'
    have hf' : ∀ b ∈ ks', 1 ≤ f' b := fun b hb => by
      rw [← hfg]
      exact hf' b hb
    generalize putK cs (Sum.inr a) (.int (cv ks f a + 1)) = cs' at di' gc3
    have hks5 : ks'.length < 64 := by omega
    -- what it has seen
    with_reducible refine w_seq ?_
    refine w_asg (w_cb (w_cons (w_lc (w_iList (w_cb (w_cons (w_var rfl (w_nil ⟨c, cs', ks', rfl, .inl gc3, di'.keys, hks5, fun ys q0 perm srt hq0 => ?_⟩))))))))
    obtain ⟨G6, eG6, s6, e6⟩ := newT (o := .lst (ys.map V.str)) hq0
    rw [← eG6]
    refine ⟨q0, rfl, ⟨_, SqL.of e6⟩, fun D hD => ?_⟩
    have hyl : ys.length < 64 := by rw [perm.length_eq]; exact hks5
    refine lc_it (walk_list (xs := ys.map V.str)) (fun k G' => Same G6 G' ∧ ∃ ts, G' D = some (.lst ts) ∧ ts.length ≤ k ∧ DnAll Any G' ts ((ys.take k).map fun y => pairD (y, f' y))) ⟨Same.upd (Same.refl G6) hD, [], upd_same, Nat.le_refl _, .nil⟩ (fun k G' _ e => SqL.of (e.1 _ _ e6)) ?_ ?_
    · rintro k x G7 G7' hk ⟨s7, ts, eD, hts, dts⟩ ⟨rfl, hx⟩
      rw [List.getElem?_map] at hx
      obtain ⟨y, hy, rfl⟩ := Option.map_eq_some_iff.mp hx
      have hym : y ∈ ks' := perm.mem_iff.mp (List.mem_of_getElem? hy)
      have hk7 := s7 _ _ (s6 _ _ gc3)
      have et : ys.take (k + 1) = ys.take k ++ [y] := by rw [List.take_add_one, hy]; rfl
      have hkk : k < 64 := by
        rw [List.length_map] at hk
        omega
      refine w_name ⟨rfl, w_yes (iteT_ ?_)⟩
      refine w_tupV (w_cons (w_var rfl (w_cons (w_dget (w_var rfl (w_var rfl ⟨c, .int (f' y), rfl, by rw [← di'.has hym]; exact DGet.k (k := Sum.inr y) hk7, w_nil ⟨sz (by simp), w_new fun t G8 t0 s8 et8 => ⟨ts, s8 _ _ eD, ?_, ?_, _, upd_same, ?_, ?_⟩⟩⟩))))))
      · exact Nat.lt_of_le_of_lt (show ts.length ≤ 64 by omega) (by decide)
      · exact fun b o e2 => by
          rw [upd_ne (ne_of_none e2 hD)]
          exact s8 _ _ (s7 _ _ e2)
      · rw [List.length_append, List.length_singleton]
        omega
      · have tk : Tk G8 (upd G8 D (.lst (ts ++ [V.ref t]))) := Tk.kpL Kp.refl.updp (s8 _ _ eD)
        rw [et, List.map_append]
        refine DnAll.app (dnall_tk tk (plainAll_of fun d hd => ?_) (dts.same s8)) (.cons (.tup trivial (tk _ _ et8) (.cons (.str _) (.cons (.int _) .nil))) .nil)
        obtain ⟨y', _, rfl⟩ := List.mem_map.mp hd
        rfl
    rintro G7 ⟨s7, ts, eD, hts, dts⟩
    rw [show (ys.map V.str).length = ys.length from List.length_map _, List.take_length] at dts
    refine w_nil (w_tupleOfL (SqL.of eD) fun l hl => ?_)
    obtain ⟨G8, eG8, s8, e8⟩ := newT (o := .tup ts) hl
    rw [← eG8]
    refine w_name ?_
    obtain ⟨PS, hPS⟩ : ∃ PS : List (Str × Int), PS = ys.map fun y => (y, f' y) := ⟨_, rfl⟩
    have hsv : Dn Any G8 (.ref l) (seenD PS) := by
      refine .tup trivial e8 ?_
      rw [hPS, List.map_map]
      exact dts.same s8
    have hPm : ∀ q ∈ PS, q.1 ∈ ks' := fun q hq => by
      rw [hPS] at hq
      obtain ⟨y, hy, rfl⟩ := List.mem_map.mp hq
      exact perm.mem_iff.mp hy
    have hPn : (PS.map (·.1)).Nodup := by
      rw [hPS, List.map_map, show ((fun x : Str × Int => x.1) ∘ fun y => (y, f' y)) = id from rfl, List.map_id]
      exact perm.nodup_iff.mpr di'.nd
    have hPl : PS.length ≤ 63 := by
      rw [hPS, List.length_map]
      omega
    have s58 := (s6.trans s7).trans s8
    have gp8 := s58 _ _ gp3
    have hc8 := s58 _ _ gc3
    have st8 := st3.same s58
    have ok8 := ok3.same s58
    -- the body
    with_reducible refine w_seq ?_
    refine w_asg (w_call (w_cons (w_var rfl (w_cons (w_var rfl (w_cons (w_var rfl (w_nil ⟨p, pa, p1, ls, ps, rfl, st8, hpa.same (sG3.trans s58), gp8, ok8.any, by omega, fun bv B G9 k9 st9 dB okB => w_name ?_⟩))))))))
    have gp9 := k9 _ _ npp gp8
    have hc9 := k9 _ _ ncp1 hc8
    have ok9 := ok8.fm (Fm.stm k9 st8)
    have hsv9 := dn_tk (Fm.stm (ok := Any) k9 st8).1 (plain_seen PS) hsv
    -- the letter
    with_reducible refine w_drop ?_
    refine w_bm (w_var rfl (w_tyL gp9 (w_cons (w_make ?_))))
    refine w_cons (w_var rfl (w_cons (w_dget (w_var rfl (w_var rfl ⟨c, .int (f' a), rfl, by rw [← di'.has hak]; exact DGet.k (k := Sum.inr a) hc9, ?_⟩)))))
    refine w_cons (w_op (w_var rfl (w_c (w_I0 (w_cons (w_var rfl (w_cons (w_var rfl (w_nil fun x dx hx hdx ndx => ?_)))))))))
    refine ⟨x, dx, a, f' a, _, PS, .ref l, bv, rfl, upd_same, dn_made2 hsv9 hx hdx _, hPn, by omega, fun G11 d hd k11 e11 ed => ⟨rfl, ?_⟩⟩
    have s11 : Same G9 G11 := same_made2 hx hdx k11
    have ndc : d ≠ c := by
      have hM : upd (upd G9 dx (.own x)) x (.ins C dx []) c = some (.dK cs') := by
        rw [upd_ne (ne_of_none hc9 hx), upd_ne (ne_of_none hc9 hdx)]
        exact hc9
      exact (ne_of_none hM hd).symm
    have gp11 := s11 _ _ gp9
    obtain ⟨L, hL⟩ : ∃ L : Lt, L = ⟨a, f' a, 1 + (i : Int) + 2, PS, B⟩ := ⟨_, rfl⟩
    have wL : Wf L := by
      subst hL
      exact ⟨hf' a hak, hPn, by show PS.length ≤ 100; omega, (hpa.2.2.2 a ham).1, fun q hq => (hpa.2.2.2 _ (hks' _ (hPm q hq))).1, okB.lay, okB.pl⟩
    have aL : LtAt (Off c) C G11 x L := by
      subst hL
      exact ⟨dx, d, .ref l, bv, e11, ndc, ed, hsv9.same s11, dB.same s11⟩
    refine w_nil (w_appV gp11 (by rw [List.length_map]; omega) fun G12 k12 e12 => ?_)
    refine ⟨⟨_, _, _, _, _, _, rfl⟩, fun b o e => ?_, ls ++ [(x, L)], cs', ks', f', ?_, by rw [List.length_append, hlen]; rfl, ?_, fun y hy => ?_, k12 _ _ ncp (s11 _ _ hc9), di', hks', by omega, hf'⟩
    · exact k12 _ _ (ne_of_none e p0) (s11 _ _ (k9 _ _ (ne_of_none e p10) (s58 _ _ (sG3 _ _ e))))
    · rw [e12, lsV_app]
      rfl
    · refine LsOk.fm (LsOk.app (ok9.same s11) fun y hy => ?_) (Fm.kpL k12 gp11)
      rw [List.mem_singleton.mp hy]
      exact ⟨aL, wL⟩
    · rcases List.mem_append.mp hy with hy | hy
      · exact hbd y hy
      · rw [List.mem_singleton.mp hy, hL]
        exact ⟨okB, ham⟩
  · rintro σ G ⟨⟨u5, u6, u7, u8, u9, u10, rfl⟩, sG, ls, cs, ks, f, gp, hlen, hok, hbd, gc0, di, hks, hkl, hf⟩
    with_reducible refine w_ret ?_
    exact w_var rfl (q p ls G p0 sG gp hok.any (fun y hy => (hbd y hy).1) (by omega) fun y hy => (hbd y hy).2)
end

/-! ### items of a board -/
def KpP (S : Addr → Prop) (H H' : Hp) : Prop := ∀ b o, ¬ S b → H b = some o → H' b = some o
theorem KpP.same {S : Addr → Prop} {H H' : Hp} (s : Same H H') : KpP S H H' := fun b o _ e => s b o e
theorem KpP.refl {S : Addr → Prop} {H : Hp} : KpP S H H := fun _ _ _ e => e
theorem KpP.kp {S : Addr → Prop} {p : Addr} {H H' : Hp} (k : Kp p H H') (h : S p) : KpP S H H' := fun b o n e => k b o (fun z => n (z ▸ h)) e
theorem KpP.trans {S : Addr → Prop} {H H1 H2 : Hp} (a : KpP S H H1) (b : KpP S H1 H2) : KpP S H H2 := fun c o n e => b c o n (a c o n e)
theorem KpP.mono {S T : Addr → Prop} {H H' : Hp} (a : KpP S H H') (h : ∀ b, S b → T b) : KpP T H H' := fun c o n e => a c o (fun z => n (h c z)) e
def flipS (nm : Str) (ns : List Str) : List Str := if nm ∈ ns then ns.filter (fun m => decide (m ≠ nm)) else ns ++ [nm]
def togF (w nm : Str) : List (Str × List Str) → List (Str × List Str)
  | [] => [(w, [nm])]
  | m :: r => if m.1 = w then (m.1, flipS nm m.2) :: r else m :: togF w nm r
theorem togF_none {w nm : Str} : ∀ {l : List (Str × List Str)}, (∀ m ∈ l, m.1 ≠ w) → togF w nm l = l ++ [(w, [nm])]
  | [], _ => rfl
  | m :: r, h => by
    rw [togF, if_neg (h m (List.mem_cons_self ..)), togF_none fun x hx => h x (List.mem_cons_of_mem _ hx)]
    rfl
theorem togF_hit {w nm : Str} {m : Str × List Str} {r : List (Str × List Str)} (e : m.1 = w) : ∀ {l : List (Str × List Str)}, (∀ x ∈ l, x.1 ≠ w) → togF w nm (l ++ m :: r) = l ++ (m.1, flipS nm m.2) :: r
  | [], _ => by
    show togF w nm (m :: r) = _
    rw [togF, if_pos e]
    rfl
  | x :: l, h => by
    show togF w nm (x :: (l ++ m :: r)) = _
    rw [togF, if_neg (h x (List.mem_cons_self ..)), togF_hit e fun y hy => h y (List.mem_cons_of_mem _ hy)]
    rfl
theorem split_first {α : Type} (p : α → Bool) : ∀ l : List α, (∀ a ∈ l, p a = false) ∨ ∃ l1 a l2, l = l1 ++ a :: l2 ∧ p a = true ∧ ∀ b ∈ l1, p b = false
  | [] => .inl fun a h => nomatch h
  | x :: l => by
    cases hx : p x with
    | true => exact .inr ⟨[], x, l, rfl, hx, fun b h => nomatch h⟩
    | false =>
      rcases split_first p l with h | ⟨l1, a, l2, e, ha, hb⟩
      · exact .inl fun a m => (List.mem_cons.mp m).elim (fun z => z ▸ hx) (h a)
      · exact .inr ⟨x :: l1, a, l2, by rw [e]; rfl, ha, fun b h => (List.mem_cons.mp h).elim (fun z => z ▸ hx) (hb b)⟩
structure It where
  a : Str
  n : Int
  text : Str
  par : Option (Str × Int)
  ed : Int
  rc : Bool
  wd : List (Str × List Str)
def itF (a tx : Str) (pv : V) (e : Int) (rc : Bool) (t d : Addr) : List (Str × V) := [("author", .str a), ("text", .str tx), ("parent", pv), ("edits", .int e), ("recalled", .bl rc), ("_ref", .ref t), ("_names", .ref d)]
/-- an item on the heap: where it stands, where its words stand, where the names under each word stand -/
structure Io where
  x : Addr
  d : Addr
  ms : List (Addr × Str × List Str)
  it : It
def fp (o : Io) : List Addr := o.x :: o.d :: o.ms.map (·.1)
abbrev nV (ns : List Str) : List (L2.Key × V) := ns.map fun m => (Sum.inr m, V.bl true)
abbrev mV (ms : List (Addr × Str × List Str)) : List (L2.Key × V) := ms.map fun m => (Sum.inr m.2.1, V.ref m.1)
def ParAt (H : Hp) (pv : V) (p : Option (Str × Int)) : Prop := (p = none ∧ pv = .non) ∨ ∃ t q, p = some q ∧ pv = .ref t ∧ H t = some (.tup [.str q.1, .int q.2])
structure IoAt (C : Addr) (H : Hp) (o : Io) : Prop where
  hx : ∃ dx t pv, H o.x = some (.ins C dx (itF o.it.a o.it.text pv o.it.ed o.it.rc t o.d)) ∧ H t = some (.tup [.str o.it.a, .int o.it.n]) ∧ ParAt H pv o.it.par
  hd : H o.d = some (.dK (mV o.ms))
  hm : ∀ m ∈ o.ms, H m.1 = some (.dK (nV m.2.2))
  wd : o.it.wd = o.ms.map (·.2)
  nd : (o.d :: o.ms.map (·.1)).Nodup
def MkSz (k : Nat) (it : It) : Prop := it.wd.length ≤ k ∧ ∀ m ∈ it.wd, m.2.length ≤ k
theorem ParAt.tk {H H' : Hp} {pv : V} {p : Option (Str × Int)} (h : ParAt H pv p) (t : ∀ b xs, H b = some (.tup xs) → H' b = some (.tup xs)) : ParAt H' pv p := by
  rcases h with h | ⟨a, q, h1, h2, h3⟩
  · exact .inl h
  · exact .inr ⟨a, q, h1, h2, t _ _ h3⟩
theorem IoAt.mem {C : Addr} {H : Hp} {o : Io} (h : IoAt C H o) {b : Addr} (hb : b ∈ fp o) : ∃ u, H b = some u ∧ ∀ xs, u ≠ .tup xs := by
  rcases List.mem_cons.mp hb with rfl | hb
  · obtain ⟨dx, t, pv, e, _⟩ := h.hx
    exact ⟨_, e, fun xs z => by cases z⟩
  · rcases List.mem_cons.mp hb with rfl | hb
    · exact ⟨_, h.hd, fun xs z => by cases z⟩
    · obtain ⟨m, hm, rfl⟩ := List.mem_map.mp hb
      exact ⟨_, h.hm m hm, fun xs z => by cases z⟩
/-- what is off an item stays with it -/
theorem IoAt.kpP {C : Addr} {H H' : Hp} {o : Io} {S : Addr → Prop} (h : IoAt C H o) (k : KpP S H H') (n : ∀ b ∈ fp o, ¬ S b) (t : ∀ b xs, H b = some (.tup xs) → H' b = some (.tup xs)) : IoAt C H' o := by
  obtain ⟨⟨dx, tt, pv, e, ht, hp⟩, hd, hm, wd, nd⟩ := h
  refine ⟨⟨dx, tt, pv, k _ _ (n _ (List.mem_cons_self ..)) e, t _ _ ht, hp.tk t⟩, k _ _ (n _ (List.mem_cons_of_mem _ (List.mem_cons_self ..))) hd, fun m hmm => k _ _ (n _ (List.mem_cons_of_mem _ (List.mem_cons_of_mem _ (List.mem_map_of_mem hmm)))) (hm m hmm), wd, nd⟩
theorem IoAt.same {C : Addr} {H H' : Hp} {o : Io} (h : IoAt C H o) (s : Same H H') : IoAt C H' o := h.kpP (S := fun _ => False) (fun b o _ e => s b o e) (fun _ _ z => z) fun b xs e => s b _ e
/-- a step of one item -/
def ItStep (C : Addr) (H : Hp) (o : Io) (it : It) (H' : Hp) : Prop := ∃ o', o'.x = o.x ∧ o'.it = it ∧ IoAt C H' o' ∧ (∀ b ∈ fp o', b ∈ fp o ∨ H b = none) ∧ KpP (· ∈ fp o) H H'
theorem itStep_obj {C dx t : Addr} {H H' : Hp} {o : Io} {pv : V} {tx : Str} {e : Int} {rc : Bool} (h : IoAt C H o) (ht : H t = some (.tup [.str o.it.a, .int o.it.n])) (hp : ParAt H pv o.it.par) (k : Kp o.x H H') (g : H' o.x = some (.ins C dx (itF o.it.a tx pv e rc t o.d))) :
    ItStep C H o { o.it with text := tx, ed := e, rc := rc } H' := by
  obtain ⟨⟨dx0, t0, pv0, hx, _⟩, hd, hm, wd, nd⟩ := h
  have tk : ∀ b xs, H b = some (.tup xs) → H' b = some (.tup xs) := fun b xs e => k _ _ (ne_kind e hx fun z => by cases z) e
  exact ⟨{ o with it := { o.it with text := tx, ed := e, rc := rc } }, rfl, rfl, ⟨⟨dx, t, pv, g, tk _ _ ht, hp.tk tk⟩, k _ _ (ne_kind hd hx fun z => by cases z) hd, fun m hmm => k _ _ (ne_kind (hm m hmm) hx fun z => by cases z) (hm m hmm), wd, nd⟩, fun b hb => .inl hb, KpP.kp k (List.mem_cons_self ..)⟩
theorem itStep_new {C dx t d : Addr} {H H' : Hp} {o : Io} {pv : V} {tx : Str} {e : Int} {rc : Bool} (h : IoAt C H o) (ht : H t = some (.tup [.str o.it.a, .int o.it.n])) (hp : ParAt H pv o.it.par) (f : H d = none) (k : Kp o.x H H') (g : H' o.x = some (.ins C dx (itF o.it.a tx pv e rc t d))) (gd : H' d = some (.dK [])) :
    ItStep C H o { o.it with text := tx, ed := e, rc := rc, wd := [] } H' := by
  obtain ⟨⟨dx0, t0, pv0, hx, _⟩, hd, hm, wd, nd⟩ := h
  have tk : ∀ b xs, H b = some (.tup xs) → H' b = some (.tup xs) := fun b xs e => k _ _ (ne_kind e hx fun z => by cases z) e
  refine ⟨⟨o.x, d, [], { o.it with text := tx, ed := e, rc := rc, wd := [] }⟩, rfl, rfl, ⟨⟨dx, t, pv, g, tk _ _ ht, hp.tk tk⟩, gd, (fun m hmm => nomatch hmm), rfl, List.nodup_cons.mpr ⟨(fun z => nomatch z), List.nodup_nil⟩⟩, fun b hb => ?_, KpP.kp k (List.mem_cons_self ..)⟩
  rcases List.mem_cons.mp hb with rfl | hb
  · exact .inl (List.mem_cons_self ..)
  · rw [List.mem_singleton.mp hb]
    exact .inr f
theorem itStep_in {C : Addr} {H H2 H' : Hp} {o : Io} {l r : List (Addr × Str × List Str)} {m : Addr × Str × List Str} {ns : List Str} (h : IoAt C H o) (e : o.ms = l ++ m :: r) (s : Same H H2) (k : Kp m.1 H2 H') (g : H' m.1 = some (.dK (nV ns))) :
    ItStep C H o { o.it with wd := l.map (·.2) ++ (m.2.1, ns) :: r.map (·.2) } H' := by
  have h2 := h.same s
  obtain ⟨⟨dx, t, pv, hx, ht, hp⟩, hd, hm, wd, nd⟩ := h2
  have em := hm m (by rw [e]; exact List.mem_append_right _ (List.mem_cons_self ..))
  have tk : ∀ b xs, H2 b = some (.tup xs) → H' b = some (.tup xs) := fun b xs z => k _ _ (ne_kind z em fun y => by cases y) z
  have ef : (l ++ (m.1, m.2.1, ns) :: r).map (·.1) = o.ms.map (·.1) := by
    rw [e, List.map_append, List.map_append]
    rfl
  have nm1 := nd
  rw [List.nodup_cons] at nm1
  have nd2 := nm1.2
  rw [e, List.map_append, List.map_cons, List.nodup_append, List.nodup_cons] at nd2
  have hdm : o.d ≠ m.1 := fun z => nm1.1 (z ▸ List.mem_map_of_mem (by rw [e]; exact List.mem_append_right _ (List.mem_cons_self ..)))
  have hin : ∀ q ∈ fp o, q = m.1 ∨ q ≠ m.1 := fun q _ => Classical.em _
  refine ⟨⟨o.x, o.d, l ++ (m.1, m.2.1, ns) :: r, { o.it with wd := l.map (·.2) ++ (m.2.1, ns) :: r.map (·.2) }⟩, rfl, rfl, ⟨⟨dx, t, pv, k _ _ (ne_kind hx em fun y => by cases y) hx, tk _ _ ht, hp.tk tk⟩, ?_, ?_, ?_, ?_⟩, ?_, ?_⟩
  · refine (k _ _ hdm hd).trans ?_
    rw [e]
    unfold mV
    rw [List.map_append, List.map_append]
    rfl
  · intro q hq
    rcases List.mem_append.mp hq with hq | hq
    · refine k _ _ (nd2.2.2 _ (List.mem_map_of_mem hq) _ (List.mem_cons_self ..)) (hm q ?_)
      rw [e]
      exact List.mem_append_left _ hq
    · rcases List.mem_cons.mp hq with rfl | hq
      · exact g
      · refine k _ _ (fun z => nd2.2.1.1 (z ▸ List.mem_map_of_mem hq)) (hm q ?_)
        rw [e]
        exact List.mem_append_right _ (List.mem_cons_of_mem _ hq)
  · rw [List.map_append]
    rfl
  · show (o.d :: (l ++ (m.1, m.2.1, ns) :: r).map (·.1)).Nodup
    rw [ef]
    exact nd
  · intro b hb
    refine .inl ?_
    have : fp (⟨o.x, o.d, l ++ (m.1, m.2.1, ns) :: r, { o.it with wd := l.map (·.2) ++ (m.2.1, ns) :: r.map (·.2) }⟩ : Io) = fp o := by
      unfold fp
      exact congrArg (fun z => o.x :: o.d :: z) ef
    rw [this] at hb
    exact hb
  · refine (KpP.same s).trans (KpP.kp k ?_)
    exact List.mem_cons_of_mem _ (List.mem_cons_of_mem _ (List.mem_map_of_mem (by rw [e]; exact List.mem_append_right _ (List.mem_cons_self ..))))
theorem itStep_app {C p : Addr} {H H2 H3 H' : Hp} {o : Io} {w nm : Str} (h : IoAt C H o) (s : Same H H2) (f : H p = none) (k : Kp o.d H2 H3) (k2 : Kp p H3 H') (g1 : H3 o.d = some (.dK (mV (o.ms ++ [(p, w, [nm])])))) (g : H' p = some (.dK (nV [nm]))) :
    ItStep C H o { o.it with wd := o.it.wd ++ [(w, [nm])] } H' := by
  have h2 := h.same s
  obtain ⟨⟨dx, t, pv, hx, ht, hp⟩, hd, hm, wd, nd⟩ := h2
  have nf : ∀ {b : Addr} {u : HO}, H b = some u → b ≠ p := fun e => ne_of_none e f
  obtain ⟨⟨dx0, t0, pv0, hx0, ht0, _⟩, hd0, hm0, _, _⟩ := id h
  have k3 : ∀ b u, b ≠ o.d → H b = some u → H' b = some u := fun b u n e => k2 _ _ (nf e) (k _ _ n (s _ _ e))
  have hp0 : ParAt H pv o.it.par ∨ True := .inr trivial
  have tk : ∀ b xs, H b = some (.tup xs) → H' b = some (.tup xs) := fun b xs e => k3 _ _ (ne_kind e hd0 fun y => by cases y) e
  obtain ⟨dx1, t1, pv1, e1, e2, e3⟩ := h.hx
  have nm1 := nd
  rw [List.nodup_cons] at nm1
  refine ⟨⟨o.x, o.d, o.ms ++ [(p, w, [nm])], { o.it with wd := o.it.wd ++ [(w, [nm])] }⟩, rfl, rfl, ⟨⟨dx1, t1, pv1, k3 _ _ (ne_kind e1 hd0 fun y => by cases y) e1, tk _ _ e2, e3.tk tk⟩, ?_, ?_, ?_, ?_⟩, ?_, ?_⟩
  · exact k2 _ _ (nf hd0) g1
  · intro q hq
    rcases List.mem_append.mp hq with hq | hq
    · exact k3 _ _ (fun z => nm1.1 (z ▸ List.mem_map_of_mem hq)) (hm0 q hq)
    · rw [List.mem_singleton.mp hq]
      exact g
  · show o.it.wd ++ [(w, [nm])] = (o.ms ++ [(p, w, [nm])]).map (·.2)
    rw [List.map_append, ← wd]
    rfl
  · show (o.d :: (o.ms ++ [(p, w, [nm])]).map (·.1)).Nodup
    rw [List.map_append, ← List.cons_append, List.nodup_append]
    refine ⟨nd, List.nodup_cons.mpr ⟨(fun z => nomatch z), List.nodup_nil⟩, fun a ha b hb => ?_⟩
    rw [List.mem_singleton.mp hb]
    rcases List.mem_cons.mp ha with rfl | ha
    · exact nf hd0
    · obtain ⟨m, hmm, rfl⟩ := List.mem_map.mp ha
      exact nf (hm0 m hmm)
  · intro b hb
    have hb' : b ∈ o.x :: o.d :: (o.ms ++ [(p, w, [nm])]).map (·.1) := hb
    rw [List.map_append, ← List.cons_append, ← List.cons_append, List.mem_append] at hb'
    rcases hb' with hb' | hb'
    · exact .inl hb'
    · rw [List.mem_singleton.mp hb']
      exact .inr f
  · intro b u n e
    exact k3 b u (fun z => n (z ▸ List.mem_cons_of_mem _ (List.mem_cons_self ..))) e
def editI (tx : Str) (i : It) : It := { i with text := tx, ed := i.ed + 1 }
def recallI (i : It) : It := { i with text := Str.ofString "", rc := true, wd := [] }
def markI (w nm : Str) (i : It) : It := { i with wd := togF w nm i.wd }
def spItInit (K : PySem.W.Frag) (C : Addr) : Sp := fun vs H Q _ => ∃ (x dx t : Addr) (a : Str) (n : Int) (tx : Str) (pv : V) (par : Option (Str × Int)), vs = [.ref x, .ref t, .str tx, pv] ∧ H x = some (.ins C dx []) ∧ H t = some (.tup [.str a, .int n]) ∧ ParAt H pv par ∧
  ∀ H' d, H d = none → d ≠ x → Kp x H H' → IoAt C H' ⟨x, d, [], ⟨a, n, tx, par, 0, false, []⟩⟩ → Q .non H'
def spItEdit (K : PySem.W.Frag) (C : Addr) : Sp := fun vs H Q _ => ∃ (o : Io) (tx : Str), vs = [.ref o.x, .str tx] ∧ IoAt C H o ∧ ∀ H', ItStep C H o (editI tx o.it) H' → Q .non H'
def spItRecall (K : PySem.W.Frag) (C : Addr) : Sp := fun vs H Q _ => ∃ (o : Io), vs = [.ref o.x] ∧ IoAt C H o ∧ ∀ H', ItStep C H o (recallI o.it) H' → Q .non H'
def spItMark (K : PySem.W.Frag) (C : Addr) : Sp := fun vs H Q _ => ∃ (o : Io) (w nm : Str), vs = [.ref o.x, .str w, .str nm] ∧ IoAt C H o ∧ MkSz 1000 o.it ∧ ∀ H', ItStep C H o (markI w nm o.it) H' → Q .non H'
section
variable {K : PySem.W.Frag} {C : Addr} {vs : List V} {H : Hp} {Q : VK} {E : XK} {σ : L2.St} {D : Ends} {td ty tx : TE}
theorem w_dsetd (q : td σ H fun x H1 => ∃ a, x = .ref a ∧ IsD H1 a ∧ ty σ H1 fun y H2 => tx σ H2 fun z H3 => ∃ (kvs : List (L2.Key × V)) (k : L2.Key), H3 a = some (.dK kvs) ∧ y = kV k ∧ kvs.length < sizeLine ∧
  (∀ v, valV kvs k = some v → Q v H3) ∧ (valV kvs k = none → Q z (upd H3 a (.dK (putK kvs k z))))) : tDSetd td ty tx σ H Q := q
theorem w_ddel (q : td σ H fun x H1 => ty σ H1 fun y H2 => ∃ a kvs k, x = .ref a ∧ H2 a = some (.dK kvs) ∧ y = kV k ∧ (valV kvs k).isSome = true ∧ D.nx σ (upd H2 a (.dK (dropK kvs k)))) : sDDel td ty D σ H := q
theorem valV_off {k : L2.Key} : ∀ {kvs : List (L2.Key × V)}, (∀ p ∈ kvs, p.1 ≠ k) → valV kvs k = none
  | [], _ => rfl
  | p :: r, h => (valV_neg (h p (List.mem_cons_self ..))).trans (valV_off fun x hx => h x (List.mem_cons_of_mem _ hx))
theorem valV_hit {k : L2.Key} {v : V} {r : List (L2.Key × V)} : ∀ {l : List (L2.Key × V)}, (∀ p ∈ l, p.1 ≠ k) → valV (l ++ (k, v) :: r) k = some v
  | [], _ => valV_pos rfl
  | p :: l, h => (valV_neg (h p (List.mem_cons_self ..))).trans (valV_hit fun x hx => h x (List.mem_cons_of_mem _ hx))
theorem nV_in (nm : Str) : ∀ ns : List Str, (valV (nV ns) (Sum.inr nm)).isSome = decide (nm ∈ ns)
  | [] => rfl
  | m :: ns => by
    by_cases e : m = nm
    · subst e
      rw [show valV (nV (m :: ns)) (Sum.inr m) = some _ from valV_pos rfl, decide_eq_true (List.mem_cons_self ..)]
      rfl
    · rw [show valV (nV (m :: ns)) (Sum.inr nm) = _ from valV_neg (fun z => e (Sum.inr.inj z))]
      refine (nV_in nm ns).trans ?_
      rw [decide_eq_decide, List.mem_cons]
      exact ⟨.inr, fun z => z.elim (fun y => absurd y.symm e) id⟩
theorem nV_drop (nm : Str) (ns : List Str) : dropK (nV ns) (Sum.inr nm) = nV (ns.filter fun m => decide (m ≠ nm)) := by
  unfold dropK nV
  rw [List.filter_map]
  refine congrArg _ (List.filter_congr fun m _ => ?_)
  show decide ((Sum.inr m : L2.Key) ≠ Sum.inr nm) = decide (m ≠ nm)
  rw [decide_eq_decide]
  exact ⟨fun h z => h (congrArg Sum.inr z), fun h z => h (Sum.inr.inj z)⟩
/-- Item___init__: slots 0:self 1:ref 2:text 3:parent -/
def t_Item___init__ (K : PySem.W.Frag) (C_Item : Addr) : TS := (tSeq (sFld K (tVar 0) (tOp (rIxT K) (tVar 1) (tC (.int 0))) "author")
  (tSeq (sFld K (tVar 0) (tVar 2) "text")
  (tSeq (sFld K (tVar 0) (tVar 3) "parent")
  (tSeq (sFld K (tVar 0) (tC (.int 0)) "edits")
  (tSeq (sFld K (tVar 0) (tC (.bl false)) "recalled")
  (tSeq (sFld K (tVar 0) (tVar 1) "_ref")
  (sFld K (tVar 0) tDNewK "_names")))))))
theorem l_Item___init__ (h : spItInit K C vs H Q E) : vs.length = 4 := by obtain ⟨x, dx, t, a, n, tx, pv, par, rfl, _⟩ := h; rfl
theorem r_Item___init__ (LC : IsC_Item K C) (h : spItInit K C vs H Q E) : t_Item___init__ K C { nx := fun _ H' => Q .non H', rt := Q } (start ["self", "ref", "text", "parent"] vs) H := by
  obtain ⟨x, dx, t, a, n, tx, pv, par, rfl, hx, ht, hp, q⟩ := h
  have nt : t ≠ x := ne_kind ht hx fun z => by cases z
  unfold t_Item___init__
  refine w_seq (w_sfld (w_op (w_var rfl (w_c (w_ixT (SqT.of ht) (atI_nat (j := 0) rfl) (w_var rfl (sfldV hx LC.cl LC.n_author (show 0 < 1000 by decide) fun G1 k1 g1 => ?_)))))))
  with_reducible refine w_seq ?_
  refine w_sfld (w_var rfl (w_var rfl (sfldV g1 LC.cl LC.n_text (show 1 < 1000 by decide) fun G2 k2 g2 => ?_)))
  with_reducible refine w_seq ?_
  refine w_sfld (w_var rfl (w_var rfl (sfldV g2 LC.cl LC.n_parent (show 2 < 1000 by decide) fun G3 k3 g3 => ?_)))
  with_reducible refine w_seq ?_
  refine w_sfld (w_c (w_var rfl (sfldV g3 LC.cl LC.n_edits (show 3 < 1000 by decide) fun G4 k4 g4 => ?_)))
  with_reducible refine w_seq ?_
  refine w_sfld (w_c (w_var rfl (sfldV g4 LC.cl LC.n_recalled (show 4 < 1000 by decide) fun G5 k5 g5 => ?_)))
  with_reducible refine w_seq ?_
  refine w_sfld (w_var rfl (w_var rfl (sfldV g5 LC.cl LC.n_ref (show 5 < 1000 by decide) fun G6 k6 g6 => ?_)))
  refine w_sfld (w_dnewK fun d H7 f7 s7 e7 => w_var rfl (sfldV (s7 _ _ g6) LC.cl LC.n_names (show 6 < 1000 by decide) fun G8 k8 g8 => ?_))
  have k06 := ((((k1.trans k2).trans k3).trans k4).trans k5).trans k6
  have nd : d ≠ x := (ne_of_none g6 f7).symm
  have k08 := (k06.trans (Same.kp s7)).trans k8
  have tk : ∀ b xs, H b = some (.tup xs) → G8 b = some (.tup xs) := fun b xs e => k08 _ _ (ne_kind e hx fun z => by cases z) e
  exact q G8 d (k06.free nd f7) nd k08 ⟨⟨dx, t, pv, g8, tk _ _ ht, hp.tk tk⟩, k8 _ _ nd e7, (fun m hm => nomatch hm), rfl, List.nodup_cons.mpr ⟨(fun z => nomatch z), List.nodup_nil⟩⟩
/-- Item_edit: slots 0:self 1:text -/
def t_Item_edit (K : PySem.W.Frag) (C_Item : Addr) : TS := (tSeq (sFld K (tVar 0) (tVar 1) "text")
  (sFldAug K (tVar 0) (tC (.int 1)) rAdd "edits"))
theorem l_Item_edit (h : spItEdit K C vs H Q E) : vs.length = 2 := by obtain ⟨o, tx, rfl, _⟩ := h; rfl
theorem r_Item_edit (LC : IsC_Item K C) (h : spItEdit K C vs H Q E) : t_Item_edit K C { nx := fun _ H' => Q .non H', rt := Q } (start ["self", "text"] vs) H := by
  obtain ⟨o, tx, rfl, ho, q⟩ := h
  obtain ⟨⟨dx, t, pv, hx, ht, hp⟩, hd, hm, wd, nd⟩ := ho
  unfold t_Item_edit
  refine w_seq (w_sfld (w_var rfl (w_var rfl (sfldV hx LC.cl LC.n_text (show 7 < 1000 by decide) fun G1 k1 g1 => ?_))))
  refine w_sfldAug (w_var rfl ⟨_, C, dx, _, _, rfl, g1, LC.cl, LC.n_edits, rfl, w_c (w_I0 ⟨dx, _, g1, (show 7 < 1000 by decide), ?_⟩)⟩)
  exact q _ (itStep_obj ⟨⟨dx, t, pv, hx, ht, hp⟩, hd, hm, wd, nd⟩ ht hp k1.updp upd_same)
/-- Item_recall: slots 0:self -/
def t_Item_recall (K : PySem.W.Frag) (C_Item : Addr) : TS := (tSeq (sFld K (tVar 0) (tC (.bl true)) "recalled")
  (tSeq (sFld K (tVar 0) (tC (.str "")) "text")
  (sFld K (tVar 0) tDNewK "_names")))
theorem l_Item_recall (h : spItRecall K C vs H Q E) : vs.length = 1 := by obtain ⟨o, rfl, _⟩ := h; rfl
theorem r_Item_recall (LC : IsC_Item K C) (h : spItRecall K C vs H Q E) : t_Item_recall K C { nx := fun _ H' => Q .non H', rt := Q } (start ["self"] vs) H := by
  obtain ⟨o, rfl, ho, q⟩ := h
  obtain ⟨dx, t, pv, hx, ht, hp⟩ := ho.hx
  unfold t_Item_recall
  refine w_seq (w_sfld (w_c (w_var rfl (sfldV hx LC.cl LC.n_recalled (show 7 < 1000 by decide) fun G1 k1 g1 => ?_))))
  with_reducible refine w_seq ?_
  refine w_sfld (w_c (w_var rfl (sfldV g1 LC.cl LC.n_text (show 7 < 1000 by decide) fun G2 k2 g2 => ?_)))
  refine w_sfld (w_dnewK fun d H7 f7 s7 e7 => w_var rfl (sfldV (s7 _ _ g2) LC.cl LC.n_names (show 7 < 1000 by decide) fun G8 k8 g8 => ?_))
  have nd : d ≠ o.x := (ne_of_none g2 f7).symm
  exact q G8 (itStep_new ho ht hp ((k1.trans k2).free nd f7) (((k1.trans k2).trans (Same.kp s7)).trans k8) g8 (k8 _ _ nd e7))
/-- Item_mark: slots 0:self 1:word 2:name 3:names -/
def t_Item_mark (K : PySem.W.Frag) (C_Item : Addr) : TS := (tSeq (tAsg (tDSetd (tFld K (tVar 0) "_names") (tVar 1) tDNewK) (gName 3))
  (tIfS (tB (tDIn (tVar 2) (tVar 3))) (sDDel (tVar 3) (tVar 2)) (sDPut (tVar 3) (tVar 2) (tC (.bl true)))))
theorem l_Item_mark (h : spItMark K C vs H Q E) : vs.length = 3 := by obtain ⟨o, w, nm, rfl, _⟩ := h; rfl
theorem r_Item_mark (LC : IsC_Item K C) (h : spItMark K C vs H Q E) : t_Item_mark K C { nx := fun _ H' => Q .non H', rt := Q } (start ["self", "word", "name", "names"] vs) H := by
  obtain ⟨o, w, nm, rfl, ho, sz, q⟩ := h
  obtain ⟨dx, t, pv, hx, ht, hp⟩ := ho.hx
  have hml : o.ms.length ≤ 1000 := by
    have := sz.1
    rw [ho.wd, List.length_map] at this
    exact this
  have hnl : ∀ m ∈ o.ms, m.2.2.length ≤ 1000 := fun m hm => sz.2 m.2 (by rw [ho.wd]; exact List.mem_map_of_mem hm)
  unfold t_Item_mark
  refine w_seq (w_asg (w_dsetd (w_fldV rfl hx LC.cl LC.n_names rfl ⟨o.d, rfl, .inl ⟨_, .inl ho.hd⟩, w_var rfl (w_dnewK fun p H2 f2 s2 e2 => ⟨_, Sum.inr w, s2 _ _ ho.hd, rfl, ?_, fun v ev => w_name ?_, fun ev => w_name ?_⟩)⟩)))
  · rw [List.length_map]
    exact Nat.lt_of_le_of_lt hml (by decide)
  · rcases split_first (fun m => decide (m.2.1 = w)) o.ms with hno | ⟨l, m, r, e, hw, hl⟩
    · rw [valV_off fun z hz => ?_] at ev
      · exact nomatch ev
      · obtain ⟨m, hm, rfl⟩ := List.mem_map.mp hz
        exact fun y => of_decide_eq_false (hno m hm) (Sum.inr.inj y)
    · have hw := of_decide_eq_true hw
      have e1 : valV (mV o.ms) (Sum.inr w) = some (.ref m.1) := by
        rw [e]
        unfold mV
        rw [List.map_append, List.map_cons, hw]
        exact valV_hit fun z hz => by
          obtain ⟨q, hq, rfl⟩ := List.mem_map.mp hz
          exact fun y => of_decide_eq_false (hl q hq) (Sum.inr.inj y)
      cases Option.some.inj (e1.symm.trans ev)
      have hmem : m ∈ o.ms := by rw [e]; exact List.mem_append_right _ (List.mem_cons_self ..)
      have em := s2 _ _ (ho.hm m hmem)
      have ew : markI w nm o.it = { o.it with wd := l.map (·.2) ++ (m.2.1, flipS nm m.2.2) :: r.map (·.2) } := by
        unfold markI
        rw [ho.wd, e, List.map_append, List.map_cons]
        rw [togF_hit (m := m.2) hw fun x hx => by
          obtain ⟨q, hq, rfl⟩ := List.mem_map.mp hx
          exact of_decide_eq_false (hl q hq)]
      rw [ew] at q
      refine w_ifS (w_B (w_din (w_var rfl (w_var rfl ⟨m.1, _, rfl, DGet.k (k := Sum.inr nm) em, w_exb ?_⟩))))
      rw [nV_in]
      refine w_ite (fun c => ?_) (fun c => ?_)
      · refine w_ddel (w_var rfl (w_var rfl ⟨m.1, _, Sum.inr nm, rfl, em, rfl, (nV_in nm m.2.2).trans (decide_eq_true c), ?_⟩))
        refine q _ (itStep_in ho e s2 Kp.refl.updp ?_)
        rw [upd_same, nV_drop, flipS, if_pos c]
      · refine w_dput (w_c (w_var rfl (w_var rfl (dputK (k := Sum.inr nm) em ?_ fun G k g => ?_))))
        · rw [List.length_map]
          have := hnl m hmem
          omega
        · refine q _ (itStep_in ho e s2 k ?_)
          rw [g, flipS, if_neg c, putK_new]
          · unfold nV
            rw [List.map_append]
            rfl
          · cases hv : valV (nV m.2.2) (Sum.inr nm) with
            | none => rfl
            | some z =>
              have := nV_in nm m.2.2
              rw [hv, decide_eq_false c] at this
              exact nomatch this
  · have hno : ∀ m ∈ o.ms, m.2.1 ≠ w := by
      rcases split_first (fun m => decide (m.2.1 = w)) o.ms with hno | ⟨l, m, r, e, hw, hl⟩
      · exact fun m hm => of_decide_eq_false (hno m hm)
      · have hw := of_decide_eq_true hw
        have e1 : valV (mV o.ms) (Sum.inr w) = some (.ref m.1) := by
          rw [e]
          unfold mV
          rw [List.map_append, List.map_cons, hw]
          exact valV_hit fun z hz => by
            obtain ⟨q, hq, rfl⟩ := List.mem_map.mp hz
            exact fun y => of_decide_eq_false (hl q hq) (Sum.inr.inj y)
        exact nomatch e1.symm.trans ev
    have ew : markI w nm o.it = { o.it with wd := o.it.wd ++ [(w, [nm])] } := by
      unfold markI
      rw [togF_none fun x hx => ?_]
      rw [ho.wd] at hx
      obtain ⟨q, hq, rfl⟩ := List.mem_map.mp hx
      exact hno q hq
    rw [ew] at q
    rw [putK_new _ ev]
    have npd : p ≠ o.d := (ne_of_none ho.hd f2).symm
    have e3 : (upd H2 o.d (.dK (mV o.ms ++ [(Sum.inr w, V.ref p)]))) p = some (.dK []) := by rw [upd_ne npd]; exact e2
    refine w_ifS (w_B (w_din (w_var rfl (w_var rfl ⟨p, _, rfl, DGet.k (k := Sum.inr nm) e3, w_exb (ite_f (fun z => by rw [valV_nil] at z; exact nomatch z) ?_)⟩))))
    refine w_dput (w_c (w_var rfl (w_var rfl (dputK (k := Sum.inr nm) e3 (Nat.zero_le _) fun G k g => ?_))))
    refine q _ (itStep_app ho s2 f2 Kp.refl.updp k ?_ g)
    rw [upd_same]
    unfold mV
    rw [List.map_append]
    rfl
end

/-! ### an item's ref -/
def spItRef (K : PySem.W.Frag) (CI : Addr) : Sp := fun vs H Q _ => ∃ (o : Io), vs = [.ref o.x] ∧ IoAt CI H o ∧ ∀ t, H t = some (.tup [.str o.it.a, .int o.it.n]) → Q (.ref t) H
section
variable {K : PySem.W.Frag} {C CL CI : Addr} {vs : List V} {H : Hp} {Q : VK} {E : XK} {σ : L2.St} {D : Ends}
/-- Item_ref: slots 0:self -/
def t_Item_ref (K : PySem.W.Frag) (C_Item : Addr) : TS := (tRet (tFld K (tVar 0) "_ref"))
theorem l_Item_ref (h : spItRef K CI vs H Q E) : vs.length = 1 := by obtain ⟨o, rfl, _⟩ := h; rfl
theorem r_Item_ref (LCI : IsC_Item K CI) (h : spItRef K CI vs H Q E) : t_Item_ref K CI { nx := fun _ H' => Q .non H', rt := Q } (start ["self"] vs) H := by
  obtain ⟨o, rfl, ho, q⟩ := h
  obtain ⟨dx, t, pv, hx, ht, _⟩ := ho.hx
  exact w_ret (w_fldV rfl hx LCI.cl LCI.n_ref rfl (q t ht))
end

/-! ### sorted texts -/
def leS (a b : Str) : Prop := a.cps.toList ≤ b.cps.toList
instance (a b : Str) : Decidable (leS a b) := inferInstanceAs (Decidable (a.cps.toList ≤ b.cps.toList))
def sortF (l : List Str) : List Str := l.mergeSort fun a b => decide (leS a b)
theorem leS_trans {a b c : Str} (h : leS a b) (k : leS b c) : leS a c := List.le_trans h k
theorem leS_anti {a b : Str} (h : leS a b) (k : leS b a) : a = b := by
  have e : a.cps.toList = b.cps.toList := List.le_antisymm h k
  obtain ⟨a⟩ := a
  obtain ⟨b⟩ := b
  exact congrArg _ (Array.toList_inj.mp e)
theorem leS_total (a b : Str) : leS a b ∨ leS b a := List.le_total _ _
theorem rising_pair : ∀ {p : Str} {l : List Str}, risingS p l = true → (p :: l).Pairwise leS
  | p, [], _ => List.pairwise_singleton _ _
  | p, x :: r, h => by
    have h' : (!ltCps x.cps.toList p.cps.toList && risingS x r) = true := h
    rw [Bool.and_eq_true, ltCps_eq] at h'
    have hpx : leS p x := by
      have := h'.1
      rw [Bool.not_eq_true', decide_eq_false_iff_not] at this
      exact List.not_lt.mp this
    have ih := rising_pair h'.2
    refine List.pairwise_cons.mpr ⟨fun y hy => ?_, ih⟩
    rcases List.mem_cons.mp hy with rfl | hy
    · exact hpx
    · exact leS_trans hpx ((List.pairwise_cons.mp ih).1 y hy)
theorem sorted_pair {l : List Str} (h : sortedS l = true) : l.Pairwise leS := by
  cases l with
  | nil => exact List.Pairwise.nil
  | cons x r => exact rising_pair h
theorem sortF_perm (l : List Str) : (sortF l).Perm l := List.mergeSort_perm _ _
theorem sortF_pair (l : List Str) : (sortF l).Pairwise leS := by
  refine (List.pairwise_mergeSort (le := fun a b => decide (leS a b)) (fun a b c h k => ?_) (fun a b => ?_) l).imp fun h => of_decide_eq_true h
  · exact decide_eq_true (leS_trans (of_decide_eq_true h) (of_decide_eq_true k))
  · rw [Bool.or_eq_true, decide_eq_true_iff, decide_eq_true_iff]
    exact leS_total a b
theorem sort_uniq {ys zs : List Str} (hp : ys.Perm zs) (h : sortedS ys = true) : ys = sortF zs :=
  List.Perm.eq_of_pairwise (fun _ _ _ _ a b => leS_anti a b) (sorted_pair h) (sortF_pair zs) (hp.trans (sortF_perm zs).symm)
theorem sortF_mem {l : List Str} {x : Str} : x ∈ sortF l ↔ x ∈ l := (sortF_perm l).mem_iff
theorem sortF_len (l : List Str) : (sortF l).length = l.length := (sortF_perm l).length_eq
/-! ### the marks of an item -/
def namesOf (wd : List (Str × List Str)) (w : Str) : List Str := ((wd.find? fun m => decide (m.1 = w)).map (·.2)).getD []
def hasN (wd : List (Str × List Str)) (w : Str) : Bool := !(namesOf wd w).isEmpty
def markD (wd : List (Str × List Str)) (w : Str) : PyData := .tuple [.str w, .tuple ((sortF (namesOf wd w)).map .str)]
def marksD (wd : List (Str × List Str)) : List PyData := ((sortF (wd.map (·.1))).filter (hasN wd)).map (markD wd)
theorem plain_strs (l : List Str) : plainB (.tuple (l.map .str)) = true := plain_tup fun d hd => by
  obtain ⟨x, _, rfl⟩ := List.mem_map.mp hd
  rfl
theorem plain_mark (wd : List (Str × List Str)) (w : Str) : plainB (markD wd w) = true := plain_tup fun d hd => by
  simp only [List.mem_cons, List.not_mem_nil, or_false] at hd
  rcases hd with rfl | rfl
  · rfl
  · exact plain_strs _
theorem dn_strs {ok : Addr → Prop} {H : Hp} : ∀ l : List Str, DnAll ok H (l.map V.str) (l.map PyData.str)
  | [] => .nil
  | x :: l => .cons (.str x) (dn_strs l)
section
variable {K : PySem.W.Frag} {C : Addr} {vs : List V} {H : Hp} {Q : VK} {E : XK} {σ : L2.St} {tt : TT} {tn : TE}
theorem lcMarks {ws : List Nat} {Qd : Addr → Hp → Prop} {p : Addr} {ys : List Str} {i : Nat} (wd : List (Str × List Str)) (ha : H p = some (.lst (ys.map V.str))) (hl : ys.length ≤ 1000) (hw : ∀ x, wipe ((wipe σ ws).set i (some x)) ws = wipe σ ws) (hi : ∀ x, ((wipe σ ws).set i (some x))[i]? = some (some x))
    (ht : ∀ y ∈ ys, ∀ H1, Same H H1 → ∀ R : Bool → Hp → Prop, (∀ H2, Same H1 H2 → R (hasN wd y) H2) → tt ((wipe σ ws).set i (some (.str y))) H1 R)
    (hn : ∀ y ∈ ys, ∀ H1, Same H H1 → ∀ R : VK, (∀ t H2, Same H1 H2 → H2 t = some (.tup ((sortF (namesOf wd y)).map V.str)) → R (.ref t) H2) → tn ((wipe σ ws).set i (some (.str y))) H1 R)
    (q : ∀ D ts H1, H D = none → Same H H1 → H1 D = some (.lst ts) → DnAll Any H1 ts ((ys.filter (hasN wd)).map (markD wd)) → Qd D H1) :
    ∀ D, H D = none → ∃ W : Nat → Nat → Hp → Prop, (∃ m, W 0 m (upd H D (.lst []))) ∧ ∀ i' m H, W i' m H →
  ((Itl K p).stop i' H ∧ Qd D H) ∨ ((Itl K p).go i' H ∧ ∃ Nx : Hp → Prop, (∀ H', Nx H' → ∃ m', m' < m ∧ W (i' + 1) m' H') ∧ ∀ x H', (Itl K p).yld i' H x H' → gName i x (wipe σ ws) H' fun σ2 H2 => wipe σ2 ws = wipe σ ws ∧ tt σ2 H2 fun b H3 =>
    if b = true then tTup (tCons (tVar i) (tCons tn tNil)) σ2 H3 fun y H4 => ∃ acc, H4 D = some (.lst acc) ∧ acc.length < sizeLine ∧ Nx (upd H4 D (.lst (acc ++ [y]))) else Nx H3) := by
  intro D hD
  refine lc_it (walk_list (xs := ys.map V.str)) (fun k G => Same H G ∧ ∃ ts, G D = some (.lst ts) ∧ ts.length ≤ k ∧ DnAll Any G ts (((ys.take k).filter (hasN wd)).map (markD wd))) ⟨Same.upd (Same.refl H) hD, [], upd_same, Nat.le_refl _, .nil⟩ (fun k G _ s => SqL.of (s.1 _ _ ha)) ?_ ?_
  · rintro k x G G' hk ⟨s, ts, eD, hts, dts⟩ ⟨rfl, hx⟩
    rw [List.getElem?_map] at hx
    obtain ⟨y, hy, rfl⟩ := Option.map_eq_some_iff.mp hx
    rw [List.length_map] at hk
    have hm := List.mem_of_getElem? hy
    have et : ys.take (k + 1) = ys.take k ++ [y] := by rw [List.take_add_one, hy]; rfl
    refine w_name ⟨hw _, ht y hm _ s _ fun H2 s2 => ?_⟩
    cases hp : hasN wd y with
    | true =>
      refine ite_t rfl (w_tupV (w_cons (w_var (hi _) (w_cons (hn y hm _ (s.trans s2) _ fun t G2 s3 e3 => w_nil ⟨sz (by simp), w_new fun r G4 _ s4 e4 => ⟨ts, s4 _ _ (s3 _ _ (s2 _ _ eD)), ?_, ?_, _, upd_same, ?_, ?_⟩⟩)))))
      · exact Nat.lt_of_le_of_lt (show ts.length ≤ 1000 by omega) (by decide)
      · exact fun b o e2 => by
          rw [upd_ne (ne_of_none e2 hD)]
          exact s4 _ _ (s3 _ _ (s2 _ _ (s _ _ e2)))
      · rw [List.length_append, List.length_singleton]
        omega
      · have tk : Tk G4 (upd G4 D (.lst (ts ++ [V.ref r]))) := Tk.kpL Kp.refl.updp (s4 _ _ (s3 _ _ (s2 _ _ eD)))
        rw [et, List.filter_append, List.filter_cons_of_pos hp, List.filter_nil, List.map_append]
        refine DnAll.app (dnall_tk tk (plainAll_of fun d hd => ?_) (((dts.same s2).same s3).same s4)) (.cons (.tup trivial (tk _ _ e4) (.cons (.str _) (.cons (.tup trivial (tk _ _ (s4 _ _ e3)) (dn_strs _)) .nil))) .nil)
        obtain ⟨o, _, rfl⟩ := List.mem_map.mp hd
        exact plain_mark wd o
    | false =>
      refine ite_f (by decide) ⟨s.trans s2, ts, s2 _ _ eD, by omega, ?_⟩
      rw [et, List.filter_append, List.filter_cons_of_neg (by simp [hp]), List.filter_nil, List.append_nil]
      exact dts.same s2
  · rintro G ⟨s, ts, eD, hts, dts⟩
    rw [List.length_map, List.take_length] at dts
    exact q D ts G hD s eD dts
theorem names_at {o : Io} {w : Str} (hwd : o.it.wd = o.ms.map (·.2)) (h : w ∈ o.it.wd.map (·.1)) : ∃ m ∈ o.ms, valV (mV o.ms) (Sum.inr w) = some (.ref m.1) ∧ m.2.2 = namesOf o.it.wd w := by
  rcases split_first (fun m => decide (m.2.1 = w)) o.ms with hno | ⟨l, m, r, e, hw, hl⟩
  · rw [hwd, List.map_map] at h
    obtain ⟨m, hm, e⟩ := List.mem_map.mp h
    exact absurd e (of_decide_eq_false (hno m hm))
  · have hw := of_decide_eq_true hw
    refine ⟨m, by rw [e]; exact List.mem_append_right _ (List.mem_cons_self ..), ?_, ?_⟩
    · rw [e]
      unfold mV
      rw [List.map_append, List.map_cons, hw]
      exact valV_hit fun z hz => by
        obtain ⟨q, hq, rfl⟩ := List.mem_map.mp hz
        exact fun y => of_decide_eq_false (hl q hq) (Sum.inr.inj y)
    · unfold namesOf
      rw [hwd, e, List.map_append, List.map_cons, List.find?_append]
      have h1 : (l.map (·.2)).find? (fun m => decide (m.1 = w)) = none := by
        rw [List.find?_eq_none]
        intro x hx
        obtain ⟨q, hq, rfl⟩ := List.mem_map.mp hx
        rw [hl q hq]
        decide
      rw [h1, List.find?_cons, decide_eq_true hw]
      rfl
def spItMarks (K : PySem.W.Frag) (C : Addr) : Sp := fun vs H Q _ => ∃ (o : Io), vs = [.ref o.x] ∧ IoAt C H o ∧ MkSz 63 o.it ∧ ∀ p ts H', H p = none → Same H H' → H' p = some (.lst ts) → DnAll Any H' ts (marksD o.it.wd) → Q (.ref p) H'
theorem w_sortedD {a : Addr} {kvs : List (L2.Key × V)} {ks : List Str} (e : H a = some (.dK kvs)) (ek : kvs.map (·.1) = ks.map Sum.inr) (hl : ks.length ≤ 63) (q : ∀ p H2, H p = none → Same H H2 → H2 p = some (.lst ((sortF ks).map V.str)) → Q (.ref p) H2) : Wp.qSortedD [.ref a] H Q :=
  ⟨a, kvs, ks, rfl, .inl e, ek, by omega, fun ys p hp hs hn => by
    rw [sort_uniq hp hs]
    exact q p _ hn (Same.upd (Same.refl H) hn) upd_same⟩
theorem w_tupleOfV {p : Addr} {ys : List V} (h : SqL K H p ys) (q : ∀ l H2, H l = none → Same H H2 → H2 l = some (.tup ys) → Q (.ref l) H2) : qTupleOf K [.ref p] H Q :=
  w_tupleOfL h fun l hl => q l _ hl (Same.upd (Same.refl H) hl) upd_same
theorem w_tru {ta : TE} {R : Bool → Hp → Prop} (q : ta σ H fun x H1 => ∃ k, TruV K x H1 k ∧ R k H1) : tTru K ta σ H R := q
theorem truD {a : Addr} {kvs : List (L2.Key × V)} {b : Bool} (e : H a = some (.dK kvs)) (k : b = !kvs.isEmpty) : TruV K (.ref a) H b := show _ ∨ _ ∨ _ from Or.inr (Or.inr ⟨kvs, e, k⟩)
theorem nV_keys (ns : List Str) : (nV ns).map (·.1) = ns.map Sum.inr := by
  unfold nV
  rw [List.map_map]
  rfl
end

/-! ### bodies on the heap -/
def Bb.tgt : Bb → Option (Str × Int)
  | .reply a n _ => some (a, n)
  | .edit a n _ => some (a, n)
  | .recall a n => some (a, n)
  | .mark a n _ => some (a, n)
  | _ => none
def Bb.txt : Bb → Option Str
  | .say t => some t
  | .reply _ _ t => some t
  | .edit _ _ t => some t
  | _ => none
def actB (b : Bb) : Bool := decide (b.kind ∈ [Str.ofString "add", Str.ofString "cut", Str.ofString "hand"])
theorem bb_at {H : Hp} {bv : V} {B : Bb} (d : Dn Any H bv B.toD) : ∃ ta xs, bv = .ref ta ∧ H ta = some (.tup (.str B.kind :: xs)) ∧ DnAll Any H xs B.rest := by
  unfold Bb.toD at d
  cases d with
  | @tup ta ws _ _ ht hw =>
    cases hw with
    | @cons v vs _ _ h0 hs0 =>
      cases h0
      exact ⟨ta, vs, rfl, ht, hs0⟩
theorem dn_ref {H : Hp} {v : V} {a : Str} {n : Int} (d : Dn Any H v (.tuple [.str a, .int n])) : ∃ t, v = .ref t ∧ H t = some (.tup [.str a, .int n]) := by
  cases d with
  | @tup t ws _ _ ht hw =>
    cases hw with
    | cons h0 hs0 =>
      cases h0
      cases hs0 with
      | cons h1 hs1 =>
        cases h1
        cases hs1
        exact ⟨t, rfl, ht⟩
def spTarget (K : PySem.W.Frag) : Sp := fun vs H Q _ => ∃ bv B, vs = [bv] ∧ Dn Any H bv (Bb.toD B) ∧ ∀ v H', Same H H' → ParAt H' v B.tgt → Q v H'
def spTextOf (K : PySem.W.Frag) : Sp := fun vs H Q _ => ∃ bv B t, vs = [bv] ∧ Dn Any H bv (Bb.toD B) ∧ Bb.txt B = some t ∧ ∀ H', Same H H' → Q (.str t) H'
def spIsAct (K : PySem.W.Frag) : Sp := fun vs H Q _ => ∃ bv B, vs = [bv] ∧ Dn Any H bv (Bb.toD B) ∧ ∀ H', Same H H' → Q (.bl (actB B)) H'
section
variable {K : PySem.W.Frag} {C CL CI : Addr} {vs : List V} {H : Hp} {Q : VK} {E : XK} {σ : L2.St} {D : Ends}
/-- body[0] in (..) -/
theorem w_kindIn {te : TE} {tr : TA} {ta : Addr} {k : Str} {xs : List V} (ks : List Str) (ha : ∀ R : VK, R (.ref ta) H → te σ H R) (ht : H ta = some (.tup (.str k :: xs)))
    (htr : ∀ R : List V → Hp → Prop, R (ks.map V.str) H → tr σ H R) (hl : ks.length ≤ 1000) (q : ∀ H2, Same H H2 → Q (.bl (decide (k ∈ ks))) H2) : tOp (rIn K false) (tOp (rIxT K) te (tC (.int 0))) (tTup tr) σ H Q := by
  refine w_op (w_op (ha _ (w_c (w_ixT (SqT.of ht) (atI_nat (j := 0) rfl) (w_tupV (htr _ ⟨sz (by rw [List.length_map]; exact Nat.le_trans hl (by decide)), w_new fun t2 H2 _ s2 e2 => ?_⟩))))))
  exact w_inTb (SqT.of e2) rfl (by rw [List.all_map]; exact List.all_eq_true.mpr fun _ _ => rfl) (inV_strs k ks) (q H2 s2)
/-- is_act: slots 0:body -/
def t_is_act (K : PySem.W.Frag) : TS := (tRet (tOp (rIn K false) (tOp (rIxT K) (tVar 0) (tC (.int 0))) (tTup (tCons (tC (.str "add")) (tCons (tC (.str "cut")) (tCons (tC (.str "hand")) tNil))))))
theorem l_is_act (h : spIsAct K vs H Q E) : vs.length = 1 := by obtain ⟨bv, B, rfl, _⟩ := h; rfl
theorem r_is_act (h : spIsAct K vs H Q E) : t_is_act K { nx := fun _ H' => Q .non H', rt := Q } (start ["body"] vs) H := by
  obtain ⟨bv, B, rfl, dB, q⟩ := h
  obtain ⟨ta, xs, rfl, ht, _⟩ := bb_at dB
  unfold t_is_act
  exact w_ret (w_kindIn [Str.ofString "add", Str.ofString "cut", Str.ofString "hand"] (fun _ q => w_var rfl q) ht (fun R r => w_cons (w_c (w_cons (w_c (w_cons (w_c (w_nil r))))))) (by decide) q)
/-- target: slots 0:body -/
def t_target (K : PySem.W.Frag) : TS := (tSeq (tIfS (tTest (tOp (rIn K false) (tOp (rIxT K) (tVar 0) (tC (.int 0))) (tTup (tCons (tC (.str "reply")) (tCons (tC (.str "edit")) (tCons (tC (.str "recall")) (tCons (tC (.str "mark")) tNil))))))) (tRet (tOp (rIxT K) (tVar 0) (tC (.int 1)))) tNext)
  (tRet (tC .non)))
theorem l_target (h : spTarget K vs H Q E) : vs.length = 1 := by obtain ⟨bv, B, rfl, _⟩ := h; rfl
theorem r_target (h : spTarget K vs H Q E) : t_target K { nx := fun _ H' => Q .non H', rt := Q } (start ["body"] vs) H := by
  obtain ⟨bv, B, rfl, dB, q⟩ := h
  obtain ⟨ta, xs, rfl, ht, hxs⟩ := bb_at dB
  unfold t_target
  refine w_seq (w_ifS (w_test (w_kindIn [Str.ofString "reply", Str.ofString "edit", Str.ofString "recall", Str.ofString "mark"] (fun _ q => w_var rfl q) ht (fun R r => w_cons (w_c (w_cons (w_c (w_cons (w_c (w_cons (w_c (w_nil r))))))))) (by decide) fun H2 s2 => w_exb ?_)))
  have ref : ∀ {a : Str} {n : Int} {ys : List V} {ds : List PyData}, xs = ys → DnAll Any H ys (.tuple [.str a, .int n] :: ds) → B.tgt = some (a, n) → tRet (tOp (rIxT K) (tVar 0) (tC (.int 1))) { nx := fun _ H' => Q .non H', rt := Q } (start ["body"] [.ref ta]) H2 := by
    intro a n ys ds e h et
    subst e
    cases h with
    | cons h1 h2 =>
      obtain ⟨t, rfl, e1⟩ := dn_ref h1
      exact w_ret (w_op (w_var rfl (w_c (w_ixT (SqT.of (s2 _ _ ht)) (atI_nat (j := 1) rfl) (q _ H2 s2 (.inr ⟨t, (a, n), et, rfl, s2 _ _ e1⟩))))))
  have no : B.tgt = none → tRet (tC .non) { nx := fun _ H' => Q .non H', rt := Q } (start ["body"] [.ref ta]) H2 := fun et => w_ret (w_c (q _ H2 s2 (.inl ⟨et, rfl⟩)))
  cases B with
  | reply a n t => exact ite_t (by refine decide_eq_true ?_; dsimp only [Bb.kind]; decide +kernel) (ref rfl hxs rfl)
  | edit a n t => exact ite_t (by refine decide_eq_true ?_; dsimp only [Bb.kind]; decide +kernel) (ref rfl hxs rfl)
  | recall a n => exact ite_t (by refine decide_eq_true ?_; dsimp only [Bb.kind]; decide +kernel) (ref rfl hxs rfl)
  | mark a n w => exact ite_t (by refine decide_eq_true ?_; dsimp only [Bb.kind]; decide +kernel) (ref rfl hxs rfl)
  | say t => exact ite_f (by intro z; have z := of_decide_eq_true z; revert z; dsimp only [Bb.kind]; decide +kernel) (w_next (no rfl))
  | title t => exact ite_f (by intro z; have z := of_decide_eq_true z; revert z; dsimp only [Bb.kind]; decide +kernel) (w_next (no rfl))
  | seen => exact ite_f (by intro z; have z := of_decide_eq_true z; revert z; dsimp only [Bb.kind]; decide +kernel) (w_next (no rfl))
  | found t ds => exact ite_f (by intro z; have z := of_decide_eq_true z; revert z; dsimp only [Bb.kind]; decide +kernel) (w_next (no rfl))
  | act k nm h =>
    refine ite_f (fun z => ?_) (w_next (no rfl))
    have z : k ∈ _ := of_decide_eq_true z
    revert z
    rcases h with e | e | e <;> (rw [e]; decide +kernel)
/-- text_of: slots 0:body -/
def t_text_of (K : PySem.W.Frag) : TS := (tSeq (tIfS (tTest (tOp rEq (tOp (rIxT K) (tVar 0) (tC (.int 0))) (tC (.str "say")))) (tRet (tOp (rIxT K) (tVar 0) (tC (.int 1)))) tNext)
  (tSeq (tIfS (tTest (tOp (rIn K false) (tOp (rIxT K) (tVar 0) (tC (.int 0))) (tTup (tCons (tC (.str "reply")) (tCons (tC (.str "edit")) tNil))))) (tRet (tOp (rIxT K) (tVar 0) (tC (.int 2)))) tNext)
  (tRet (tC .non))))
theorem l_text_of (h : spTextOf K vs H Q E) : vs.length = 1 := by obtain ⟨bv, B, t, rfl, _⟩ := h; rfl
theorem r_text_of (h : spTextOf K vs H Q E) : t_text_of K { nx := fun _ H' => Q .non H', rt := Q } (start ["body"] vs) H := by
  obtain ⟨bv, B, t, rfl, dB, et, q⟩ := h
  obtain ⟨ta, xs, rfl, ht, hxs⟩ := bb_at dB
  unfold t_text_of
  refine w_seq (w_ifS (w_test (w_op (w_op (w_var rfl (w_c (w_ixT (SqT.of ht) (atI_nat (j := 0) rfl) (w_c (w_eqS (w_exb ?_)))))))))) 
  have third : ∀ {d : PyData} {t : Str} {ys : List V}, xs = ys → DnAll Any H ys [d, .str t] → Bb.txt B = some t → ∀ H2, Same H H2 → tRet (tOp (rIxT K) (tVar 0) (tC (.int 2))) { nx := fun _ H' => Q .non H', rt := Q } (start ["body"] [.ref ta]) H2 := by
    intro d t' ys e h e2 H2 s2
    subst e
    cases Option.some.inj (e2.symm.trans et)
    cases h with
    | cons h1 h2 =>
      cases h2 with
      | cons h2 h3 =>
        cases h2
        cases h3
        exact w_ret (w_op (w_var rfl (w_c (w_ixT (SqT.of (s2 _ _ ht)) (atI_nat (j := 2) rfl) (q H2 s2)))))
  cases B with
  | say t' =>
    cases et
    cases hxs with
    | cons h1 h2 =>
      cases h1
      cases h2
      exact ite_t (decide_eq_true rfl) (w_ret (w_op (w_var rfl (w_c (w_ixT (SqT.of ht) (atI_nat (j := 1) rfl) (q H (Same.refl H)))))))
  | reply a n t' =>
    refine ite_f (by intro z; have z := of_decide_eq_true z; revert z; dsimp only [Bb.kind]; decide +kernel) (w_next (w_seq (w_ifS (w_test (w_kindIn [Str.ofString "reply", Str.ofString "edit"] (fun _ q => w_var rfl q) ht (fun R r => w_cons (w_c (w_cons (w_c (w_nil r))))) (by decide) fun H2 s2 => w_exb (ite_t (by refine decide_eq_true ?_; dsimp only [Bb.kind]; decide +kernel) (third rfl hxs rfl H2 s2)))))))
  | edit a n t' =>
    refine ite_f (by intro z; have z := of_decide_eq_true z; revert z; dsimp only [Bb.kind]; decide +kernel) (w_next (w_seq (w_ifS (w_test (w_kindIn [Str.ofString "reply", Str.ofString "edit"] (fun _ q => w_var rfl q) ht (fun R r => w_cons (w_c (w_cons (w_c (w_nil r))))) (by decide) fun H2 s2 => w_exb (ite_t (by refine decide_eq_true ?_; dsimp only [Bb.kind]; decide +kernel) (third rfl hxs rfl H2 s2)))))))
  | recall a n => cases et
  | mark a n w => cases et
  | title t => cases et
  | seen => cases et
  | found t ds => cases et
  | act k nm h => cases et
end

/-! ### boards -/
def keyI (i : It) : Str × Int := (i.a, i.n)
def hasI (l : List It) (k : Str × Int) : Bool := l.any fun j => decide (keyI j = k)
def chgF (k : Str × Int) (f : It → It) : List It → List It
  | [] => []
  | i :: r => if keyI i = k then f i :: r else i :: chgF k f r
def putI (i : It) (l : List It) : List It := if hasI l (keyI i) = true then chgF (keyI i) (fun _ => i) l else l ++ [i]
structure Bo where
  title : Str
  founder : Option Str
  its : List It
  nts : List PyData
def stepI (L : Lt) : Bb → It → It
  | .mark _ _ w, i => if i.rc = true then i else markI w L.a i
  | .edit _ _ t, i => if i.rc = true then i else if i.a = L.a then editI t i else i
  | .recall _ _, i => if i.rc = true then i else if i.a = L.a then recallI i else i
  | _, i => i
def ntD (L : Lt) (k nm : Str) : PyData := .tuple [.tuple [.str L.a, .int L.n], .str k, .str nm]
def newI (L : Lt) (t : Str) (p : Option (Str × Int)) : It := ⟨L.a, L.n, t, p, 0, false, []⟩
def parI (l : List It) : Option (Str × Int) → Option (Str × Int)
  | none => none
  | some k => if hasI l k = true then some k else none
def showB (b : Bo) (L : Lt) (B : Bb) : Bo :=
  match B with
  | .found t _ => { b with title := t, founder := some L.a }
  | .title t => { b with title := t }
  | .say t => { b with its := putI (newI L t none) b.its }
  | .reply a n t => { b with its := putI (newI L t (parI b.its (some (a, n)))) b.its }
  | .edit a n t => { b with its := chgF (a, n) (stepI L (.edit a n t)) b.its }
  | .recall a n => { b with its := chgF (a, n) (stepI L (.recall a n)) b.its }
  | .mark a n w => { b with its := chgF (a, n) (stepI L (.mark a n w)) b.its }
  | .act k nm _ => { b with nts := b.nts ++ [ntD L k nm] }
  | .seen => b
theorem chgF_none {k : Str × Int} {f : It → It} : ∀ {l : List It}, (∀ i ∈ l, keyI i ≠ k) → chgF k f l = l
  | [], _ => rfl
  | i :: r, h => by
    rw [chgF, if_neg (h i (List.mem_cons_self ..)), chgF_none fun x hx => h x (List.mem_cons_of_mem _ hx)]
theorem chgF_hit {k : Str × Int} {f : It → It} {i : It} {r : List It} (e : keyI i = k) : ∀ {l : List It}, (∀ x ∈ l, keyI x ≠ k) → chgF k f (l ++ i :: r) = l ++ f i :: r
  | [], _ => by
    show chgF k f (i :: r) = _
    rw [chgF, if_pos e]
    rfl
  | x :: l, h => by
    show chgF k f (x :: (l ++ i :: r)) = _
    rw [chgF, if_neg (h x (List.mem_cons_self ..)), chgF_hit e fun y hy => h y (List.mem_cons_of_mem _ hy)]
    rfl
def strV : Option Str → V
  | none => .non
  | some z => .str z
def boF (t : Str) (fv : V) (di ln : Addr) : List (Str × V) := [("title", .str t), ("founder", fv), ("_items", .ref di), ("_notices", .ref ln)]
structure Bx where
  b : Addr
  di : Addr
  ln : Addr
  xs : List Io
def bp (X : Bx) : List Addr := X.b :: X.di :: X.ln :: X.xs.flatMap fp
def iK (k : Str × Int) : List L2.Key := [Sum.inr k.1, Sum.inl k.2]
abbrev iV (xs : List Io) : List (List L2.Key × V) := xs.map fun o => (iK (keyI o.it), V.ref o.x)
structure BoAt (C CI : Addr) (H : Hp) (X : Bx) (B : Bo) : Prop where
  hb : ∃ dx, H X.b = some (.ins C dx (boF B.title (strV B.founder) X.di X.ln))
  hi : H X.di = some (.dT (iV X.xs))
  ho : ∀ o ∈ X.xs, IoAt CI H o
  dj : X.xs.Pairwise fun o p => ∀ b ∈ fp o, b ∉ fp p
  nb : ∀ o ∈ X.xs, o.x ≠ X.b
  kd : (X.xs.map fun o => keyI o.it).Nodup
  its : B.its = X.xs.map (·.it)
  hn : ∃ ts, H X.ln = some (.lst ts) ∧ DnAll Any H ts B.nts
  pn : plainAll B.nts = true
def BoSz (n : Nat) (B : Bo) : Prop := B.its.length ≤ n ∧ (∀ i ∈ B.its, MkSz n i) ∧ B.nts.length ≤ n
theorem iK_inj {k j : Str × Int} (h : iK k = iK j) : k = j := by
  injection h with h1 h2
  injection h2 with h2 _
  exact Prod.ext (Sum.inr.inj h1) (Sum.inl.inj h2)
theorem bp_io {X : Bx} {o : Io} (h : o ∈ X.xs) {b : Addr} (hb : b ∈ fp o) : b ∈ bp X := List.mem_cons_of_mem _ (List.mem_cons_of_mem _ (List.mem_cons_of_mem _ (List.mem_flatMap.mpr ⟨o, h, hb⟩)))
theorem BoAt.kpP {C CI : Addr} {H H' : Hp} {X : Bx} {B : Bo} {S : Addr → Prop} (h : BoAt C CI H X B) (k : KpP S H H') (n : ∀ b ∈ bp X, ¬ S b) (t : Tk H H') : BoAt C CI H' X B := by
  obtain ⟨dx, e⟩ := h.hb
  obtain ⟨ts, e1, e2⟩ := h.hn
  have n1 := n X.b (List.mem_cons_self ..)
  have n2 := n X.di (List.mem_cons_of_mem _ (List.mem_cons_self ..))
  have n3 := n X.ln (List.mem_cons_of_mem _ (List.mem_cons_of_mem _ (List.mem_cons_self ..)))
  exact { h with hb := ⟨dx, k _ _ n1 e⟩, hi := k _ _ n2 h.hi, ho := fun o ho => (h.ho o ho).kpP k (fun b hb => n b (bp_io ho hb)) t, hn := ⟨ts, k _ _ n3 e1, dnall_tk t h.pn e2⟩ }
theorem BoAt.same {C CI : Addr} {H H' : Hp} {X : Bx} {B : Bo} (h : BoAt C CI H X B) (s : Same H H') : BoAt C CI H' X B := h.kpP (S := fun _ => False) (fun b o _ e => s b o e) (fun _ _ z => z) (Tk.same s)
theorem valT_off {k : List L2.Key} : ∀ {kvs : List (List L2.Key × V)}, (∀ p ∈ kvs, p.1 ≠ k) → valV kvs k = none
  | [], _ => rfl
  | p :: r, h => (valV_neg (h p (List.mem_cons_self ..))).trans (valT_off fun x hx => h x (List.mem_cons_of_mem _ hx))
theorem valT_hit {k : List L2.Key} {v : V} {r : List (List L2.Key × V)} : ∀ {l : List (List L2.Key × V)}, (∀ p ∈ l, p.1 ≠ k) → valV (l ++ (k, v) :: r) k = some v
  | [], _ => valV_pos rfl
  | p :: l, h => (valV_neg (h p (List.mem_cons_self ..))).trans (valT_hit fun x hx => h x (List.mem_cons_of_mem _ hx))
/-- an item by its key -/
theorem find_io (xs : List Io) (k : Str × Int) : (valV (iV xs) (iK k) = none ∧ hasI (xs.map (·.it)) k = false ∧ ∀ o ∈ xs, keyI o.it ≠ k) ∨ ∃ l o r, xs = l ++ o :: r ∧ keyI o.it = k ∧ (∀ p ∈ l, keyI p.it ≠ k) ∧ valV (iV xs) (iK k) = some (.ref o.x) ∧ hasI (xs.map (·.it)) k = true := by
  rcases split_first (fun o : Io => decide (keyI o.it = k)) xs with hno | ⟨l, o, r, e, hw, hl⟩
  · have hno : ∀ o ∈ xs, keyI o.it ≠ k := fun o ho => of_decide_eq_false (hno o ho)
    refine .inl ⟨valT_off fun z hz => ?_, ?_, hno⟩
    · obtain ⟨o, ho, rfl⟩ := List.mem_map.mp hz
      exact fun y => hno o ho (iK_inj y)
    · unfold hasI
      rw [List.any_map, List.any_eq_false]
      intro o ho z
      exact hno o ho (of_decide_eq_true z)
  · have hw := of_decide_eq_true hw
    have hl : ∀ p ∈ l, keyI p.it ≠ k := fun p hp => of_decide_eq_false (hl p hp)
    refine .inr ⟨l, o, r, e, hw, hl, ?_, ?_⟩
    · rw [e]
      unfold iV
      rw [List.map_append, List.map_cons, hw]
      exact valT_hit fun z hz => by
        obtain ⟨q, hq, rfl⟩ := List.mem_map.mp hz
        exact fun y => hl q hq (iK_inj y)
    · unfold hasI
      rw [List.any_map, List.any_eq_true]
      exact ⟨o, by rw [e]; exact List.mem_append_right _ (List.mem_cons_self ..), decide_eq_true hw⟩
def BStep (C CI : Addr) (H : Hp) (X : Bx) (B : Bo) (H' : Hp) : Prop := ∃ X', X'.b = X.b ∧ BoAt C CI H' X' B ∧ (∀ a ∈ bp X', a ∈ bp X ∨ H a = none) ∧ KpP (· ∈ bp X) H H'
def spBInit (K : PySem.W.Frag) (C : Addr) : Sp := fun vs H Q _ => ∃ (x dx : Addr), vs = [.ref x] ∧ H x = some (.ins C dx []) ∧
  ∀ H' di ln, H di = none → H ln = none → Kp x H H' → (∀ CI, BoAt C CI H' ⟨x, di, ln, []⟩ ⟨Str.ofString "", none, [], []⟩) → Q .non H'
def spBItem (K : PySem.W.Frag) (CI C : Addr) : Sp := fun vs H Q _ => ∃ (X : Bx) (B : Bo) (t : Addr) (o : Io), vs = [.ref X.b, .ref t] ∧ BoAt C CI H X B ∧ H t = some (.tup [.str o.it.a, .int o.it.n]) ∧ o ∈ X.xs ∧ Q (.ref o.x) H
def spBNotices (K : PySem.W.Frag) (CI C : Addr) : Sp := fun vs H Q _ => ∃ (X : Bx) (B : Bo), vs = [.ref X.b] ∧ BoAt C CI H X B ∧ ∀ p ts H', H p = none → Same H H' → H' p = some (.lst ts) → DnAll Any H' ts B.nts → Q (.ref p) H'
def spBPut (K : PySem.W.Frag) (CL CI C : Addr) : Sp := fun vs H Q _ => ∃ (X : Bx) (B : Bo) (x : Addr) (L : Lt) (b : Bb), vs = [.ref X.b, .ref x] ∧ BoAt C CI H X B ∧ BoSz 1000 B ∧ LtAt Any CL H x L ∧ L.b = b.toD ∧ (b.kind = Str.ofString "say" ∨ b.kind = Str.ofString "reply") ∧ ∀ H', BStep C CI H X (showB B L b) H' → Q .non H'
def spBChange (K : PySem.W.Frag) (CL CI C : Addr) : Sp := fun vs H Q _ => ∃ (X : Bx) (B : Bo) (x : Addr) (L : Lt) (b : Bb), vs = [.ref X.b, .ref x] ∧ BoAt C CI H X B ∧ BoSz 1000 B ∧ LtAt Any CL H x L ∧ L.b = b.toD ∧ (b.kind = Str.ofString "edit" ∨ b.kind = Str.ofString "recall" ∨ b.kind = Str.ofString "mark") ∧ ∀ H', BStep C CI H X (showB B L b) H' → Q .non H'
def spBShow (K : PySem.W.Frag) (CL CI C : Addr) : Sp := fun vs H Q _ => ∃ (X : Bx) (B : Bo) (x : Addr) (L : Lt) (b : Bb), vs = [.ref X.b, .ref x] ∧ BoAt C CI H X B ∧ BoSz 1000 B ∧ LtAt Any CL H x L ∧ L.b = b.toD ∧ ∀ H', BStep C CI H X (showB B L b) H' → Q .non H'
section
variable {K : PySem.W.Frag} {C CL CI : Addr} {vs : List V} {H : Hp} {Q : VK} {E : XK} {σ : L2.St} {D : Ends}
/-- Board___init__: slots 0:self -/
def t_Board___init__ (K : PySem.W.Frag) (C_Board : Addr) : TS := (tSeq (sFld K (tVar 0) (tC (.str "")) "title")
  (tSeq (sFld K (tVar 0) (tC .non) "founder")
  (tSeq (sFld K (tVar 0) tDNewT "_items")
  (sFld K (tVar 0) (tLst tNil) "_notices"))))
theorem l_Board___init__ (h : spBInit K C vs H Q E) : vs.length = 1 := by obtain ⟨x, dx, rfl, _⟩ := h; rfl
theorem r_Board___init__ (LC : IsC_Board K C) (h : spBInit K C vs H Q E) : t_Board___init__ K C { nx := fun _ H' => Q .non H', rt := Q } (start ["self"] vs) H := by
  obtain ⟨x, dx, rfl, hx, q⟩ := h
  unfold t_Board___init__
  refine w_seq (w_sfld (w_c (w_var rfl (sfldV hx LC.cl LC.n_title (show 0 < 1000 by decide) fun G1 k1 g1 => ?_))))
  with_reducible refine w_seq ?_
  refine w_sfld (w_c (w_var rfl (sfldV g1 LC.cl LC.n_founder (show 1 < 1000 by decide) fun G2 k2 g2 => ?_)))
  with_reducible refine w_seq ?_
  refine w_sfld (w_dnewT fun di H3 f3 s3 e3 => w_var rfl (sfldV (s3 _ _ g2) LC.cl LC.n_items (show 2 < 1000 by decide) fun G4 k4 g4 => ?_))
  refine w_sfld (w_lstV (w_nil ⟨sz (by simp), w_new fun ln H5 f5 s5 e5 => w_var rfl (sfldV (s5 _ _ g4) LC.cl LC.n_notices (show 3 < 1000 by decide) fun G6 k6 g6 => ?_)⟩))
  have nd : di ≠ x := (ne_of_none g2 f3).symm
  have nl : ln ≠ x := (ne_of_none g4 f5).symm
  have k12 := k1.trans k2
  have k14 := (k12.trans (Same.kp s3)).trans k4
  refine q G6 di ln (k12.free nd f3) (k14.free nl f5) ((k14.trans (Same.kp s5)).trans k6) fun CI => ⟨⟨dx, g6⟩, ?_, (fun o ho => nomatch ho), List.Pairwise.nil, (fun o ho => nomatch ho), List.nodup_nil, rfl, ⟨[], k6 _ _ nl e5, .nil⟩, rfl⟩
  exact k6 _ _ nd (s5 _ _ (k4 _ _ nd e3))
end

/-! ### Unknown -/
structure ExFacts (K : PySem.W.Frag) (C_RoomError C_Unknown : Addr) : Prop where
  b_Unknown : Wp.ExB K C_Unknown
  ec : ExcC K C_Unknown
  hit : PySem.W.exmOne K (.ref C_Unknown) (.ref C_Unknown) = some true
  up : PySem.W.kitOne K (.ref C_Unknown) (.ref C_RoomError) = some true
  val : PySem.W.kitOne K (.ref C_Unknown) (.type "ValueError") = some true
theorem kit_cls2 {K : PySem.W.Frag} {t : Value} {C : Addr} {b : Option Bool} (h1 : PySem.W.subIn K t (.ref C) = b) (h2 : PySem.W.isClsIn K C = true) (h3 : PySem.W.typeIn K (.ref C) = some (.type "type")) : PySem.W.kitCls K t (.ref C) = b := by
  have h2' : (PySem.W.clsIn K C).isSome = true := h2
  unfold PySem.W.kitCls
  dsimp only
  rw [h2', h3]
  exact h1
theorem exm_two {K : PySem.W.Frag} {C D : Addr} {b : Bool} (h1 : PySem.W.subIn K (.ref C) (.ref D) = some b) (h2 : PySem.W.isClsIn K D = true) (h3 : PySem.W.typeIn K (.ref D) = some (.type "type")) (h4 : PySem.W.subIn K (.ref D) (.type "BaseException") = some true) : PySem.W.exmOne K (.ref C) (.ref D) = some b := by
  unfold PySem.W.exmOne
  rw [h4]
  exact kit_cls2 h1 h2 h3
theorem kit_two {K : PySem.W.Frag} {C D : Addr} (h1 : PySem.W.subIn K (.ref C) (.ref D) = some false) (h2 : PySem.W.isClsIn K D = true) (h3 : PySem.W.typeIn K (.ref D) = some (.type "type")) (h4 : PySem.W.subIn K (.ref D) (.ref D) = some true) : PySem.W.kitOne K (.ref C) (.ref D) = some false := by
  unfold PySem.W.kitOne
  by_cases e : ((Value.ref C == Value.ref D) = true)
  · have e2 : Value.ref C = Value.ref D := eq_of_beq e
    cases e2
    rw [h4] at h1
    cases h1
  · rw [if_neg e]
    exact kit_cls2 h1 h2 h3
theorem kit_val {K : PySem.W.Frag} {C : Addr} (h1 : PySem.W.subIn K (.ref C) (.type "ValueError") = some true) : PySem.W.kitOne K (.ref C) (.type "ValueError") = some true := by
  unfold PySem.W.kitOne PySem.W.kitCls
  rw [if_neg (by exact Bool.false_ne_true)]
  dsimp only
  rw [if_pos (by decide +kernel)]
  exact h1
theorem kit_up {K : PySem.W.Frag} {C D : Addr} (h1 : PySem.W.subIn K (.ref C) (.ref D) = some true) (h2 : PySem.W.isClsIn K D = true) (h3 : PySem.W.typeIn K (.ref D) = some (.type "type")) : PySem.W.kitOne K (.ref C) (.ref D) = some true := by
  unfold PySem.W.kitOne
  by_cases e : ((Value.ref C == Value.ref D) = true)
  · rw [if_pos e]
  · rw [if_neg e]
    exact kit_cls2 h1 h2 h3

/-! ### a board as a thing that holds items -/
def spBLen (K : PySem.W.Frag) (CI C : Addr) : Sp := fun vs H Q _ => ∃ (X : Bx) (B : Bo), vs = [.ref X.b] ∧ BoAt C CI H X B ∧ Q (.int (X.xs.length : Nat)) H
def spBIter (K : PySem.W.Frag) (C : Addr) (n : Nat) : Sp := fun vs H Q _ => ∃ (b dx di ln : Addr) (tl : Str) (fv : V) (od : Obj) (kvs : List (List L2.Key × V)), vs = [.ref b] ∧ H b = some (.ins C dx (boF tl fv di ln)) ∧ H di = some (.frz od (.dT kvs)) ∧
  ∀ H1 it, Same H H1 → H1 it = none → n ≤ it → Q (.ref it) (upd H1 it (VItO di od it))
def hasX (X : Bx) (k : Str × Int) : Bool := hasI (X.xs.map (·.it)) k
def spBHas (K : PySem.W.Frag) (CI C : Addr) : Sp := fun vs H Q _ => ∃ (X : Bx) (B : Bo) (t : Addr) (k : Str × Int), vs = [.ref X.b, .ref t] ∧ BoAt C CI H X B ∧ H t = some (.tup [.str k.1, .int k.2]) ∧ Q (.bl (hasX X k)) H
def spBItemX (K : PySem.W.Frag) (CI C CU : Addr) : Sp := fun vs H Q E => ∃ (X : Bx) (B : Bo) (t : Addr) (k : Str × Int), vs = [.ref X.b, .ref t] ∧ BoAt C CI H X B ∧ H t = some (.tup [.str k.1, .int k.2]) ∧ (∀ o ∈ X.xs, keyI o.it = k → Q (.ref o.x) H) ∧ (hasX X k = false → E (.ref CU) none H)
section
variable {K : PySem.W.Frag} {C CL CI CR CU : Addr} {vs : List V} {H : Hp} {Q : VK} {E : XK} {σ : L2.St} {D : Ends} {n : Nat}
theorem hasX_val {X : Bx} {k : Str × Int} : (valV (iV X.xs) (iK k)).isSome = hasX X k := by
  unfold hasX
  rcases find_io X.xs k with ⟨h1, h2, _⟩ | ⟨l, p, r, e, hk, hl, hv, h2⟩
  · rw [h1, h2]; rfl
  · rw [hv, h2]; rfl
/-- Board___len__: slots 0:self -/
def t_Board___len__ (K : PySem.W.Frag) (C_Board : Addr) (C_Item : Addr) : TS := (tRet (tCB rLenT (tCons (tFld K (tVar 0) "_items") tNil)))
theorem l_Board___len__ (h : spBLen K CI C vs H Q E) : vs.length = 1 := by obtain ⟨X, B, rfl, _⟩ := h; rfl
theorem r_Board___len__ (LC : IsC_Board K C) (LCI : IsC_Item K CI) (h : spBLen K CI C vs H Q E) : t_Board___len__ K C CI { nx := fun _ H' => Q .non H', rt := Q } (start ["self"] vs) H := by
  obtain ⟨X, B, rfl, hB, q⟩ := h
  obtain ⟨dx, hb⟩ := hB.hb
  exact w_ret (w_cb (w_cons (w_fldV rfl hb LC.cl LC.n_items rfl (w_nil ⟨X.di, _, rfl, hB.hi, by rw [List.length_map]; exact q⟩))))
/-- Board___iter__: slots 0:self -/
def t_Board___iter__ (K : PySem.W.Frag) (C_Board : Addr) (n0 : Nat) : TS := (tRet (tCB (Wp.rIterVT n0) (tCons (Wp.tDValsT (tFld K (tVar 0) "_items")) tNil)))
theorem l_Board___iter__ (h : spBIter K C n vs H Q E) : vs.length = 1 := by obtain ⟨b, dx, di, ln, tl, fv, od, kvs, rfl, _⟩ := h; rfl
theorem r_Board___iter__ (LC : IsC_Board K C) (h : spBIter K C n vs H Q E) : t_Board___iter__ K C n { nx := fun _ H' => Q .non H', rt := Q } (start ["self"] vs) H := by
  obtain ⟨b, dx, di, ln, tl, fv, od, kvs, rfl, hb, hd, q⟩ := h
  refine w_ret (w_cb (w_cons ?_))
  refine (w_fldV rfl hb LC.cl LC.n_items rfl ⟨di, od, kvs, rfl, hd, fun p hp => w_nil ?_⟩)
  exact ⟨p, di, od, kvs, rfl, upd_same, by rw [upd_ne (ne_of_none hd hp)]; exact hd, fun it hi hn => q _ it (Same.upd (Same.refl H) hp) hi hn⟩
/-- Board___contains__: slots 0:self 1:ref -/
def t_Board___contains__ (K : PySem.W.Frag) (C_Board : Addr) (C_Item : Addr) : TS := (tRet (tDIn (tVar 1) (tFld K (tVar 0) "_items")))
theorem l_Board___contains__ (h : spBHas K CI C vs H Q E) : vs.length = 2 := by obtain ⟨X, B, t, k, rfl, _⟩ := h; rfl
theorem r_Board___contains__ (LC : IsC_Board K C) (LCI : IsC_Item K CI) (h : spBHas K CI C vs H Q E) : t_Board___contains__ K C CI { nx := fun _ H' => Q .non H', rt := Q } (start ["self", "ref"] vs) H := by
  obtain ⟨X, B, t, k, rfl, hB, ht, q⟩ := h
  obtain ⟨dx, hb⟩ := hB.hb
  exact w_ret (w_dinW (w_var rfl (w_fldV rfl hb LC.cl LC.n_items rfl ⟨X.di, _, rfl, DGet.t (k := iK k) hB.hi ht, by rw [hasX_val]; exact q⟩)))
/-- Board_item: slots 0:self 1:ref -/
def t_Board_item (K : PySem.W.Frag) (C_Board : Addr) (C_Item : Addr) (C_RoomError : Addr) (C_Unknown : Addr) (E : XK) : TS := (tSeq (tIfS (tB (tDNotIn (tVar 1) (tFld K (tVar 0) "_items"))) (tRaise C_Unknown E) tNext)
  (tRet (tDGet (tFld K (tVar 0) "_items") (tVar 1))))
theorem l_Board_item (h : spBItemX K CI C CU vs H Q E) : vs.length = 2 := by obtain ⟨X, B, t, k, rfl, _⟩ := h; rfl
theorem r_Board_item (LC : IsC_Board K C) (LCI : IsC_Item K CI) (XF : ExFacts K CR CU) (h : spBItemX K CI C CU vs H Q E) : t_Board_item K C CI CR CU E { nx := fun _ H' => Q .non H', rt := Q } (start ["self", "ref"] vs) H := by
  obtain ⟨X, B, t, k, rfl, hB, ht, q, hu⟩ := h
  obtain ⟨dx, hb⟩ := hB.hb
  unfold t_Board_item
  refine w_seq (w_ifS (w_B (w_dnotinW (w_var rfl (w_fldV rfl hb LC.cl LC.n_items rfl ⟨X.di, _, rfl, DGet.t (k := iK k) hB.hi ht, w_exb ?_⟩)))))
  rw [hasX_val]
  cases e : hasX X k with
  | false => exact ite_t rfl (hu e)
  | true =>
    refine ite_f (by decide) (w_next ?_)
    rcases find_io X.xs k with ⟨_, h2, _⟩ | ⟨l, p, r, e2, hk, hl, hv, h2⟩
    · unfold hasX at e
      rw [h2] at e
      cases e
    · exact w_ret (w_dget (w_fldV rfl hb LC.cl LC.n_items rfl (w_var rfl ⟨X.di, _, rfl, hv ▸ DGet.t (k := iK k) hB.hi ht, q p (by rw [e2]; exact List.mem_append_right _ (List.mem_cons_self ..)) hk⟩)))
end

/-! ### a board changes -/
theorem putK_hit {k : List L2.Key} {v w : V} {l r : List (List L2.Key × V)} (hl : ∀ p ∈ l, p.1 ≠ k) (hr : ∀ p ∈ r, p.1 ≠ k) : putK (l ++ (k, v) :: r) k w = l ++ (k, w) :: r := by
  unfold putK
  rw [if_pos (by rw [List.any_append, List.any_cons, decide_eq_true rfl, Bool.true_or, Bool.or_true]), List.map_append, List.map_cons, if_pos rfl]
  have id' : ∀ {m : List (List L2.Key × V)}, (∀ p ∈ m, p.1 ≠ k) → m.map (fun kv => if kv.1 = k then (kv.1, w) else kv) = m := fun {m} h => by
    refine (List.map_congr_left fun p hp => ?_).trans (List.map_id _)
    rw [if_neg (h p hp)]
    rfl
  rw [id' hl, id' hr]
/-- an item in its place -/
theorem BoAt.setIt {C CI : Addr} {H H' : Hp} {X : Bx} {B : Bo} {l r : List Io} {o : Io} {it : It} (h : BoAt C CI H X B) (e : X.xs = l ++ o :: r) (k : keyI it = keyI o.it) (s : ItStep CI H o it H') (tk : Tk H H') :
    BStep C CI H X { B with its := l.map (·.it) ++ it :: r.map (·.it) } H' := by
  obtain ⟨o', hx, rfl, ho', hfp, kp⟩ := s
  have hmem : o ∈ X.xs := by rw [e]; exact List.mem_append_right _ (List.mem_cons_self ..)
  have hob := h.ho o hmem
  obtain ⟨dx, eb⟩ := h.hb
  obtain ⟨ts, e1, e2⟩ := h.hn
  have dj := h.dj
  rw [e, List.pairwise_append, List.pairwise_cons] at dj
  have other : ∀ p ∈ l ++ r, ∀ b ∈ fp p, b ∉ fp o := by
    intro p hp b hb hbo
    rcases List.mem_append.mp hp with hp | hp
    · exact dj.2.2 p hp o (List.mem_cons_self ..) b hb hbo
    · exact dj.2.1.1 p hp b hbo hb
  have inxs : ∀ p ∈ l ++ r, p ∈ X.xs := fun p hp => by
    rw [e]
    rcases List.mem_append.mp hp with hp | hp
    · exact List.mem_append_left _ hp
    · exact List.mem_append_right _ (List.mem_cons_of_mem _ hp)
  have off : ∀ {b : Addr} {u : HO}, H b = some u → (∀ C dx fs, u ≠ .ins C dx fs) → (∀ kvs, u ≠ .dK kvs) → b ∉ fp o := by
    intro b u eb n1 n2 hb
    rcases List.mem_cons.mp hb with rfl | hb
    · obtain ⟨dx', t, pv, e', _⟩ := hob.hx
      rw [eb] at e'
      exact n1 _ _ _ (Option.some.inj e')
    · rcases List.mem_cons.mp hb with rfl | hb
      · have := hob.hd
        rw [eb] at this
        exact n2 _ (Option.some.inj this)
      · obtain ⟨m, hm, rfl⟩ := List.mem_map.mp hb
        have := hob.hm m hm
        rw [eb] at this
        exact n2 _ (Option.some.inj this)
  have nbo : X.b ∉ fp o := by
    intro hb
    rcases List.mem_cons.mp hb with hb | hb
    · exact h.nb o hmem hb.symm
    · rcases List.mem_cons.mp hb with hb | hb
      · have := hob.hd
        rw [← hb, eb] at this
        cases this
      · obtain ⟨m, hm, hb⟩ := List.mem_map.mp hb
        have := hob.hm m hm
        rw [hb, eb] at this
        cases this
  have live : ∀ p ∈ X.xs, ∀ b ∈ fp p, H b ≠ none := fun p hp b hb z => by
    obtain ⟨u, e, _⟩ := (h.ho p hp).mem hb
    rw [e] at z
    cases z
  have sub : ∀ p ∈ l ++ r, ∀ b ∈ fp p, b ∉ fp o' := fun p hp b hb hbo => (hfp b hbo).elim (other p hp b hb) (live p (inxs p hp) b hb)
  have keep : ∀ p ∈ l ++ r, IoAt CI H' p := fun p hp => (h.ho p (inxs p hp)).kpP kp (other p hp) tk
  refine ⟨{ X with xs := l ++ o' :: r }, rfl, ⟨⟨dx, kp _ _ nbo eb⟩, ?_, ?_, ?_, ?_, ?_, ?_, ⟨ts, kp _ _ (off e1 (fun _ _ _ z => by cases z) (fun _ z => by cases z)) e1, dnall_tk tk h.pn e2⟩, h.pn⟩, ?_, ?_⟩
  · refine (kp _ _ (off h.hi (fun _ _ _ z => by cases z) (fun _ z => by cases z)) h.hi).trans ?_
    rw [e]
    unfold iV
    rw [List.map_append, List.map_append, List.map_cons, List.map_cons, k, hx]
  · intro p hp
    rcases List.mem_append.mp hp with hp | hp
    · exact keep p (List.mem_append_left _ hp)
    · rcases List.mem_cons.mp hp with rfl | hp
      · exact ho'
      · exact keep p (List.mem_append_right _ hp)
  · rw [List.pairwise_append, List.pairwise_cons]
    refine ⟨dj.1, ⟨fun p hp b hb hbp => sub p (List.mem_append_right _ hp) b hbp hb, dj.2.1.2⟩, fun p hp q hq b hb => ?_⟩
    rcases List.mem_cons.mp hq with rfl | hq
    · exact sub p (List.mem_append_left _ hp) b hb
    · exact dj.2.2 p hp q (List.mem_cons_of_mem _ hq) b hb
  · intro p hp
    rcases List.mem_append.mp hp with hp | hp
    · exact h.nb p (inxs p (List.mem_append_left _ hp))
    · rcases List.mem_cons.mp hp with rfl | hp
      · rw [hx]
        exact h.nb o hmem
      · exact h.nb p (inxs p (List.mem_append_right _ hp))
  · have kd := h.kd
    rw [e, List.map_append, List.map_cons] at kd
    rw [List.map_append, List.map_cons, k]
    exact kd
  · rw [List.map_append, List.map_cons]
  · intro a ha
    rcases List.mem_cons.mp ha with rfl | ha
    · exact .inl (List.mem_cons_self ..)
    · rcases List.mem_cons.mp ha with rfl | ha
      · exact .inl (List.mem_cons_of_mem _ (List.mem_cons_self ..))
      · rcases List.mem_cons.mp ha with rfl | ha
        · exact .inl (List.mem_cons_of_mem _ (List.mem_cons_of_mem _ (List.mem_cons_self ..)))
        · obtain ⟨p, hp, hb⟩ := List.mem_flatMap.mp ha
          rcases List.mem_append.mp hp with hp | hp
          · exact .inl (bp_io (inxs p (List.mem_append_left _ hp)) hb)
          · rcases List.mem_cons.mp hp with rfl | hp
            · exact (hfp a hb).imp (fun z => bp_io hmem z) id
            · exact .inl (bp_io (inxs p (List.mem_append_right _ hp)) hb)
  · exact kp.mono fun b hb => bp_io hmem hb
theorem BStep.refl {C CI : Addr} {H H' : Hp} {X : Bx} {B : Bo} (h : BoAt C CI H X B) (s : Same H H') : BStep C CI H X B H' := ⟨X, rfl, h.same s, fun _ ha => .inl ha, KpP.same s⟩
/-- ahead of a step nothing changes -/
theorem BStep.pre {C CI : Addr} {H H1 H' : Hp} {X : Bx} {B : Bo} (s : Same H H1) (h : BStep C CI H1 X B H') : BStep C CI H X B H' := by
  obtain ⟨X', e, hb, hp, k⟩ := h
  exact ⟨X', e, hb, fun a ha => (hp a ha).imp id fun z => same_none s z, (KpP.same s).trans k⟩
section
variable {K : PySem.W.Frag} {C CL CI : Addr} {vs : List V} {H : Hp} {Q : VK} {E : XK} {σ : L2.St} {D : Ends}
theorem ParAt.key {H : Hp} {v : V} {a : Str} {n : Int} (h : ParAt H v (some (a, n))) : ∃ t, v = .ref t ∧ H t = some (.tup [.str a, .int n]) := by
  rcases h with ⟨e, _⟩ | ⟨t, q, e, h1, h2⟩
  · cases e
  · cases e
    exact ⟨t, h1, h2⟩
theorem w_dget1 {td ty : TE} (q : td σ H fun x H1 => ∃ a, x = .ref a ∧ IsD H1 a ∧ ty σ H1 fun y H2 => ∃ o, DGet H2 a y o ∧ Q (o.getD .non) H2) : tDGet1 td ty σ H Q := q
theorem tk_step {o : Io} {it : It} {H' : Hp} (h : IoAt CI H o) (s : ItStep CI H o it H') : Tk H H' := by
  obtain ⟨o', _, _, _, _, kp⟩ := s
  intro b xs e
  refine kp _ _ (fun hb => ?_) e
  obtain ⟨u, e2, n⟩ := h.mem hb
  rw [e] at e2
  exact n xs (Option.some.inj e2).symm
/-- the change of one item -/
theorem chg_step {X : Bx} {B : Bo} {l r : List Io} {o : Io} {H' : Hp} {k : Str × Int} {f : It → It} (h : BoAt C CI H X B) (e : X.xs = l ++ o :: r) (ek : keyI o.it = k) (hl : ∀ p ∈ l, keyI p.it ≠ k) (kf : keyI (f o.it) = keyI o.it) (s : ItStep CI H o (f o.it) H') :
    BStep C CI H X { B with its := chgF k f B.its } H' := by
  have hb := h.setIt e kf s (tk_step (h.ho o (by rw [e]; exact List.mem_append_right _ (List.mem_cons_self ..))) s)
  rw [h.its, e, List.map_append, List.map_cons, chgF_hit ek fun x hx => by
    obtain ⟨p, hp, rfl⟩ := List.mem_map.mp hx
    exact hl p hp]
  exact hb
theorem itStep_refl {o : Io} {H' : Hp} (h : IoAt CI H o) (s : Same H H') : ItStep CI H o o.it H' := ⟨o, rfl, rfl, h.same s, fun _ hb => .inl hb, KpP.same s⟩
theorem ItStep.pre {H1 H' : Hp} {o : Io} {it : It} (s : Same H H1) (h : ItStep CI H1 o it H') : ItStep CI H o it H' := by
  obtain ⟨o', e, e2, h1, hf, k⟩ := h
  exact ⟨o', e, e2, h1, fun b hb => (hf b hb).imp id fun z => same_none s z, (KpP.same s).trans k⟩
theorem tgt_chg {B : Bo} {L : Lt} {b : Bb} (hk : b.kind = Str.ofString "edit" ∨ b.kind = Str.ofString "recall" ∨ b.kind = Str.ofString "mark") : ∃ k, b.tgt = some k ∧ showB B L b = { B with its := chgF k (stepI L b) B.its } := by
  cases b with
  | edit a n t => exact ⟨(a, n), rfl, rfl⟩
  | recall a n => exact ⟨(a, n), rfl, rfl⟩
  | mark a n w => exact ⟨(a, n), rfl, rfl⟩
  | reply a n t => exfalso; revert hk; dsimp only [Bb.kind]; decide +kernel
  | say t => exfalso; revert hk; dsimp only [Bb.kind]; decide +kernel
  | title t => exfalso; revert hk; dsimp only [Bb.kind]; decide +kernel
  | seen => exfalso; revert hk; dsimp only [Bb.kind]; decide +kernel
  | found t ds => exfalso; revert hk; dsimp only [Bb.kind]; decide +kernel
  | act k nm h =>
    exfalso
    have hk : k = Str.ofString "edit" ∨ k = Str.ofString "recall" ∨ k = Str.ofString "mark" := hk
    revert hk
    rcases h with e | e | e <;> (rw [e]; decide +kernel)
theorem stepI_key (L : Lt) (b : Bb) (i : It) : keyI (stepI L b i) = keyI i := by
  cases b <;> (unfold stepI; dsimp only; repeat' split) <;> rfl
theorem stepI_rc (L : Lt) (b : Bb) (i : It) (h : i.rc = true) : stepI L b i = i := by
  cases b <;> (unfold stepI; dsimp only) <;> first | rfl | rw [if_pos h]
/-- Board__change_item: slots 0:self 1:letter 2:item 3:kind -/
def t_Board__change_item (K : PySem.W.Frag) (C_Board : Addr) (C_Letter : Addr) (C_Item : Addr) : TS := (tSeq (tAsg (tDGet1 (tFld K (tVar 0) "_items") (tCall (spTarget K) [] C8.E0 (tCons (tFld K (tVar 1) "body") tNil))) (gName 2))
  (tSeq (tIfS (tOr (tTest (tOp qIsN (tVar 2) (tC .non))) (tB (tFld K (tVar 2) "recalled"))) tRetN tNext)
  (tSeq (tAsg (tOp (rIxT K) (tFld K (tVar 1) "body") (tC (.int 0))) (gName 3))
  (tIfS (tTest (tOp rEq (tVar 3) (tC (.str "mark")))) (tDrop (tMeth C_Item "mark" (spItMark K C_Item) [] C8.E0 (tVar 2) (tCons (tOp (rIxT K) (tFld K (tVar 1) "body") (tC (.int 2))) (tCons (tFld K (tVar 1) "author") tNil)))) (tIfS (tTest (tOp rEq (tFld K (tVar 2) "author") (tFld K (tVar 1) "author"))) (tIfS (tTest (tOp rEq (tVar 3) (tC (.str "edit")))) (tDrop (tMeth C_Item "edit" (spItEdit K C_Item) [] C8.E0 (tVar 2) (tCons (tOp (rIxT K) (tFld K (tVar 1) "body") (tC (.int 2))) tNil))) (tDrop (tMeth C_Item "recall" (spItRecall K C_Item) [] C8.E0 (tVar 2) tNil))) tNext)))))
theorem l_Board__change_item (h : spBChange K CL CI C vs H Q E) : vs.length = 2 := by obtain ⟨X, B, x, L, b, rfl, _⟩ := h; rfl
theorem r_Board__change_item (LC : IsC_Board K C) (LCL : IsC_Letter K CL) (LCI : IsC_Item K CI) (h : spBChange K CL CI C vs H Q E) : t_Board__change_item K C CL CI { nx := fun _ H' => Q .non H', rt := Q } (start ["self", "letter", "item", "kind"] vs) H := by
  obtain ⟨X, B, x, L, b, rfl, hB, hsz, hL, eb, hk, q⟩ := h
  obtain ⟨dx, hb⟩ := hB.hb
  obtain ⟨dxl, dl, sv, bv, hx, _, _, _, hbv⟩ := id hL
  rw [eb] at hbv
  unfold t_Board__change_item
  refine w_seq (w_asg (w_dget1 (w_fldV rfl hb LC.cl LC.n_items rfl ⟨X.di, rfl, .inr ⟨_, .inl hB.hi⟩, w_call (w_cons (w_fldV rfl hx LCL.cl LCL.n_body lfs_body (w_nil ⟨bv, b, rfl, hbv, fun v H1 s1 hp => ?_⟩)))⟩)))
  obtain ⟨k, ek, es⟩ := tgt_chg (B := B) (L := L) hk
  rw [es] at q
  rw [ek] at hp
  obtain ⟨k1, k2⟩ := k
  obtain ⟨t, rfl, ht⟩ := hp.key
  have hB1 := hB.same s1
  obtain ⟨ta, xs, rfl, hta, hxs⟩ := bb_at (hbv.same s1)
  rcases find_io X.xs (k1, k2) with ⟨hv, _, hno⟩ | ⟨l, o, r, e, hko, hl, hv, _⟩
  · refine ⟨_, hv ▸ DGet.t (k := iK (k1, k2)) hB1.hi ht, w_name ?_⟩
    have enone : chgF (k1, k2) (stepI L b) B.its = B.its := chgF_none fun i hi => by
      rw [hB.its] at hi
      obtain ⟨o, ho, rfl⟩ := List.mem_map.mp hi
      exact hno o ho
    rw [enone] at q
    refine w_seq (w_ifS (w_or (w_test (w_op (w_var rfl (w_c (w_isN (w_exb (ite_t (decide_eq_true rfl) (ite_t rfl (w_retN ?_)))))))))))
    exact q H1 (BStep.refl hB s1)
  · refine ⟨_, hv ▸ DGet.t (k := iK (k1, k2)) hB1.hi ht, w_name ?_⟩
    have hmem : o ∈ X.xs := by rw [e]; exact List.mem_append_right _ (List.mem_cons_self ..)
    have ho := hB.ho o hmem
    have ho1 := ho.same s1
    obtain ⟨dx1, t1, pv1, hox, _, _⟩ := id ho1.hx
    have hms : MkSz 1000 o.it := hsz.2.1 _ (by rw [hB.its]; exact List.mem_map_of_mem hmem)
    have fin : ∀ H', ItStep CI H1 o (stepI L b o.it) H' → Q .non H' := fun H' st => q H' (chg_step hB e hko hl (stepI_key L b o.it) (st.pre s1))
    have same : stepI L b o.it = o.it → Q .non H1 := fun z => fin H1 (by rw [z]; exact itStep_refl ho1 (Same.refl H1))
    have hko2 : o.it.a = k1 := congrArg Prod.fst hko
    refine w_seq (w_ifS (w_or (w_test (w_op (w_var (v := .ref o.x) rfl (w_c (w_isN (w_exb (ite_f (fun z => by cases of_decide_eq_true z) (w_B (w_fldV rfl hox LCI.cl LCI.n_recalled rfl (w_exb ?_))))))))))))
    cases hrc : o.it.rc with
    | true => exact ite_t rfl (w_retN (same (stepI_rc L b o.it hrc)))
    | false =>
      refine ite_f (by decide) (w_next (w_seq (w_asg (w_op (w_fldV rfl (s1 _ _ hx) LCL.cl LCL.n_body lfs_body (w_c (w_ixT (SqT.of hta) (atI_nat (j := 0) rfl) (w_name ?_))))))))
      have hxl := s1 _ _ hx
      cases b with
      | mark a n w =>
        cases hxs with
        | cons h1 h2 =>
          cases h2 with
          | cons h2 h3 =>
            cases h2
            cases h3
            have em : stepI L (.mark a n w) o.it = markI w L.a o.it := by unfold stepI; dsimp only; rw [if_neg (by rw [hrc]; decide)]
            rw [em] at fin
            refine w_ifS (w_test (w_op (w_var rfl (w_c (w_eqS (w_exb (ite_t (decide_eq_true rfl) (w_drop (w_methV rfl hox rfl (w_cons (w_op (w_fldV rfl hxl LCL.cl LCL.n_body lfs_body (w_c (w_ixT (SqT.of hta) (atI_nat (j := 2) rfl) (w_cons (w_fldV rfl hxl LCL.cl LCL.n_author lfs_author (w_nil ⟨o, w, L.a, rfl, ho1, hms, fin⟩)))))))))))))))))
      | edit a n t =>
        cases hxs with
        | cons h1 h2 =>
          cases h2 with
          | cons h2 h3 =>
            cases h2
            cases h3
            refine w_ifS (w_test (w_op (w_var rfl (w_c (w_eqS (w_exb (ite_f (fun z => absurd (of_decide_eq_true z) (by dsimp only [Bb.kind]; decide +kernel)) ?_)))))))
            refine w_ifS (w_test (w_op (w_fldV (x := o.x) rfl hox LCI.cl LCI.n_author rfl (w_fldV rfl hxl LCL.cl LCL.n_author lfs_author (w_eqS (w_exb (w_ite (fun c => ?_) (fun c => w_next (same ?_)))))))))
            · have em : stepI L (.edit a n t) o.it = editI t o.it := by unfold stepI; dsimp only; rw [if_neg (by rw [hrc]; decide), if_pos c]
              rw [em] at fin
              refine w_ifS (w_test (w_op (w_var rfl (w_c (w_eqS (w_exb (ite_t (decide_eq_true rfl) (w_drop (w_methV rfl hox rfl (w_cons (w_op (w_fldV rfl hxl LCL.cl LCL.n_body lfs_body (w_c (w_ixT (SqT.of hta) (atI_nat (j := 2) rfl) (w_nil ⟨o, t, rfl, ho1, fin⟩)))))))))))))))
            · unfold stepI
              dsimp only
              rw [if_neg (by rw [hrc]; decide), if_neg c]
      | recall a n =>
        refine w_ifS (w_test (w_op (w_var rfl (w_c (w_eqS (w_exb (ite_f (fun z => absurd (of_decide_eq_true z) (by dsimp only [Bb.kind]; decide +kernel)) ?_)))))))
        refine w_ifS (w_test (w_op (w_fldV (x := o.x) rfl hox LCI.cl LCI.n_author rfl (w_fldV rfl hxl LCL.cl LCL.n_author lfs_author (w_eqS (w_exb (w_ite (fun c => ?_) (fun c => w_next (same ?_)))))))))
        · have em : stepI L (.recall a n) o.it = recallI o.it := by unfold stepI; dsimp only; rw [if_neg (by rw [hrc]; decide), if_pos c]
          rw [em] at fin
          refine w_ifS (w_test (w_op (w_var rfl (w_c (w_eqS (w_exb (ite_f (fun z => absurd (of_decide_eq_true z) (by dsimp only [Bb.kind]; decide +kernel)) (w_drop (w_methV rfl hox rfl (w_nil ⟨o, rfl, ho1, fin⟩)))))))))) 
        · unfold stepI
          dsimp only
          rw [if_neg (by rw [hrc]; decide), if_neg c]
      | reply a n t => exfalso; revert hk; dsimp only [Bb.kind]; decide +kernel
      | say t => exfalso; revert hk; dsimp only [Bb.kind]; decide +kernel
      | title t => exfalso; revert hk; dsimp only [Bb.kind]; decide +kernel
      | seen => exfalso; revert hk; dsimp only [Bb.kind]; decide +kernel
      | found t ds => exfalso; revert hk; dsimp only [Bb.kind]; decide +kernel
      | act k nm h => exact nomatch ek
end

/-! ### a board takes a new item -/
theorem put_step {C CI : Addr} {H H5 H6 : Hp} {X : Bx} {B : Bo} {xo d : Addr} {it : It} (h : BoAt C CI H X B) (s5 : Same H H5) (nx : H xo = none) (nd : H d = none) (hd : d ≠ xo) (ho : IoAt CI H5 ⟨xo, d, [], it⟩) (k6 : Kp X.di H5 H6) (g6 : H6 X.di = some (.dT (putK (iV X.xs) (iK (keyI it)) (.ref xo)))) :
    BStep C CI H X { B with its := putI it B.its } H6 := by
  obtain ⟨dx, eb⟩ := h.hb
  obtain ⟨ts, e1, e2⟩ := h.hn
  have kp : KpP (· = X.di) H H6 := fun b u n e => k6 b u n (s5 _ _ e)
  have kp5 : KpP (· = X.di) H5 H6 := fun b u n e => k6 b u n e
  have tk : Tk H H6 := fun b xs e => kp b _ (ne_kind e h.hi fun z => by cases z) e
  have live : ∀ {p : Io}, p ∈ X.xs → ∀ b ∈ fp p, H b ≠ none := fun hp b hb z => by
    obtain ⟨u, e, _⟩ := (h.ho _ hp).mem hb
    rw [e] at z
    cases z
  have ndi : ∀ {p : Io}, IoAt CI H p → ∀ b ∈ fp p, b ≠ X.di := by
    intro p hp b hb z
    subst z
    rcases List.mem_cons.mp hb with hb | hb
    · obtain ⟨dx', t, pv, e', _⟩ := hp.hx
      rw [← hb, h.hi] at e'
      cases e'
    · rcases List.mem_cons.mp hb with hb | hb
      · have := hp.hd
        rw [← hb, h.hi] at this
        cases this
      · obtain ⟨m, hm, hb⟩ := List.mem_map.mp hb
        have := hp.hm m hm
        rw [hb, h.hi] at this
        cases this
  have keep : ∀ p ∈ X.xs, IoAt CI H6 p := fun p hp => (h.ho p hp).kpP kp (ndi (h.ho p hp)) tk
  have fpo : ∀ b ∈ fp (⟨xo, d, [], it⟩ : Io), H b = none := fun b hb => by
    rcases List.mem_cons.mp hb with rfl | hb
    · exact nx
    · rw [List.mem_singleton.mp hb]
      exact nd
  have keepo : IoAt CI H6 ⟨xo, d, [], it⟩ := ho.kpP kp5 (fun b hb z => by
    have := fpo b hb
    rw [show b = X.di from z, h.hi] at this
    cases this) fun b xs e => k6 _ _ (ne_kind e (s5 _ _ h.hi) fun z => by cases z) e
  have sep : ∀ p ∈ X.xs, ∀ b ∈ fp p, b ∉ fp (⟨xo, d, [], it⟩ : Io) := fun p hp b hb z => live hp b hb (fpo b z)
  have nbx : xo ≠ X.b := (ne_of_none eb nx).symm
  have hb6 : ∃ dx, H6 X.b = some (.ins C dx (boF B.title (strV B.founder) X.di X.ln)) := ⟨dx, kp _ _ (ne_kind eb h.hi fun z => by cases z) eb⟩
  have hn6 : ∃ ts, H6 X.ln = some (.lst ts) ∧ DnAll Any H6 ts B.nts := ⟨ts, kp _ _ (ne_kind e1 h.hi fun z => by cases z) e1, dnall_tk tk h.pn e2⟩
  have fin : ∀ xs' : List Io, (∀ p ∈ xs', p ∈ X.xs ∨ p = ⟨xo, d, [], it⟩) → H6 X.di = some (.dT (iV xs')) → (xs'.Pairwise fun o p => ∀ b ∈ fp o, b ∉ fp p) → (xs'.map fun o => keyI o.it).Nodup → putI it B.its = xs'.map (·.it) → BStep C CI H X { B with its := putI it B.its } H6 := by
    intro xs' hin hi dj kd eits
    refine ⟨{ X with xs := xs' }, rfl, ⟨hb6, hi, fun p hp => ?_, dj, fun p hp => ?_, kd, eits, hn6, h.pn⟩, fun a ha => ?_, kp.mono fun b hb => ?_⟩
    · rcases hin p hp with hp | rfl
      · exact keep p hp
      · exact keepo
    · rcases hin p hp with hp | rfl
      · exact h.nb p hp
      · exact nbx
    · rcases List.mem_cons.mp ha with rfl | ha
      · exact .inl (List.mem_cons_self ..)
      · rcases List.mem_cons.mp ha with rfl | ha
        · exact .inl (List.mem_cons_of_mem _ (List.mem_cons_self ..))
        · rcases List.mem_cons.mp ha with rfl | ha
          · exact .inl (List.mem_cons_of_mem _ (List.mem_cons_of_mem _ (List.mem_cons_self ..)))
          · obtain ⟨p, hp, hb⟩ := List.mem_flatMap.mp ha
            rcases hin p hp with hp | rfl
            · exact .inl (bp_io hp hb)
            · exact .inr (fpo a hb)
    · rw [show b = X.di from hb]
      exact List.mem_cons_of_mem _ (List.mem_cons_self ..)
  rcases find_io X.xs (keyI it) with ⟨hv, hh, hno⟩ | ⟨l, o, r, e, hk, hl, hv, hh⟩
  · refine fin (X.xs ++ [⟨xo, d, [], it⟩]) (fun p hp => ?_) ?_ ?_ ?_ ?_
    · exact (List.mem_append.mp hp).imp id List.mem_singleton.mp
    · rw [g6, putK_new _ hv]
      unfold iV
      rw [List.map_append]
      rfl
    · rw [List.pairwise_append]
      refine ⟨h.dj, List.pairwise_singleton _ _, fun p hp q hq => ?_⟩
      rw [List.mem_singleton.mp hq]
      exact sep p hp
    · rw [List.map_append, List.nodup_append]
      refine ⟨h.kd, List.nodup_cons.mpr ⟨(fun z => nomatch z), List.nodup_nil⟩, fun a ha b hb => ?_⟩
      obtain ⟨p, hp, rfl⟩ := List.mem_map.mp ha
      rw [List.mem_singleton.mp hb]
      exact hno p hp
    · unfold putI
      rw [h.its, hh, if_neg (by decide), List.map_append]
      rfl
  · have kd := h.kd
    rw [e, List.map_append, List.map_cons, List.nodup_append, List.nodup_cons] at kd
    have hr : ∀ p ∈ r, keyI p.it ≠ keyI it := fun p hp z => kd.2.1.1 (by rw [hk, ← z]; exact List.mem_map_of_mem (f := fun o => keyI o.it) hp)
    have dj := h.dj
    rw [e, List.pairwise_append, List.pairwise_cons] at dj
    have inl : ∀ p ∈ l, p ∈ X.xs := fun p hp => by rw [e]; exact List.mem_append_left _ hp
    have inr : ∀ p ∈ r, p ∈ X.xs := fun p hp => by rw [e]; exact List.mem_append_right _ (List.mem_cons_of_mem _ hp)
    refine fin (l ++ ⟨xo, d, [], it⟩ :: r) (fun p hp => ?_) ?_ ?_ ?_ ?_
    · rcases List.mem_append.mp hp with hp | hp
      · exact .inl (inl p hp)
      · rcases List.mem_cons.mp hp with hp | hp
        · exact .inr hp
        · exact .inl (inr p hp)
    · rw [g6, e]
      unfold iV
      rw [List.map_append, List.map_append, List.map_cons, List.map_cons, hk]
      rw [putK_hit (fun z hz => ?_) (fun z hz => ?_)]
      · obtain ⟨p, hp, rfl⟩ := List.mem_map.mp hz
        exact fun y => hl p hp (iK_inj y)
      · obtain ⟨p, hp, rfl⟩ := List.mem_map.mp hz
        exact fun y => hr p hp (iK_inj y)
    · rw [List.pairwise_append, List.pairwise_cons]
      refine ⟨dj.1, ⟨fun p hp b hb hbp => sep p (inr p hp) b hbp hb, dj.2.1.2⟩, fun p hp q hq => ?_⟩
      rcases List.mem_cons.mp hq with rfl | hq
      · exact sep p (inl p hp)
      · exact dj.2.2 p hp q (List.mem_cons_of_mem _ hq)
    · rw [List.map_append, List.map_cons, List.nodup_append, List.nodup_cons]
      rw [hk] at kd
      exact kd
    · unfold putI
      rw [h.its, hh, if_pos rfl, e, List.map_append, List.map_cons, chgF_hit hk fun x hx => ?_, List.map_append, List.map_cons]
      obtain ⟨p, hp, rfl⟩ := List.mem_map.mp hx
      exact hl p hp
section
variable {K : PySem.W.Frag} {C CL CI : Addr} {vs : List V} {H : Hp} {Q : VK} {E : XK} {σ : L2.St} {D : Ends}
theorem w_dnotinZ {td ty : TE} (q : ty σ H fun y H1 => td σ H1 fun x H2 => (∃ a o, x = .ref a ∧ DGet H2 a y o ∧ Q (.bl (!o.isSome)) H2) ∨ ∃ a kvs, x = .ref a ∧ y = .non ∧ Rd H2 a (.dT kvs) ∧ Q (.bl true) H2) : Wp.tDNotInZ ty td σ H Q := q
theorem put_fin {X : Bx} {B : Bo} {x : Addr} {L : Lt} {b : Bb} {pv : V} {par : Option (Str × Int)} {tx : Str} (LC : IsC_Board K C) (LCL : IsC_Letter K CL) (hB : BoAt C CI H X B) (hl : B.its.length ≤ 1000) (hL : LtAt Any CL H x L) (eb : L.b = b.toD) (et : b.txt = some tx) (hp : ParAt H pv par)
    (h0 : σ[0]? = some (some (.ref X.b))) (h1 : σ[1]? = some (some (.ref x))) (h2 : σ[2]? = some (some pv)) (q : ∀ σ' H', BStep C CI H X { B with its := putI (newI L tx par) B.its } H' → D.nx σ' H') :
    sDPut (tFld K (tVar 0) "_items") (tProp CL (spRefP K CL) [] C8.E0 (tVar 1)) (tMake CI (spItInit K CI) [] C8.E0 (tCons (tProp CL (spRefP K CL) [] C8.E0 (tVar 1)) (tCons (tCall (spTextOf K) [] C8.E0 (tCons (tFld K (tVar 1) "body") tNil)) (tCons (tVar 2) tNil)))) D σ H := by
  obtain ⟨dx, hb⟩ := hB.hb
  obtain ⟨dxl, dl, sv, bv, hx, _, _, _, hbv⟩ := id hL
  rw [eb] at hbv
  refine w_dput (w_make (w_cons (w_propV h1 hx ⟨x, L, rfl, hL, fun t1 H2 _ s2 e2 => w_cons (w_call (w_cons (w_fldV h1 (s2 _ _ hx) LCL.cl LCL.n_body lfs_body (w_nil ⟨bv, b, tx, rfl, hbv.same s2, et, fun H3 s3 => w_cons (w_var h2 (w_nil fun xo dxo nxo ndx ne => ?_))⟩))))⟩)))
  have sA := s2.trans s3
  have tkA : Tk H3 (upd (upd H3 dxo (.own xo)) xo (.ins CI dxo [])) := fun c xs e => by
    rw [upd_ne (ne_of_none e nxo), upd_ne (ne_of_none e ndx)]
    exact e
  refine ⟨xo, dxo, t1, L.a, L.n, tx, pv, par, rfl, upd_same, tkA _ _ (s3 _ _ e2), (hp.tk (Tk.same sA)).tk tkA, fun H4 d fd nd k4 hio => ⟨rfl, ?_⟩⟩
  have s4 : Same H3 H4 := same_made2 nxo ndx k4
  have s04 := sA.trans s4
  have fd3 : H3 d = none := by
    rw [upd_ne nd] at fd
    cases e : H3 d with
    | none => rfl
    | some u =>
      rw [upd_ne (ne_of_none e ndx), e] at fd
      cases fd
  refine w_fldV h0 (s04 _ _ hb) LC.cl LC.n_items rfl (w_propV h1 (s04 _ _ hx) ⟨x, L, rfl, hL.same s04, fun t2 H5 _ s5 e5 => dputT (k := iK (L.a, L.n)) (s5 _ _ (s04 _ _ hB.hi)) e5 ?_ fun H6 k6 g6 => ?_⟩)
  · rw [List.length_map]
    have := congrArg List.length hB.its
    rw [List.length_map] at this
    omega
  · exact q _ H6 (put_step hB (s04.trans s5) (same_none sA nxo) (same_none sA fd3) nd (hio.same s5) k6 g6)
/-- Board__put_item: slots 0:self 1:letter 2:parent -/
def t_Board__put_item (K : PySem.W.Frag) (C_Letter : Addr) (C_Board : Addr) (C_Item : Addr) : TS := (tSeq (tAsg (tCall (spTarget K) [] C8.E0 (tCons (tFld K (tVar 1) "body") tNil)) (gName 2))
  (tSeq (tIfS (tB (Wp.tDNotInZ (tVar 2) (tFld K (tVar 0) "_items"))) (tAsg (tC .non) (gName 2)) tNext)
  (sDPut (tFld K (tVar 0) "_items") (tProp C_Letter (spRefP K C_Letter) [] C8.E0 (tVar 1)) (tMake C_Item (spItInit K C_Item) [] C8.E0 (tCons (tProp C_Letter (spRefP K C_Letter) [] C8.E0 (tVar 1)) (tCons (tCall (spTextOf K) [] C8.E0 (tCons (tFld K (tVar 1) "body") tNil)) (tCons (tVar 2) tNil)))))))
theorem l_Board__put_item (h : spBPut K CL CI C vs H Q E) : vs.length = 2 := by obtain ⟨X, B, x, L, b, rfl, _⟩ := h; rfl
theorem r_Board__put_item (LCL : IsC_Letter K CL) (LC : IsC_Board K C) (LCI : IsC_Item K CI) (h : spBPut K CL CI C vs H Q E) : t_Board__put_item K CL C CI { nx := fun _ H' => Q .non H', rt := Q } (start ["self", "letter", "parent"] vs) H := by
  obtain ⟨X, B, x, L, b, rfl, hB, hsz, hL, eb, hk, q⟩ := h
  obtain ⟨dx, hb⟩ := hB.hb
  obtain ⟨dxl, dl, sv, bv, hx, _, _, _, hbv⟩ := id hL
  rw [eb] at hbv
  unfold t_Board__put_item
  refine w_seq (w_asg (w_call (w_cons (w_fldV rfl hx LCL.cl LCL.n_body lfs_body (w_nil ⟨bv, b, rfl, hbv, fun v H1 s1 hp => w_name ?_⟩)))))
  have hB1 := hB.same s1
  have fin : ∀ {σ : L2.St} {pv : V} {par : Option (Str × Int)} {tx : Str}, σ[0]? = some (some (.ref X.b)) → σ[1]? = some (some (.ref x)) → σ[2]? = some (some pv) → ParAt H1 pv par → b.txt = some tx → showB B L b = { B with its := putI (newI L tx par) B.its } →
      sDPut (tFld K (tVar 0) "_items") (tProp CL (spRefP K CL) [] C8.E0 (tVar 1)) (tMake CI (spItInit K CI) [] C8.E0 (tCons (tProp CL (spRefP K CL) [] C8.E0 (tVar 1)) (tCons (tCall (spTextOf K) [] C8.E0 (tCons (tFld K (tVar 1) "body") tNil)) (tCons (tVar 2) tNil)))) { nx := fun _ H' => Q .non H', rt := Q } σ H1 := by
    intro σ pv par tx h0 h1 h2 hp' et es
    exact put_fin LC LCL hB1 hsz.1 (hL.same s1) eb et hp' h0 h1 h2 fun _ H' st => q H' (by rw [es]; exact st.pre s1)
  cases b with
  | say t =>
    rcases hp with ⟨_, rfl⟩ | ⟨_, _, z, _⟩
    · refine w_seq (w_ifS (w_B (w_dnotinZ (w_var rfl (w_fldV rfl (s1 _ _ hb) LC.cl LC.n_items rfl (.inr ⟨X.di, _, rfl, rfl, .inl hB1.hi, w_exb (ite_t rfl (w_asg (w_c (w_name ?_))))⟩))))))
      exact fin rfl rfl rfl (.inl ⟨rfl, rfl⟩) rfl rfl
    · cases z
  | reply a n t =>
    obtain ⟨tt, rfl, ht⟩ := ParAt.key hp
    refine w_seq (w_ifS (w_B (w_dnotinZ (w_var rfl (w_fldV rfl (s1 _ _ hb) LC.cl LC.n_items rfl (.inl ⟨X.di, _, rfl, DGet.t (k := iK (a, n)) hB1.hi ht, w_exb ?_⟩))))))
    rcases find_io X.xs (a, n) with ⟨hv, hh, _⟩ | ⟨l, o, r, e, hko, hl, hv, hh⟩
    · refine ite_t (by rw [hv]; rfl) (w_asg (w_c (w_name ?_)))
      refine fin rfl rfl rfl (.inl ⟨rfl, rfl⟩) rfl ?_
      unfold showB parI
      dsimp only
      rw [hB.its, hh, if_neg (by decide)]
    · refine ite_f (by rw [hv]; exact Bool.false_ne_true) (w_next ?_)
      refine fin rfl rfl rfl hp rfl ?_
      unfold showB parI
      dsimp only
      rw [hB.its, hh, if_pos rfl]
      rfl
  | edit a n t => exfalso; revert hk; dsimp only [Bb.kind]; decide +kernel
  | recall a n => exfalso; revert hk; dsimp only [Bb.kind]; decide +kernel
  | mark a n w => exfalso; revert hk; dsimp only [Bb.kind]; decide +kernel
  | title t => exfalso; revert hk; dsimp only [Bb.kind]; decide +kernel
  | seen => exfalso; revert hk; dsimp only [Bb.kind]; decide +kernel
  | found t ds => exfalso; revert hk; dsimp only [Bb.kind]; decide +kernel
  | act k nm h =>
    exfalso
    have hk : k = Str.ofString "say" ∨ k = Str.ofString "reply" := hk
    revert hk
    rcases h with e | e | e <;> (rw [e]; decide +kernel)
end

/-! ### a board is shown letters -/
theorem MkSz.mono {n m : Nat} {i : It} (h : MkSz n i) (l : n ≤ m) : MkSz m i := ⟨Nat.le_trans h.1 l, fun x hx => Nat.le_trans (h.2 x hx) l⟩
theorem flip_len (nm : Str) (ns : List Str) : (flipS nm ns).length ≤ ns.length + 1 := by
  unfold flipS
  split
  · exact Nat.le_succ_of_le (List.length_filter_le _ _)
  · rw [List.length_append, List.length_singleton]
    exact Nat.le_refl _
theorem tog_sz {w nm : Str} {n : Nat} : ∀ {l : List (Str × List Str)}, (∀ m ∈ l, m.2.length ≤ n) → (togF w nm l).length ≤ l.length + 1 ∧ ∀ m ∈ togF w nm l, m.2.length ≤ n + 1
  | [], _ => ⟨Nat.le_refl _, fun m hm => by
    rw [List.mem_singleton.mp hm]
    exact Nat.succ_le_succ (Nat.zero_le _)⟩
  | m :: r, h => by
    rw [togF]
    split
    · refine ⟨Nat.le_succ _, fun x hx => ?_⟩
      rcases List.mem_cons.mp hx with rfl | hx
      · exact Nat.le_trans (flip_len nm m.2) (Nat.succ_le_succ (h m (List.mem_cons_self ..)))
      · exact Nat.le_succ_of_le (h x (List.mem_cons_of_mem _ hx))
    · obtain ⟨h1, h2⟩ := tog_sz (w := w) (nm := nm) (l := r) fun x hx => h x (List.mem_cons_of_mem _ hx)
      refine ⟨Nat.succ_le_succ h1, fun x hx => ?_⟩
      rcases List.mem_cons.mp hx with rfl | hx
      · exact Nat.le_succ_of_le (h x (List.mem_cons_self ..))
      · exact h2 x hx
theorem step_sz {n : Nat} (L : Lt) (b : Bb) {i : It} (h : MkSz n i) : MkSz (n + 1) (stepI L b i) := by
  have h1 := h.mono (Nat.le_succ n)
  cases b with
  | mark a k w =>
    unfold stepI
    dsimp only
    split
    · exact h1
    · obtain ⟨x1, x2⟩ := tog_sz (w := w) (nm := L.a) h.2
      exact ⟨Nat.le_trans x1 (Nat.succ_le_succ h.1), x2⟩
  | edit a k t =>
    unfold stepI
    dsimp only
    split
    · exact h1
    · split
      · exact h1
      · exact h1
  | recall a k =>
    unfold stepI
    dsimp only
    split
    · exact h1
    · split
      · exact ⟨Nat.zero_le _, fun m hm => nomatch hm⟩
      · exact h1
  | say t => exact h1
  | reply a k t => exact h1
  | title t => exact h1
  | seen => exact h1
  | found t ds => exact h1
  | act k nm e => exact h1
theorem chg_mem {k : Str × Int} {f : It → It} {x : It} : ∀ {l : List It}, x ∈ chgF k f l → x ∈ l ∨ ∃ i ∈ l, x = f i
  | [], h => nomatch h
  | i :: r, h => by
    rw [chgF] at h
    split at h
    · rcases List.mem_cons.mp h with rfl | h
      · exact .inr ⟨i, List.mem_cons_self .., rfl⟩
      · exact .inl (List.mem_cons_of_mem _ h)
    · rcases List.mem_cons.mp h with rfl | h
      · exact .inl (List.mem_cons_self ..)
      · exact (chg_mem h).imp (List.mem_cons_of_mem _) fun ⟨j, hj, e⟩ => ⟨j, List.mem_cons_of_mem _ hj, e⟩
theorem chg_len {k : Str × Int} {f : It → It} : ∀ l : List It, (chgF k f l).length = l.length
  | [] => rfl
  | i :: r => by
    rw [chgF]
    split
    · rfl
    · rw [List.length_cons, chg_len r]
      rfl
theorem BoSz.chg {n : Nat} {B : Bo} (h : BoSz n B) (k : Str × Int) (L : Lt) (b : Bb) : BoSz (n + 1) { B with its := chgF k (stepI L b) B.its } :=
  ⟨by rw [chg_len]; exact Nat.le_succ_of_le h.1, fun i hi => (chg_mem hi).elim (fun z => (h.2.1 i z).mono (Nat.le_succ n)) fun ⟨j, hj, e⟩ => e ▸ step_sz L b (h.2.1 j hj), Nat.le_succ_of_le h.2.2⟩
theorem BoSz.put {n : Nat} {B : Bo} (h : BoSz n B) (L : Lt) (t : Str) (p : Option (Str × Int)) : BoSz (n + 1) { B with its := putI (newI L t p) B.its } := by
  have hn : MkSz (n + 1) (newI L t p) := ⟨Nat.zero_le _, fun m hm => nomatch hm⟩
  refine ⟨?_, fun i hi => ?_, Nat.le_succ_of_le h.2.2⟩
  · show (putI (newI L t p) B.its).length ≤ n + 1
    unfold putI
    split
    · rw [chg_len]
      exact Nat.le_succ_of_le h.1
    · rw [List.length_append, List.length_singleton]
      exact Nat.succ_le_succ h.1
  · have hi : i ∈ putI (newI L t p) B.its := hi
    unfold putI at hi
    split at hi
    · exact (chg_mem hi).elim (fun z => (h.2.1 i z).mono (Nat.le_succ n)) fun ⟨j, hj, e⟩ => e ▸ hn
    · rcases List.mem_append.mp hi with hi | hi
      · exact (h.2.1 i hi).mono (Nat.le_succ n)
      · rw [List.mem_singleton.mp hi]
        exact hn
theorem BoSz.show {n : Nat} {B : Bo} (h : BoSz n B) (L : Lt) (b : Bb) : BoSz (n + 1) (showB B L b) := by
  have h1 : BoSz (n + 1) B := ⟨Nat.le_succ_of_le h.1, fun i hi => (h.2.1 i hi).mono (Nat.le_succ n), Nat.le_succ_of_le h.2.2⟩
  cases b with
  | say t => exact h.put L t none
  | reply a k t => exact h.put L t _
  | edit a k t => exact h.chg (a, k) L _
  | recall a k => exact h.chg (a, k) L _
  | mark a k w => exact h.chg (a, k) L _
  | title t => exact h1
  | seen => exact h1
  | found t ds => exact h1
  | act k nm e =>
    refine ⟨h1.1, h1.2.1, ?_⟩
    show (B.nts ++ [ntD L k nm]).length ≤ n + 1
    rw [List.length_append, List.length_singleton]
    exact Nat.succ_le_succ h.2.2
theorem IoAt.off {CI p : Addr} {H : Hp} {o : Io} {u : HO} (h : IoAt CI H o) (e : H p = some u) (n : ∀ kvs, u ≠ .dK kvs) (nx : o.x ≠ p) : ∀ b ∈ fp o, b ≠ p := by
  intro b hb z
  subst z
  rcases List.mem_cons.mp hb with hb | hb
  · exact nx hb.symm
  · rcases List.mem_cons.mp hb with hb | hb
    · have := h.hd
      rw [← hb, e] at this
      exact n _ (Option.some.inj this)
    · obtain ⟨m, hm, hb⟩ := List.mem_map.mp hb
      have := h.hm m hm
      rw [hb, e] at this
      exact n _ (Option.some.inj this)
theorem fld_step {C CI dx : Addr} {H H' : Hp} {X : Bx} {B : Bo} {t : Str} {f : Option Str} (h : BoAt C CI H X B) (k : Kp X.b H H') (g : H' X.b = some (.ins C dx (boF t (strV f) X.di X.ln))) : BStep C CI H X { B with title := t, founder := f } H' := by
  obtain ⟨dx0, eb⟩ := h.hb
  obtain ⟨ts, e1, e2⟩ := h.hn
  have tk : Tk H H' := fun b xs e => k _ _ (ne_kind e eb fun z => by cases z) e
  have kp : KpP (· = X.b) H H' := fun b u n e => k b u n e
  refine ⟨X, rfl, ⟨⟨dx, g⟩, k _ _ (ne_kind h.hi eb fun z => by cases z) h.hi, fun o ho => (h.ho o ho).kpP kp ((h.ho o ho).off eb (fun _ z => by cases z) (h.nb o ho)) tk, h.dj, h.nb, h.kd, h.its, ⟨ts, k _ _ (ne_kind e1 eb fun z => by cases z) e1, dnall_tk tk h.pn e2⟩, h.pn⟩, fun a ha => .inl ha, kp.mono fun b hb => ?_⟩
  rw [show b = X.b from hb]
  exact List.mem_cons_self ..
theorem nts_step {C CI : Addr} {H H1 H' : Hp} {X : Bx} {B : Bo} {ts : List V} {v : V} {d : PyData} (h : BoAt C CI H X B) (s : Same H H1) (e0 : H1 X.ln = some (.lst ts)) (e2 : DnAll Any H1 ts B.nts) (k : Kp X.ln H1 H') (g : H' X.ln = some (.lst (ts ++ [v]))) (dv : Dn Any H1 v d) (pd : plainB d = true) : BStep C CI H X { B with nts := B.nts ++ [d] } H' := by
  have h1 := h.same s
  obtain ⟨dx0, eb⟩ := h1.hb
  have tk : Tk H1 H' := fun b xs e => k _ _ (ne_kind e e0 fun z => by cases z) e
  have kp : KpP (· = X.ln) H1 H' := fun b u n e => k b u n e
  have pa : plainAll (B.nts ++ [d]) = true := plainAll_of fun x hx => by
    rcases List.mem_append.mp hx with hx | hx
    · exact all_plain h.pn x hx
    · rw [List.mem_singleton.mp hx]
      exact pd
  refine BStep.pre s ⟨X, rfl, ⟨⟨dx0, k _ _ (ne_kind eb e0 fun z => by cases z) eb⟩, k _ _ (ne_kind h1.hi e0 fun z => by cases z) h1.hi, fun o ho => (h1.ho o ho).kpP kp ((h1.ho o ho).off e0 (fun _ z => by cases z) fun z => ?_) tk, h.dj, h.nb, h.kd, h.its, ⟨ts ++ [v], g, (dnall_tk tk h.pn e2).app (.cons (dn_tk tk pd dv) .nil)⟩, pa⟩, fun a ha => .inl ha, kp.mono fun b hb => ?_⟩
  · obtain ⟨dx1, t1, pv1, e3, _⟩ := (h1.ho o ho).hx
    rw [z, e0] at e3
    cases e3
  · rw [show b = X.ln from hb]
    exact List.mem_cons_of_mem _ (List.mem_cons_of_mem _ (List.mem_cons_self ..))
where all_plain : ∀ {ds : List PyData}, plainAll ds = true → ∀ d ∈ ds, plainB d = true
  | [], _, _, h => nomatch h
  | x :: xs, h, d, hd => by
    rw [plainAll, Bool.and_eq_true] at h
    rcases List.mem_cons.mp hd with rfl | hd
    · exact h.1
    · exact all_plain h.2 d hd
section
variable {K : PySem.W.Frag} {C CL CI : Addr} {vs : List V} {H : Hp} {Q : VK} {E : XK} {σ : L2.St} {D : Ends}
theorem w_varIn {i : Nat} {k : Str} {tr : TA} (ks : List Str) (hi : σ[i]? = some (some (.str k))) (htr : ∀ R : List V → Hp → Prop, R (ks.map V.str) H → tr σ H R) (hl : ks.length ≤ 1000) (q : ∀ H2, Same H H2 → Q (.bl (decide (k ∈ ks))) H2) : tOp (rIn K false) (tVar i) (tTup tr) σ H Q := by
  refine w_op (w_var hi (w_tupV (htr _ ⟨sz (by rw [List.length_map]; exact Nat.le_trans hl (by decide)), w_new fun t2 H2 _ s2 e2 => ?_⟩)))
  exact w_inTb (SqT.of e2) rfl (by rw [List.all_map]; exact List.all_eq_true.mpr fun _ _ => rfl) (inV_strs k ks) (q H2 s2)
theorem skip_eq {S R : TS} {k s : Str} (h2 : σ[2]? = some (some (.str k))) (n : k ≠ s) (q : R D σ H) : tIfS (tTest (tOp rEq (tVar 2) (tC (.str s)))) S R D σ H :=
  w_ifS (w_test (w_op (w_var h2 (w_c (w_eqS (w_exb (ite_f (fun z => n (of_decide_eq_true z)) q)))))))
theorem take_eq {S R : TS} {s : Str} (h2 : σ[2]? = some (some (.str s))) (q : S D σ H) : tIfS (tTest (tOp rEq (tVar 2) (tC (.str s)))) S R D σ H :=
  w_ifS (w_test (w_op (w_var h2 (w_c (w_eqS (w_exb (ite_t (decide_eq_true rfl) q)))))))
theorem skip_in {S R : TS} {k : Str} {tr : TA} (ks : List Str) (h2 : σ[2]? = some (some (.str k))) (htr : ∀ R : List V → Hp → Prop, R (ks.map V.str) H → tr σ H R) (hl : ks.length ≤ 1000) (n : k ∉ ks) (q : ∀ H2, Same H H2 → R D σ H2) : tIfS (tTest (tOp (rIn K false) (tVar 2) (tTup tr))) S R D σ H :=
  w_ifS (w_test (w_varIn ks h2 htr hl fun H2 s2 => w_exb (ite_f (fun z => n (of_decide_eq_true z)) (q H2 s2))))
theorem take_in {S R : TS} {k : Str} {tr : TA} (ks : List Str) (h2 : σ[2]? = some (some (.str k))) (htr : ∀ R : List V → Hp → Prop, R (ks.map V.str) H → tr σ H R) (hl : ks.length ≤ 1000) (n : k ∈ ks) (q : ∀ H2, Same H H2 → S D σ H2) : tIfS (tTest (tOp (rIn K false) (tVar 2) (tTup tr))) S R D σ H :=
  w_ifS (w_test (w_varIn ks h2 htr hl fun H2 s2 => w_exb (ite_t (decide_eq_true n) (q H2 s2))))
end

section
variable {K : PySem.W.Frag} {C CL CI : Addr} {vs : List V} {H : Hp} {Q : VK} {E : XK} {σ : L2.St} {D : Ends}
/-- Board_show: slots 0:self 1:letter 2:kind -/
def t_Board_show (K : PySem.W.Frag) (C_Letter : Addr) (C_Board : Addr) (C_Item : Addr) : TS := (tSeq (tAsg (tOp (rIxT K) (tFld K (tVar 1) "body") (tC (.int 0))) (gName 2))
  (tIfS (tTest (tOp rEq (tVar 2) (tC (.str "found")))) (tSeq (sFld K (tVar 0) (tOp (rIxT K) (tFld K (tVar 1) "body") (tC (.int 1))) "title")
  (sFld K (tVar 0) (tFld K (tVar 1) "author") "founder")) (tIfS (tTest (tOp rEq (tVar 2) (tC (.str "title")))) (sFld K (tVar 0) (tOp (rIxT K) (tFld K (tVar 1) "body") (tC (.int 1))) "title") (tIfS (tTest (tOp (rIn K false) (tVar 2) (tTup (tCons (tC (.str "say")) (tCons (tC (.str "reply")) tNil))))) (tDrop (tMeth C_Board "_put_item" (spBPut K C_Letter C_Item C_Board) [] C8.E0 (tVar 0) (tCons (tVar 1) tNil))) (tIfS (tTest (tOp (rIn K false) (tVar 2) (tTup (tCons (tC (.str "edit")) (tCons (tC (.str "recall")) (tCons (tC (.str "mark")) tNil)))))) (tDrop (tMeth C_Board "_change_item" (spBChange K C_Letter C_Item C_Board) [] C8.E0 (tVar 0) (tCons (tVar 1) tNil))) (tIfS (tB (tCall (spIsAct K) [] C8.E0 (tCons (tFld K (tVar 1) "body") tNil))) (tDrop (tBM K "list" rAppend (tFld K (tVar 0) "_notices") (tCons (tTup (tCons (tProp C_Letter (spRefP K C_Letter) [] C8.E0 (tVar 1)) (tCons (tVar 2) (tCons (tOp (rIxT K) (tFld K (tVar 1) "body") (tC (.int 1))) tNil)))) tNil))) tNext))))))
theorem l_Board_show (h : spBShow K CL CI C vs H Q E) : vs.length = 2 := by obtain ⟨X, B, x, L, b, rfl, _⟩ := h; rfl
theorem r_Board_show (LCL : IsC_Letter K CL) (LC : IsC_Board K C) (LCI : IsC_Item K CI) (h : spBShow K CL CI C vs H Q E) : t_Board_show K CL C CI { nx := fun _ H' => Q .non H', rt := Q } (start ["self", "letter", "kind"] vs) H := by
  obtain ⟨X, B, x, L, b, rfl, hB, hsz, hL, eb, q⟩ := h
  obtain ⟨dx, hb⟩ := hB.hb
  obtain ⟨dxl, dl, sv, bv, hx, _, _, _, hbv⟩ := id hL
  rw [eb] at hbv
  obtain ⟨ta, xs, rfl, hta, hxs⟩ := bb_at hbv
  unfold t_Board_show
  refine w_seq (w_asg (w_op (w_fldV rfl hx LCL.cl LCL.n_body lfs_body (w_c (w_ixT (SqT.of hta) (atI_nat (j := 0) rfl) (w_name ?_))))))
  have h2 : (List.set (start ["self", "letter", "kind"] [V.ref X.b, V.ref x]) 2 (some (V.str b.kind)))[2]? = some (some (.str b.kind)) := rfl
  have trSR : ∀ {G : Hp} {σ : L2.St} (R : List V → Hp → Prop), R ([Str.ofString "say", Str.ofString "reply"].map V.str) G → (tCons (tC (.str "say")) (tCons (tC (.str "reply")) tNil)) σ G R := fun R r => w_cons (w_c (w_cons (w_c (w_nil r))))
  have trERM : ∀ {G : Hp} {σ : L2.St} (R : List V → Hp → Prop), R ([Str.ofString "edit", Str.ofString "recall", Str.ofString "mark"].map V.str) G → (tCons (tC (.str "edit")) (tCons (tC (.str "recall")) (tCons (tC (.str "mark")) tNil))) σ G R := fun R r => w_cons (w_c (w_cons (w_c (w_cons (w_c (w_nil r))))))
  have put : (b.kind = Str.ofString "say" ∨ b.kind = Str.ofString "reply") → ∀ H2, Same H H2 → ∀ H', BStep C CI H2 X (showB B L b) H' → Q .non H' := fun _ H2 s2 H' st => q H' (st.pre s2)
  cases b with
  | found t ds =>
    cases hxs with
    | cons h1 h3 =>
      cases h1
      refine take_eq h2 (w_seq (w_sfld (w_op (w_fldV rfl hx LCL.cl LCL.n_body lfs_body (w_c (w_ixT (SqT.of hta) (atI_nat (j := 1) rfl) (w_var rfl (sfldV hb LC.cl LC.n_title (show 4 < 1000 by decide) fun G1 k1 g1 => ?_))))))))
      have hx1 := k1 _ _ (show x ≠ X.b from fun z => by
        rw [z, hb] at hx
        have := congrArg List.length (HO.ins.inj (Option.some.inj hx)).2.2
        exact absurd this (by unfold boF lfs; simp)) hx
      refine w_sfld (w_fldV rfl hx1 LCL.cl LCL.n_author lfs_author (w_var rfl (sfldV g1 LC.cl LC.n_founder (show 4 < 1000 by decide) fun G2 k2 g2 => ?_)))
      exact q G2 (fld_step (f := some L.a) hB (k1.trans k2) g2)
  | title t =>
    cases hxs with
    | cons h1 h3 =>
      cases h1
      refine skip_eq h2 (by dsimp only [Bb.kind]; decide +kernel) (take_eq h2 (w_sfld (w_op (w_fldV rfl hx LCL.cl LCL.n_body lfs_body (w_c (w_ixT (SqT.of hta) (atI_nat (j := 1) rfl) (w_var rfl (sfldV hb LC.cl LC.n_title (show 4 < 1000 by decide) fun G1 k1 g1 => ?_))))))))
      exact q G1 (fld_step (f := B.founder) hB k1 g1)
  | say t =>
    refine skip_eq h2 (by dsimp only [Bb.kind]; decide +kernel) (skip_eq h2 (by dsimp only [Bb.kind]; decide +kernel) (take_in _ h2 trSR (by decide) (by dsimp only [Bb.kind]; decide +kernel) fun H2 s2 => ?_))
    exact w_drop (w_methV rfl (s2 _ _ hb) rfl (w_cons (w_var rfl (w_nil ⟨X, B, x, L, .say t, rfl, hB.same s2, hsz, hL.same s2, eb, .inl rfl, put (.inl rfl) H2 s2⟩))))
  | reply a n t =>
    refine skip_eq h2 (by dsimp only [Bb.kind]; decide +kernel) (skip_eq h2 (by dsimp only [Bb.kind]; decide +kernel) (take_in _ h2 trSR (by decide) (by dsimp only [Bb.kind]; decide +kernel) fun H2 s2 => ?_))
    exact w_drop (w_methV rfl (s2 _ _ hb) rfl (w_cons (w_var rfl (w_nil ⟨X, B, x, L, .reply a n t, rfl, hB.same s2, hsz, hL.same s2, eb, .inr rfl, put (.inr rfl) H2 s2⟩))))
  | edit a n t =>
    refine skip_eq h2 (by dsimp only [Bb.kind]; decide +kernel) (skip_eq h2 (by dsimp only [Bb.kind]; decide +kernel) (skip_in _ h2 trSR (by decide) (by dsimp only [Bb.kind]; decide +kernel) fun H2 s2 => take_in _ h2 trERM (by decide) (by dsimp only [Bb.kind]; decide +kernel) fun H3 s3 => ?_))
    have s := s2.trans s3
    exact w_drop (w_methV rfl (s _ _ hb) rfl (w_cons (w_var rfl (w_nil ⟨X, B, x, L, .edit a n t, rfl, hB.same s, hsz, hL.same s, eb, .inl rfl, fun H' st => q H' (st.pre s)⟩))))
  | recall a n =>
    refine skip_eq h2 (by dsimp only [Bb.kind]; decide +kernel) (skip_eq h2 (by dsimp only [Bb.kind]; decide +kernel) (skip_in _ h2 trSR (by decide) (by dsimp only [Bb.kind]; decide +kernel) fun H2 s2 => take_in _ h2 trERM (by decide) (by dsimp only [Bb.kind]; decide +kernel) fun H3 s3 => ?_))
    have s := s2.trans s3
    exact w_drop (w_methV rfl (s _ _ hb) rfl (w_cons (w_var rfl (w_nil ⟨X, B, x, L, .recall a n, rfl, hB.same s, hsz, hL.same s, eb, .inr (.inl rfl), fun H' st => q H' (st.pre s)⟩))))
  | mark a n w =>
    refine skip_eq h2 (by dsimp only [Bb.kind]; decide +kernel) (skip_eq h2 (by dsimp only [Bb.kind]; decide +kernel) (skip_in _ h2 trSR (by decide) (by dsimp only [Bb.kind]; decide +kernel) fun H2 s2 => take_in _ h2 trERM (by decide) (by dsimp only [Bb.kind]; decide +kernel) fun H3 s3 => ?_))
    have s := s2.trans s3
    exact w_drop (w_methV rfl (s _ _ hb) rfl (w_cons (w_var rfl (w_nil ⟨X, B, x, L, .mark a n w, rfl, hB.same s, hsz, hL.same s, eb, .inr (.inr rfl), fun H' st => q H' (st.pre s)⟩))))
  | seen =>
    refine skip_eq h2 (by dsimp only [Bb.kind]; decide +kernel) (skip_eq h2 (by dsimp only [Bb.kind]; decide +kernel) (skip_in _ h2 trSR (by decide) (by dsimp only [Bb.kind]; decide +kernel) fun H2 s2 => skip_in _ h2 trERM (by decide) (by dsimp only [Bb.kind]; decide +kernel) fun H3 s3 => ?_))
    have s := s2.trans s3
    refine w_ifS (w_B (w_call (w_cons (w_fldV rfl (s _ _ hx) LCL.cl LCL.n_body lfs_body (w_nil ⟨_, .seen, rfl, hbv.same s, fun H4 s4 => w_exb (ite_f (fun z => by revert z; unfold actB; dsimp only [Bb.kind]; decide +kernel) (w_next ?_))⟩)))))
    exact q H4 (BStep.refl hB (s.trans s4))
  | act k nm hk =>
    have nk : ∀ s, s ∈ [Str.ofString "found", Str.ofString "title", Str.ofString "say", Str.ofString "reply", Str.ofString "edit", Str.ofString "recall", Str.ofString "mark"] → k ≠ s := by
      rcases hk with e | e | e <;> (rw [e]; decide +kernel)
    refine skip_eq h2 (nk _ (by simp)) (skip_eq h2 (nk _ (by simp)) (skip_in _ h2 trSR (by decide) (fun z => ?_) fun H2 s2 => skip_in _ h2 trERM (by decide) (fun z => ?_) fun H3 s3 => ?_))
    · have z : k ∈ [Str.ofString "say", Str.ofString "reply"] := z
      simp only [List.mem_cons, List.not_mem_nil, or_false] at z
      rcases z with z | z <;> exact nk _ (by simp) z
    · have z : k ∈ [Str.ofString "edit", Str.ofString "recall", Str.ofString "mark"] := z
      simp only [List.mem_cons, List.not_mem_nil, or_false] at z
      rcases z with z | z | z <;> exact nk _ (by simp) z
    have s := s2.trans s3
    have ha : actB (.act k nm hk) = true := by
      unfold actB
      dsimp only [Bb.kind]
      refine decide_eq_true ?_
      rcases hk with e | e | e <;> (rw [e]; simp)
    cases hxs with
    | cons h1 h3 =>
      cases h1
      obtain ⟨ts, e1, e2⟩ := hB.hn
      have hts : ts.length ≤ 1000 := by
        have := e2.len
        have := hsz.2.2
        omega
      refine w_ifS (w_B (w_call (w_cons (w_fldV rfl (s _ _ hx) LCL.cl LCL.n_body lfs_body (w_nil ⟨_, .act k nm hk, rfl, hbv.same s, fun H4 s4 => w_exb (ite_t ha ?_)⟩)))))
      have sA := s.trans s4
      refine w_drop (w_bm (w_fldV rfl (sA _ _ hb) LC.cl LC.n_notices rfl (w_tyL (sA _ _ e1) (w_cons (w_tupV (w_cons (w_propV rfl (sA _ _ hx) ⟨x, L, rfl, hL.same sA, fun t5 H5 _ s5 e5 => w_cons (w_var rfl (w_cons (w_op (w_fldV rfl (s5 _ _ (sA _ _ hx)) LCL.cl LCL.n_body lfs_body (w_c (w_ixT (SqT.of (s5 _ _ (sA _ _ hta))) (atI_nat (j := 1) rfl) (w_nil ⟨sz (by simp), w_new fun t6 H6 _ s6 e6 => w_nil (w_appV (s6 _ _ (s5 _ _ (sA _ _ e1))) (by omega) fun H7 k7 g7 => ?_)⟩)))))))⟩)))))))
      have sB := (sA.trans s5).trans s6
      refine q H7 (nts_step hB sB (sB _ _ e1) (e2.same sB) k7 g7 (.tup trivial e6 (.cons (.tup trivial (s6 _ _ e5) (.cons (.str _) (.cons (.int _) .nil))) (.cons (.str _) (.cons (.str _) .nil)))) rfl)
end

/-! ### the board of letters -/
noncomputable def bbOf (d : PyData) : Bb := open Classical in if h : ∃ B : Bb, d = B.toD then h.choose else .seen
theorem bbOf_toD {d : PyData} (h : BodyOk d) : d = (bbOf d).toD := by
  unfold bbOf
  rw [dif_pos h.bb]
  exact h.bb.choose_spec
def bo0 : Bo := ⟨Str.ofString "", none, [], []⟩
noncomputable def boardD (ls : List Lt) : Bo := ls.foldl (fun B L => showB B L (bbOf L.b)) bo0
theorem boardD_app (ls : List Lt) (L : Lt) : boardD (ls ++ [L]) = showB (boardD ls) L (bbOf L.b) := by
  unfold boardD
  rw [List.foldl_append]
  rfl
theorem fold_sz : ∀ (ls : List Lt) (n : Nat) (B : Bo), BoSz n B → BoSz (n + ls.length) (ls.foldl (fun B L => showB B L (bbOf L.b)) B)
  | [], _, _, h => h
  | L :: r, n, B, h => by
    have := fold_sz r (n + 1) _ (h.show L (bbOf L.b))
    rw [List.length_cons, List.foldl_cons]
    rw [show n + (r.length + 1) = n + 1 + r.length by omega]
    exact this
theorem BoSz.mono {n m : Nat} {B : Bo} (h : BoSz n B) (l : n ≤ m) : BoSz m B := ⟨Nat.le_trans h.1 l, fun i hi => (h.2.1 i hi).mono l, Nat.le_trans h.2.2 l⟩
theorem board_sz (ls : List Lt) : BoSz ls.length (boardD ls) := by
  have := fold_sz ls 0 bo0 ⟨Nat.le_refl _, (fun i hi => nomatch hi), Nat.le_refl _⟩
  rw [Nat.zero_add] at this
  exact this
theorem none_made2 {H : Hp} {x dx d : Addr} {o o' : HO} (f : (upd (upd H dx o) x o') d = none) : H d = none := by
  by_cases e : d = x
  · subst e
    rw [upd_same] at f
    cases f
  · rw [upd_ne e] at f
    by_cases e2 : d = dx
    · subst e2
      rw [upd_same] at f
      cases f
    · rw [upd_ne e2] at f
      exact f
def spBoardOf (K : PySem.W.Frag) (CL CI C : Addr) : Sp := fun vs H Q _ => ∃ (l : Addr) (ls : List (Addr × Lt)), vs = [.ref l] ∧ H l = some (.lst (lsV ls)) ∧ LsOk Any CL H ls ∧ (∀ y ∈ ls, BodyOk y.2.b) ∧ ls.length ≤ 100 ∧
  ∀ H' X, (∀ a ∈ bp X, H a = none) → Same H H' → BoAt C CI H' X (boardD (ls.map (·.2))) → Q (.ref X.b) H'
section
variable {K : PySem.W.Frag} {C CL CI : Addr} {vs : List V} {H : Hp} {Q : VK} {E : XK} {σ : L2.St} {D : Ends}
/-- board_of: slots 0:letters 1:board 2:letter -/
def t_board_of (K : PySem.W.Frag) (C_Board : Addr) (C_Item : Addr) (C_Letter : Addr) : TS := (tSeq (tAsg (tMake C_Board (spBInit K C_Board) [] C8.E0 tNil) (gName 1))
  (tSeq (tFor (iList K (tVar 0)) (gName 2) (tDrop (tMeth C_Board "show" (spBShow K C_Letter C_Item C_Board) [] C8.E0 (tVar 1) (tCons (tVar 2) tNil))))
  (tRet (tVar 1))))
theorem l_board_of (h : spBoardOf K CL CI C vs H Q E) : vs.length = 1 := by obtain ⟨l, ls, rfl, _⟩ := h; rfl
theorem r_board_of (LC : IsC_Board K C) (LCI : IsC_Item K CI) (LCL : IsC_Letter K CL) (h : spBoardOf K CL CI C vs H Q E) : t_board_of K C CI CL { nx := fun _ H' => Q .non H', rt := Q } (start ["letters", "board", "letter"] vs) H := by
  obtain ⟨l, ls, rfl, hl, hok, hbo, hll, q⟩ := h
  unfold t_board_of
  refine w_seq (w_asg (w_make (w_nil fun x dx nx ndx ne => ⟨x, dx, rfl, upd_same, fun H1 di ln fdi fln k1 hB0 => ⟨rfl, w_name ?_⟩⟩)))
  have s1 : Same H H1 := same_made2 nx ndx k1
  with_reducible refine w_seq ?_
  refine w_for (w_iList (w_var rfl ⟨l, rfl, ⟨_, SqL.of (s1 _ _ hl)⟩, ?_⟩))
  refine for_it (walk_list (xs := lsV ls)) (fun k σ G => (∃ u2, σ = [some (.ref l), some (.ref x), u2]) ∧ Same H G ∧ ∃ X : Bx, X.b = x ∧ (∀ a ∈ bp X, H a = none) ∧ BoAt C CI G X (boardD ((ls.map (·.2)).take k))) ⟨⟨_, rfl⟩, s1, ⟨x, di, ln, []⟩, rfl, fun a ha => ?_, hB0 CI⟩ (fun k σ G _ e => SqL.of (e.2.1 _ _ hl)) ?_ ?_
  · rcases List.mem_cons.mp ha with rfl | ha
    · exact nx
    · rcases List.mem_cons.mp ha with rfl | ha
      · exact none_made2 fdi
      · rw [List.mem_singleton.mp ha]
        exact none_made2 fln
  · rintro k v σ G G' hk ⟨⟨u2, rfl⟩, s, X, rfl, fr, hB⟩ ⟨rfl, hx⟩
    rw [List.getElem?_map] at hx
    obtain ⟨y, hy, rfl⟩ := Option.map_eq_some_iff.mp hx
    have hm := List.mem_of_getElem? hy
    obtain ⟨dxb, hb⟩ := hB.hb
    have hsz : BoSz 1000 (boardD ((ls.map (·.2)).take k)) := (board_sz _).mono (by rw [List.length_take, List.length_map]; omega)
    refine w_name (w_drop (w_methV rfl hb rfl (w_cons (w_var rfl (w_nil ⟨X, _, y.1, y.2, bbOf y.2.b, rfl, hB, hsz, (hok y hm).1.same s, bbOf_toD (hbo y hm), fun H' st => ?_⟩)))))
    obtain ⟨X', ex, hB', hp, kp⟩ := st
    refine ⟨⟨_, rfl⟩, fun c u e => kp c u (fun z => ?_) (s c u e), X', ex, fun a ha => (hp a ha).elim (fr a) fun z => same_none s z, ?_⟩
    · rw [fr c z] at e
      cases e
    · have et : (ls.map (·.2)).take (k + 1) = (ls.map (·.2)).take k ++ [y.2] := by
        rw [List.take_add_one, List.getElem?_map, hy]
        rfl
      rw [et, boardD_app]
      exact hB'
  · rintro σ G ⟨⟨u2, rfl⟩, s, X, rfl, fr, hB⟩
    rw [show (lsV ls).length = (ls.map (·.2)).length by rw [List.length_map, List.length_map], List.take_length] at hB
    exact w_ret (w_var rfl (q G X fr s hB))
end

/-! ### the law's own items -/
structure Mo where
  l : Addr
  d : Addr
  ms : List (Addr × Str × List Str)
  it : It
def fpm (o : Mo) : List Addr := o.l :: o.d :: o.ms.map (·.1)
abbrev moL (i : It) (pv : V) (d : Addr) : List V := [.str i.text, pv, .int i.ed, .bl i.rc, .ref d]
structure MoAt (H : Hp) (o : Mo) : Prop where
  hl : ∃ pv, H o.l = some (.lst (moL o.it pv o.d)) ∧ ParAt H pv o.it.par
  hd : H o.d = some (.dK (mV o.ms))
  hm : ∀ m ∈ o.ms, H m.1 = some (.lst (m.2.2.map V.str))
  wd : o.it.wd = o.ms.map (·.2)
  nl : ∀ m ∈ o.ms, m.1 ≠ o.l
  nw : (o.ms.map (·.2.1)).Nodup
theorem MoAt.mem {H : Hp} {o : Mo} (h : MoAt H o) {b : Addr} (hb : b ∈ fpm o) : ∃ u, H b = some u ∧ ∀ xs, u ≠ .tup xs := by
  rcases List.mem_cons.mp hb with rfl | hb
  · obtain ⟨pv, e, _⟩ := h.hl
    exact ⟨_, e, fun xs z => by cases z⟩
  · rcases List.mem_cons.mp hb with rfl | hb
    · exact ⟨_, h.hd, fun xs z => by cases z⟩
    · obtain ⟨m, hm, rfl⟩ := List.mem_map.mp hb
      exact ⟨_, h.hm m hm, fun xs z => by cases z⟩
theorem MoAt.kpP {H H' : Hp} {o : Mo} {S : Addr → Prop} (h : MoAt H o) (k : KpP S H H') (n : ∀ b ∈ fpm o, ¬ S b) (t : Tk H H') : MoAt H' o := by
  obtain ⟨⟨pv, e, hp⟩, hd, hm, wd, nl, nw⟩ := h
  exact ⟨⟨pv, k _ _ (n _ (List.mem_cons_self ..)) e, hp.tk t⟩, k _ _ (n _ (List.mem_cons_of_mem _ (List.mem_cons_self ..))) hd, fun m hmm => k _ _ (n _ (List.mem_cons_of_mem _ (List.mem_cons_of_mem _ (List.mem_map_of_mem hmm)))) (hm m hmm), wd, nl, nw⟩
theorem MoAt.same {H H' : Hp} {o : Mo} (h : MoAt H o) (s : Same H H') : MoAt H' o := h.kpP (S := fun _ => False) (fun b o _ e => s b o e) (fun _ _ z => z) (Tk.same s)
def MoStep (H : Hp) (o : Mo) (it : It) (H' : Hp) : Prop := ∃ o', o'.l = o.l ∧ o'.it = it ∧ MoAt H' o' ∧ (∀ b ∈ fpm o', b ∈ fpm o ∨ H b = none) ∧ KpP (· ∈ fpm o) H H'
theorem MoStep.pre {H H1 H' : Hp} {o : Mo} {it : It} (s : Same H H1) (h : MoStep H1 o it H') : MoStep H o it H' := by
  obtain ⟨o', e, e2, h1, hf, k⟩ := h
  exact ⟨o', e, e2, h1, fun b hb => (hf b hb).imp id fun z => same_none s z, (KpP.same s).trans k⟩
theorem moStep_refl {H H' : Hp} {o : Mo} (h : MoAt H o) (s : Same H H') : MoStep H o o.it H' := ⟨o, rfl, rfl, h.same s, fun _ hb => .inl hb, KpP.same s⟩
/-- fields of the item change -/
theorem moStep_obj {H H' : Hp} {o : Mo} {tx : Str} {e : Int} {rc : Bool} {pv : V} (h : MoAt H o) (hp : ParAt H pv o.it.par) (k : Kp o.l H H') (g : H' o.l = some (.lst (moL { o.it with text := tx, ed := e, rc := rc } pv o.d))) : MoStep H o { o.it with text := tx, ed := e, rc := rc } H' := by
  obtain ⟨⟨pv0, hl, _⟩, hd, hm, wd, nl, nw⟩ := h
  have tk : Tk H H' := fun b xs e => k _ _ (ne_kind e hl fun z => by cases z) e
  exact ⟨{ o with it := { o.it with text := tx, ed := e, rc := rc } }, rfl, rfl, ⟨⟨pv, g, hp.tk tk⟩, k _ _ (ne_kind hd hl fun z => by cases z) hd, fun m hmm => k _ _ (nl m hmm) (hm m hmm), wd, nl, nw⟩, fun b hb => .inl hb, KpP.kp k (List.mem_cons_self ..)⟩
theorem moStep_new {H H' : Hp} {o : Mo} {d : Addr} {tx : Str} {e : Int} {rc : Bool} {pv : V} (h : MoAt H o) (hp : ParAt H pv o.it.par) (f : H d = none) (k : Kp o.l H H') (g : H' o.l = some (.lst (moL { o.it with text := tx, ed := e, rc := rc } pv d))) (gd : H' d = some (.dK [])) : MoStep H o { o.it with text := tx, ed := e, rc := rc, wd := [] } H' := by
  obtain ⟨⟨pv0, hl, _⟩, hd, hm, wd, nl, nw⟩ := h
  have tk : Tk H H' := fun b xs e => k _ _ (ne_kind e hl fun z => by cases z) e
  refine ⟨⟨o.l, d, [], { o.it with text := tx, ed := e, rc := rc, wd := [] }⟩, rfl, rfl, ⟨⟨pv, g, hp.tk tk⟩, gd, (fun m hmm => nomatch hmm), rfl, (fun m hmm => nomatch hmm), List.nodup_nil⟩, fun b hb => ?_, KpP.kp k (List.mem_cons_self ..)⟩
  rcases List.mem_cons.mp hb with rfl | hb
  · exact .inl (List.mem_cons_self ..)
  · rw [List.mem_singleton.mp hb]
    exact .inr f
theorem putKK {k : L2.Key} {v w : V} {l r : List (L2.Key × V)} (hl : ∀ p ∈ l, p.1 ≠ k) (hr : ∀ p ∈ r, p.1 ≠ k) : putK (l ++ (k, v) :: r) k w = l ++ (k, w) :: r := by
  unfold putK
  rw [if_pos (by rw [List.any_append, List.any_cons, decide_eq_true rfl, Bool.true_or, Bool.or_true]), List.map_append, List.map_cons, if_pos rfl]
  have id' : ∀ {m : List (L2.Key × V)}, (∀ p ∈ m, p.1 ≠ k) → m.map (fun kv => if kv.1 = k then (kv.1, w) else kv) = m := fun {m} h => by
    refine (List.map_congr_left fun p hp => ?_).trans (List.map_id _)
    rw [if_neg (h p hp)]
    rfl
  rw [id' hl, id' hr]
/-- a word's names change -/
theorem moStep_in {H H2 H' : Hp} {o : Mo} {l r : List (Addr × Str × List Str)} {m : Addr × Str × List Str} {ns : List Str} {p : Addr} (h : MoAt H o) (e : o.ms = l ++ m :: r) (s : Same H H2) (f : H p = none) (ep : H2 p = some (.lst (ns.map V.str))) (k : Kp o.d H2 H') (g : H' o.d = some (.dK (putK (mV o.ms) (Sum.inr m.2.1) (.ref p)))) :
    MoStep H o { o.it with wd := l.map (·.2) ++ (m.2.1, ns) :: r.map (·.2) } H' := by
  obtain ⟨⟨pv, hl, hp⟩, hd, hm, wd, nl, nw⟩ := id h
  have kk : ∀ b u, b ≠ o.d → H b = some u → H' b = some u := fun b u n e => k _ _ n (s _ _ e)
  have tk : Tk H H' := fun b xs e => kk _ _ (ne_kind e hd fun z => by cases z) e
  have nw2 := nw
  rw [e, List.map_append, List.map_cons, List.nodup_append, List.nodup_cons] at nw2
  have npd : p ≠ o.d := fun z => by rw [z, hd] at f; cases f
  refine ⟨⟨o.l, o.d, l ++ (p, m.2.1, ns) :: r, { o.it with wd := l.map (·.2) ++ (m.2.1, ns) :: r.map (·.2) }⟩, rfl, rfl, ⟨⟨pv, kk _ _ (ne_kind hl hd fun z => by cases z) hl, hp.tk tk⟩, ?_, ?_, ?_, ?_, ?_⟩, ?_, ?_⟩
  · rw [g, e]
    unfold mV
    rw [List.map_append, List.map_append, List.map_cons, List.map_cons]
    rw [putKK (fun z hz => ?_) (fun z hz => ?_)]
    · obtain ⟨q, hq, rfl⟩ := List.mem_map.mp hz
      exact fun y => nw2.2.2 _ (List.mem_map_of_mem (f := fun m : Addr × Str × List Str => m.2.1) hq) _ (List.mem_cons_self ..) (Sum.inr.inj y)
    · obtain ⟨q, hq, rfl⟩ := List.mem_map.mp hz
      exact fun y => nw2.2.1.1 (by rw [← Sum.inr.inj y]; exact List.mem_map_of_mem (f := fun m : Addr × Str × List Str => m.2.1) hq)
  · intro q hq
    have old : ∀ q ∈ o.ms, H' q.1 = some (.lst (q.2.2.map V.str)) := fun q hq => kk _ _ (ne_kind (hm q hq) hd fun z => by cases z) (hm q hq)
    rcases List.mem_append.mp hq with hq | hq
    · exact old q (by rw [e]; exact List.mem_append_left _ hq)
    · rcases List.mem_cons.mp hq with rfl | hq
      · exact k _ _ npd ep
      · exact old q (by rw [e]; exact List.mem_append_right _ (List.mem_cons_of_mem _ hq))
  · rw [List.map_append]
    rfl
  · intro q hq
    rcases List.mem_append.mp hq with hq | hq
    · exact nl q (by rw [e]; exact List.mem_append_left _ hq)
    · rcases List.mem_cons.mp hq with rfl | hq
      · exact (ne_of_none hl f).symm
      · exact nl q (by rw [e]; exact List.mem_append_right _ (List.mem_cons_of_mem _ hq))
  · show ((l ++ (p, m.2.1, ns) :: r).map (·.2.1)).Nodup
    rw [List.map_append, List.map_cons]
    rw [e, List.map_append, List.map_cons] at nw
    exact nw
  · intro b hb
    rcases List.mem_cons.mp hb with rfl | hb
    · exact .inl (List.mem_cons_self ..)
    · rcases List.mem_cons.mp hb with rfl | hb
      · exact .inl (List.mem_cons_of_mem _ (List.mem_cons_self ..))
      · obtain ⟨q, hq, rfl⟩ := List.mem_map.mp hb
        rcases List.mem_append.mp hq with hq | hq
        · exact .inl (List.mem_cons_of_mem _ (List.mem_cons_of_mem _ (List.mem_map_of_mem (by rw [e]; exact List.mem_append_left _ hq))))
        · rcases List.mem_cons.mp hq with rfl | hq
          · exact .inr f
          · exact .inl (List.mem_cons_of_mem _ (List.mem_cons_of_mem _ (List.mem_map_of_mem (by rw [e]; exact List.mem_append_right _ (List.mem_cons_of_mem _ hq)))))
  · exact fun b u n e => kk b u (fun z => n (z ▸ List.mem_cons_of_mem _ (List.mem_cons_self ..))) e
theorem moStep_app {H H2 H' : Hp} {o : Mo} {w nm : Str} {p : Addr} (h : MoAt H o) (hno : ∀ m ∈ o.ms, m.2.1 ≠ w) (s : Same H H2) (f : H p = none) (ep : H2 p = some (.lst [V.str nm])) (k : Kp o.d H2 H') (g : H' o.d = some (.dK (mV o.ms ++ [(Sum.inr w, .ref p)]))) :
    MoStep H o { o.it with wd := o.it.wd ++ [(w, [nm])] } H' := by
  obtain ⟨⟨pv, hl, hp⟩, hd, hm, wd, nl, nw⟩ := id h
  have kk : ∀ b u, b ≠ o.d → H b = some u → H' b = some u := fun b u n e => k _ _ n (s _ _ e)
  have tk : Tk H H' := fun b xs e => kk _ _ (ne_kind e hd fun z => by cases z) e
  have npd : p ≠ o.d := fun z => by rw [z, hd] at f; cases f
  refine ⟨⟨o.l, o.d, o.ms ++ [(p, w, [nm])], { o.it with wd := o.it.wd ++ [(w, [nm])] }⟩, rfl, rfl, ⟨⟨pv, kk _ _ (ne_kind hl hd fun z => by cases z) hl, hp.tk tk⟩, ?_, ?_, ?_, ?_, ?_⟩, ?_, ?_⟩
  · rw [g]
    unfold mV
    rw [List.map_append]
    rfl
  · intro q hq
    rcases List.mem_append.mp hq with hq | hq
    · exact kk _ _ (ne_kind (hm q hq) hd fun z => by cases z) (hm q hq)
    · rw [List.mem_singleton.mp hq]
      exact k _ _ npd ep
  · show o.it.wd ++ [(w, [nm])] = (o.ms ++ [(p, w, [nm])]).map (·.2)
    rw [List.map_append, ← wd]
    rfl
  · intro q hq
    rcases List.mem_append.mp hq with hq | hq
    · exact nl q hq
    · rw [List.mem_singleton.mp hq]
      exact (ne_of_none hl f).symm
  · show ((o.ms ++ [(p, w, [nm])]).map (·.2.1)).Nodup
    rw [List.map_append, List.nodup_append]
    refine ⟨nw, List.nodup_cons.mpr ⟨(fun z => nomatch z), List.nodup_nil⟩, fun a ha b hb => ?_⟩
    obtain ⟨q, hq, rfl⟩ := List.mem_map.mp ha
    rw [List.mem_singleton.mp hb]
    exact hno q hq
  · intro b hb
    rcases List.mem_cons.mp hb with rfl | hb
    · exact .inl (List.mem_cons_self ..)
    · rcases List.mem_cons.mp hb with rfl | hb
      · exact .inl (List.mem_cons_of_mem _ (List.mem_cons_self ..))
      · obtain ⟨q, hq, rfl⟩ := List.mem_map.mp hb
        rcases List.mem_append.mp hq with hq | hq
        · exact .inl (List.mem_cons_of_mem _ (List.mem_cons_of_mem _ (List.mem_map_of_mem hq)))
        · rw [List.mem_singleton.mp hq]
          exact .inr f
  · exact fun b u n e => kk b u (fun z => n (z ▸ List.mem_cons_of_mem _ (List.mem_cons_self ..))) e

/-! ### the law changes an item -/
def spLChange (K : PySem.W.Frag) (CL : Addr) : Sp := fun vs H Q _ => ∃ (o : Mo) (x : Addr) (L : Lt) (b : Bb), vs = [.ref o.l, .ref x] ∧ MoAt H o ∧ MkSz 1000 o.it ∧ LtAt Any CL H x L ∧ L.b = b.toD ∧ b.tgt = some (keyI o.it) ∧ (b.kind = Str.ofString "edit" ∨ b.kind = Str.ofString "recall" ∨ b.kind = Str.ofString "mark") ∧ ∀ H', MoStep H o (stepI L b o.it) H' → Q .non H'
section
variable {K : PySem.W.Frag} {C CL CI : Addr} {vs : List V} {H : Hp} {Q : VK} {E : XK} {σ : L2.St} {D : Ends} {tt : TT}
theorem lcSs {ws : List Nat} {Qd : Addr → Hp → Prop} {a : Addr} {ys : List Str} {i : Nat} (p : Str → Bool) (hS : H a = some (.lst (ys.map V.str))) (hl : ys.length ≤ 1000) (hw : ∀ x, wipe ((wipe σ ws).set i (some x)) ws = wipe σ ws) (hi : ∀ x, ((wipe σ ws).set i (some x))[i]? = some (some x))
    (ht : ∀ y ∈ ys, ∀ H1, Same H H1 → ∀ R : Bool → Hp → Prop, (∀ H2, Same H1 H2 → R (p y) H2) → tt ((wipe σ ws).set i (some (.str y))) H1 R)
    (q : ∀ D H1, H D = none → Same H H1 → H1 D = some (.lst ((ys.filter p).map V.str)) → Qd D H1) :
    ∀ D, H D = none → ∃ W : Nat → Nat → Hp → Prop, (∃ m, W 0 m (upd H D (.lst []))) ∧ ∀ i' m H, W i' m H →
  ((Itl K a).stop i' H ∧ Qd D H) ∨ ((Itl K a).go i' H ∧ ∃ Nx : Hp → Prop, (∀ H', Nx H' → ∃ m', m' < m ∧ W (i' + 1) m' H') ∧ ∀ x H', (Itl K a).yld i' H x H' → gName i x (wipe σ ws) H' fun σ2 H2 => wipe σ2 ws = wipe σ ws ∧ tt σ2 H2 fun b H3 =>
    if b = true then tVar i σ2 H3 fun y H4 => ∃ acc, H4 D = some (.lst acc) ∧ acc.length < sizeLine ∧ Nx (upd H4 D (.lst (acc ++ [y]))) else Nx H3) := by
  intro D hD
  refine lc_it (walk_list (xs := ys.map V.str)) (fun k G => Same H G ∧ G D = some (.lst (((ys.take k).filter p).map V.str))) ⟨Same.upd (Same.refl H) hD, upd_same⟩ (fun k G _ s => SqL.of (s.1 _ _ hS)) ?_ ?_
  · rintro k x G G' hk ⟨s, e⟩ ⟨rfl, hx⟩
    rw [List.getElem?_map] at hx
    obtain ⟨y, hy, rfl⟩ := Option.map_eq_some_iff.mp hx
    refine w_name ⟨hw _, ht y (List.mem_of_getElem? hy) _ s _ fun H2 s2 => ?_⟩
    have et : ys.take (k + 1) = ys.take k ++ [y] := by rw [List.take_add_one, hy]; rfl
    cases hp : p y with
    | true =>
      refine ite_t rfl (w_var (hi _) ⟨_, s2 _ _ e, ?_, ?_, ?_⟩)
      · rw [List.length_map]
        have h1 := List.length_filter_le p (ys.take k)
        have h2 : (ys.take k).length ≤ ys.length := by rw [List.length_take]; omega
        exact Nat.lt_of_le_of_lt (show _ ≤ 1000 by omega) (by decide)
      · exact fun b o e2 => by
          rw [upd_ne (ne_of_none e2 hD)]
          exact s2 _ _ (s _ _ e2)
      · rw [upd_same, et, List.filter_append, List.filter_cons_of_pos hp, List.filter_nil, List.map_append]
        rfl
    | false =>
      refine ite_f (by decide) ⟨s.trans s2, ?_⟩
      rw [et, List.filter_append, List.filter_cons_of_neg (by simp [hp]), List.filter_nil, List.append_nil]
      exact s2 _ _ e
  · rintro G ⟨s, e⟩
    rw [List.length_map, List.take_length] at e
    exact q D G hD s e
/-- _law_change: slots 0:item 1:letter 2:kind 3:names 4:name -/
def t__law_change (K : PySem.W.Frag) (C_Letter : Addr) : TS := (tSeq (tAsg (tOp (rIxT K) (tFld K (tVar 1) "body") (tC (.int 0))) (gName 2))
  (tSeq (tIfS (tB (tOp (rIxL K) (tVar 0) (tC (.int 3)))) tRetN tNext)
  (tIfS (tTest (tOp rEq (tVar 2) (tC (.str "mark")))) (tSeq (tAsg (tDGet2 (tOp (rIxL K) (tVar 0) (tC (.int 4))) (tOp (rIxT K) (tFld K (tVar 1) "body") (tC (.int 2))) (tLst tNil)) (gName 3))
  (tIfS (tTest (tOp (rIn K false) (tFld K (tVar 1) "author") (tVar 3))) (sDPut (tOp (rIxL K) (tVar 0) (tC (.int 4))) (tOp (rIxT K) (tFld K (tVar 1) "body") (tC (.int 2))) (tLc (iList K (tVar 3)) (gName 4) (tTest (tOp rNe (tVar 4) (tFld K (tVar 1) "author"))) (tVar 4) [4])) (sDPut (tOp (rIxL K) (tVar 0) (tC (.int 4))) (tOp (rIxT K) (tFld K (tVar 1) "body") (tC (.int 2))) (tOp rCat (tVar 3) (tLst (tCons (tFld K (tVar 1) "author") tNil)))))) (tIfS (tTest (tOp rEq (tFld K (tVar 1) "author") (tOp (rIxT K) (tOp (rIxT K) (tFld K (tVar 1) "body") (tC (.int 1))) (tC (.int 0))))) (tIfS (tTest (tOp rEq (tVar 2) (tC (.str "edit")))) (tSeq (tAsg (tOp (rIxT K) (tFld K (tVar 1) "body") (tC (.int 2))) (gSub (tVar 0) (tC (.int 0)) rSetL))
  (tAsg (tOp qAdd (tOp (rIxL K) (tVar 0) (tC (.int 2))) (tC (.int 1))) (gSub (tVar 0) (tC (.int 2)) rSetL))) (tSeq (tAsg (tC (.str "")) (gSub (tVar 0) (tC (.int 0)) rSetL))
  (tSeq (tAsg (tC (.bl true)) (gSub (tVar 0) (tC (.int 3)) rSetL))
  (tAsg tDNewK (gSub (tVar 0) (tC (.int 4)) rSetL))))) tNext))))
theorem l__law_change (h : spLChange K CL vs H Q E) : vs.length = 2 := by obtain ⟨o, x, L, b, rfl, _⟩ := h; rfl
theorem r__law_change (LCL : IsC_Letter K CL) (h : spLChange K CL vs H Q E) : t__law_change K CL { nx := fun _ H' => Q .non H', rt := Q } (start ["item", "letter", "kind", "names", "name"] vs) H := by
  obtain ⟨o, x, L, b, rfl, ho, hms, hL, eb, etg, hk, q⟩ := h
  obtain ⟨pv, hl, hpar⟩ := ho.hl
  obtain ⟨dxl, dl, sv, bv, hx, _, _, _, hbv⟩ := id hL
  rw [eb] at hbv
  obtain ⟨ta, xs, rfl, hta, hxs⟩ := bb_at hbv
  have same : stepI L b o.it = o.it → Q .non H := fun z => q H (by rw [z]; exact moStep_refl ho (Same.refl H))
  unfold t__law_change
  refine w_seq (w_asg (w_op (w_fldV rfl hx LCL.cl LCL.n_body lfs_body (w_c (w_ixT (SqT.of hta) (atI_nat (j := 0) rfl) (w_name ?_))))))
  with_reducible refine w_seq ?_
  refine w_ifS (w_B (w_op (w_var rfl (w_c (w_ixL (SqL.of hl) (atI_nat (j := 3) rfl) (w_exb ?_))))))
  cases hrc : o.it.rc with
  | true => exact ite_t rfl (w_retN (same (stepI_rc L b o.it hrc)))
  | false =>
    refine ite_f (by decide) (w_next ?_)
    cases b with
    | mark a n w =>
      cases hxs with
      | cons h1 h2 =>
        cases h2 with
        | cons h2 h3 =>
          cases h2
          cases h3
          have em : stepI L (.mark a n w) o.it = markI w L.a o.it := by unfold stepI; dsimp only; rw [if_neg (by rw [hrc]; decide)]
          rw [em] at q
          have hml : o.ms.length ≤ 1000 := by
            have := hms.1
            rw [ho.wd, List.length_map] at this
            exact this
          refine w_ifS (w_test (w_op (w_var rfl (w_c (w_eqS (w_exb (ite_t (decide_eq_true rfl) ?_)))))))
          refine w_seq (w_asg (w_dget2 (w_op (w_var rfl (w_c (w_ixL (SqL.of hl) (atI_nat (j := 4) rfl) ⟨o.d, rfl, .inl ⟨_, .inl ho.hd⟩, w_op (w_fldV rfl hx LCL.cl LCL.n_body lfs_body (w_c (w_ixT (SqT.of hta) (atI_nat (j := 2) rfl) (w_lstV (w_nil ⟨sz (by simp), w_new fun p0 H1 f0 s1 e1 => ⟨_, DGet.k (k := Sum.inr w) (s1 _ _ ho.hd), w_name ?_⟩⟩)))))⟩))))))
          rcases split_first (fun m : Addr × Str × List Str => decide (m.2.1 = w)) o.ms with hno | ⟨l, m, r, e, hw, hlw⟩
          · have hno : ∀ m ∈ o.ms, m.2.1 ≠ w := fun m hm => of_decide_eq_false (hno m hm)
            have ev : valV (mV o.ms) (Sum.inr w) = none := valV_off fun z hz => by
              obtain ⟨m, hm, rfl⟩ := List.mem_map.mp hz
              exact fun y => hno m hm (Sum.inr.inj y)
            rw [ev]
            have ew : markI w L.a o.it = { o.it with wd := o.it.wd ++ [(w, [L.a])] } := by
              unfold markI
              rw [togF_none fun x hx => ?_]
              rw [ho.wd] at hx
              obtain ⟨q, hq, rfl⟩ := List.mem_map.mp hx
              exact hno q hq
            rw [ew] at q
            refine w_ifS (w_test (w_op (w_fldV rfl (s1 _ _ hx) LCL.cl LCL.n_author lfs_author (w_var (v := .ref p0) rfl (w_inLb (b := false) (SqL.of e1) rfl rfl rfl (w_exb (ite_f (by decide) ?_)))))))
            refine w_dput (w_op (w_var (v := .ref p0) rfl (w_lstV (w_cons (w_fldV rfl (s1 _ _ hx) LCL.cl LCL.n_author lfs_author (w_nil ⟨sz (by simp), w_new fun p1 H2 f1 s2 e2 => w_catV (s2 _ _ e1) e2 (by simp) fun p2 H3 f2 s3 e3 => ?_⟩))))))
            have sA := (s1.trans s2).trans s3
            refine w_op (w_var rfl (w_c (w_ixL (SqL.of (sA _ _ hl)) (atI_nat (j := 4) rfl) (w_op (w_fldV rfl (sA _ _ hx) LCL.cl LCL.n_body lfs_body (w_c (w_ixT (SqT.of (sA _ _ hta)) (atI_nat (j := 2) rfl) (dputK (k := Sum.inr w) (sA _ _ ho.hd) ?_ fun H4 k4 g4 => ?_))))))))
            · rw [List.length_map]
              omega
            · refine q H4 (moStep_app ho hno sA (same_none (s1.trans s2) f2) e3 k4 ?_)
              rw [g4, putK_new _ ev]
          · have hw := of_decide_eq_true hw
            have hlw : ∀ m ∈ l, m.2.1 ≠ w := fun m hm => of_decide_eq_false (hlw m hm)
            have ev : valV (mV o.ms) (Sum.inr w) = some (.ref m.1) := by
              rw [e]
              unfold mV
              rw [List.map_append, List.map_cons, hw]
              exact valV_hit fun z hz => by
                obtain ⟨q, hq, rfl⟩ := List.mem_map.mp hz
                exact fun y => hlw q hq (Sum.inr.inj y)
            rw [ev]
            have hmem : m ∈ o.ms := by rw [e]; exact List.mem_append_right _ (List.mem_cons_self ..)
            have emm := ho.hm m hmem
            have hnl : m.2.2.length ≤ 1000 := hms.2 m.2 (by rw [ho.wd]; exact List.mem_map_of_mem hmem)
            have ew : markI w L.a o.it = { o.it with wd := l.map (·.2) ++ (m.2.1, flipS L.a m.2.2) :: r.map (·.2) } := by
              unfold markI
              rw [ho.wd, e, List.map_append, List.map_cons]
              rw [togF_hit (m := m.2) hw fun x hx => by
                obtain ⟨q, hq, rfl⟩ := List.mem_map.mp hx
                exact hlw q hq]
            rw [ew] at q
            refine w_ifS (w_test (w_op (w_fldV rfl (s1 _ _ hx) LCL.cl LCL.n_author lfs_author (w_var (v := .ref m.1) rfl (w_inLb (SqL.of (s1 _ _ emm)) rfl (by rw [List.all_map]; exact List.all_eq_true.mpr fun _ _ => rfl) (inV_strs L.a m.2.2) (w_exb (w_ite (fun c => ?_) (fun c => ?_))))))))
            · refine w_dput (w_lc (w_iList (w_var (v := .ref m.1) rfl ⟨m.1, rfl, ⟨_, SqL.of (s1 _ _ emm)⟩, lcSs (fun y => decide (y ≠ L.a)) (s1 _ _ emm) hnl (fun _ => rfl) (fun _ => rfl) (fun y _ G s R rr => ?_) fun D3 G D0 s eD => ?_⟩)))
              · exact w_test (w_op (w_var rfl (w_fldV rfl (s _ _ (s1 _ _ hx)) LCL.cl LCL.n_author lfs_author (w_neS (w_exb (rr G (Same.refl G)))))))
              · have sA := s1.trans s
                refine w_op (w_var rfl (w_c (w_ixL (SqL.of (sA _ _ hl)) (atI_nat (j := 4) rfl) (w_op (w_fldV rfl (sA _ _ hx) LCL.cl LCL.n_body lfs_body (w_c (w_ixT (SqT.of (sA _ _ hta)) (atI_nat (j := 2) rfl) (dputK (k := Sum.inr w) (sA _ _ ho.hd) ?_ fun H4 k4 g4 => ?_))))))))
                · rw [List.length_map]
                  omega
                · refine q H4 (moStep_in ho e sA (same_none s1 D0) ?_ k4 ?_)
                  · rw [eD, flipS, if_pos c]
                  · rw [g4, hw]
            · refine w_dput (w_op (w_var (v := .ref m.1) rfl (w_lstV (w_cons (w_fldV rfl (s1 _ _ hx) LCL.cl LCL.n_author lfs_author (w_nil ⟨sz (by simp), w_new fun p1 H2 f1 s2 e2 => w_catV (s2 _ _ (s1 _ _ emm)) e2 (by rw [List.length_map, List.length_singleton]; omega) fun p2 H3 f2 s3 e3 => ?_⟩))))))
              have sA := (s1.trans s2).trans s3
              refine w_op (w_var rfl (w_c (w_ixL (SqL.of (sA _ _ hl)) (atI_nat (j := 4) rfl) (w_op (w_fldV rfl (sA _ _ hx) LCL.cl LCL.n_body lfs_body (w_c (w_ixT (SqT.of (sA _ _ hta)) (atI_nat (j := 2) rfl) (dputK (k := Sum.inr w) (sA _ _ ho.hd) ?_ fun H4 k4 g4 => ?_))))))))
              · rw [List.length_map]
                omega
              · refine q H4 (moStep_in ho e sA (same_none (s1.trans s2) f2) ?_ k4 ?_)
                · rw [e3, flipS, if_neg c, List.map_append]
                  rfl
                · rw [g4, hw]
    | edit a n t =>
      cases hxs with
      | cons h1 h2 =>
        obtain ⟨t1, rfl, e1⟩ := dn_ref h1
        have eka : a = o.it.a := congrArg Prod.fst (Option.some.inj etg)
        refine w_ifS (w_test (w_op (w_var rfl (w_c (w_eqS (w_exb (ite_f (fun z => absurd (of_decide_eq_true z) (by dsimp only [Bb.kind]; decide +kernel)) ?_)))))))
        refine w_ifS (w_test (w_op (w_fldV rfl hx LCL.cl LCL.n_author lfs_author (w_op (w_op (w_fldV rfl hx LCL.cl LCL.n_body lfs_body (w_c (w_ixT (SqT.of hta) (atI_nat (j := 1) rfl) (w_c (w_ixT (SqT.of e1) (atI_nat (j := 0) rfl) (w_eqS (w_exb (w_ite (fun c => ?_) (fun c => w_next (same ?_)))))))))))))) )
        · cases h2 with
          | cons h2 h3 =>
            cases h2
            cases h3
            have em : stepI L (.edit a n t) o.it = editI t o.it := by unfold stepI; dsimp only; rw [if_neg (by rw [hrc]; decide), if_pos (eka ▸ c.symm)]
            rw [em] at q
            refine w_ifS (w_test (w_op (w_var rfl (w_c (w_eqS (w_exb (ite_t (decide_eq_true rfl) ?_)))))))
            refine w_seq (w_asg (w_op (w_fldV rfl hx LCL.cl LCL.n_body lfs_body (w_c (w_ixT (SqT.of hta) (atI_nat (j := 2) rfl) (w_sub (w_var rfl (w_c (w_setL hl rfl ?_)))))))))
            refine w_asg (w_op (w_op (w_var rfl (w_c (w_ixL (SqL.of upd_same) (atI_nat (j := 2) rfl) (w_c (w_I0 (w_sub (w_var rfl (w_c (w_setL upd_same rfl ?_)))))))))))
            exact q _ (moStep_obj ho hpar Kp.refl.updp.updp upd_same)
        · unfold stepI
          dsimp only
          rw [if_neg (by rw [hrc]; decide), if_neg (fun z => c (eka ▸ z.symm))]
    | recall a n =>
      cases hxs with
      | cons h1 h2 =>
        obtain ⟨t1, rfl, e1⟩ := dn_ref h1
        have eka : a = o.it.a := congrArg Prod.fst (Option.some.inj etg)
        refine w_ifS (w_test (w_op (w_var rfl (w_c (w_eqS (w_exb (ite_f (fun z => absurd (of_decide_eq_true z) (by dsimp only [Bb.kind]; decide +kernel)) ?_)))))))
        refine w_ifS (w_test (w_op (w_fldV rfl hx LCL.cl LCL.n_author lfs_author (w_op (w_op (w_fldV rfl hx LCL.cl LCL.n_body lfs_body (w_c (w_ixT (SqT.of hta) (atI_nat (j := 1) rfl) (w_c (w_ixT (SqT.of e1) (atI_nat (j := 0) rfl) (w_eqS (w_exb (w_ite (fun c => ?_) (fun c => w_next (same ?_)))))))))))))) )
        · have em : stepI L (.recall a n) o.it = recallI o.it := by unfold stepI; dsimp only; rw [if_neg (by rw [hrc]; decide), if_pos (eka ▸ c.symm)]
          rw [em] at q
          refine w_ifS (w_test (w_op (w_var rfl (w_c (w_eqS (w_exb (ite_f (fun z => absurd (of_decide_eq_true z) (by dsimp only [Bb.kind]; decide +kernel)) ?_)))))))
          refine w_seq (w_asg (w_c (w_sub (w_var rfl (w_c (w_setL hl rfl ?_))))))
          refine w_seq (w_asg (w_c (w_sub (w_var rfl (w_c (w_setL upd_same rfl ?_))))))
          refine w_asg (w_dnewK fun d H3 f3 s3 e3 => w_sub (w_var rfl (w_c (w_setL (s3 _ _ upd_same) rfl ?_))))
          have nd : d ≠ o.l := (ne_of_none upd_same f3).symm
          exact q _ (moStep_new ho hpar (Kp.free (Kp.refl.updp.updp) nd f3) (((Kp.refl.updp.updp).trans (Same.kp s3)).updp) upd_same (by rw [upd_ne nd]; exact e3))
        · unfold stepI
          dsimp only
          rw [if_neg (by rw [hrc]; decide), if_neg (fun z => c (eka ▸ z.symm))]
    | reply a n t => exfalso; revert hk; dsimp only [Bb.kind]; decide +kernel
    | say t => exfalso; revert hk; dsimp only [Bb.kind]; decide +kernel
    | title t => exfalso; revert hk; dsimp only [Bb.kind]; decide +kernel
    | seen => exfalso; revert hk; dsimp only [Bb.kind]; decide +kernel
    | found t ds => exfalso; revert hk; dsimp only [Bb.kind]; decide +kernel
    | act k nm h => exact nomatch etg
end

/-! ### the marks that the law tells -/
def MkLay (i : It) : Prop := ∀ m ∈ i.wd, ∀ n ∈ m.2, Lay 0 (.str n)
def spLMarks (K : PySem.W.Frag) : Sp := fun vs H Q _ => ∃ (o : Mo), vs = [.ref o.l] ∧ MoAt H o ∧ MkSz 63 o.it ∧ MkLay o.it ∧ ∀ p ts H', H p = none → Same H H' → H' p = some (.lst ts) → DnAll Any H' ts (marksD o.it.wd) → Q (.ref p) H'
theorem eqv_nil (ns : List Str) : PyData.eqv (.list (ns.map .str)) (.list []) = ns.isEmpty := by
  cases ns with
  | nil =>
    rw [List.map_nil, PyData.eqv, PyData.eqvAll]
    rfl
  | cons x r =>
    rw [List.map_cons, PyData.eqv, PyData.eqvAll]
    rfl
theorem lay_up {k : Nat} {d : PyData} (h : Lay 0 d) : Lay k d := ⟨h.1, Nat.le_trans h.2 (Nat.zero_le _)⟩
section
variable {K : PySem.W.Frag} {C CL CI : Addr} {vs : List V} {H : Hp} {Q : VK} {E : XK} {σ : L2.St} {D : Ends}
theorem w_sortedL {a : Addr} {ks : List Str} (e : H a = some (.lst (ks.map V.str))) (hl : ks.length ≤ 63) (q : ∀ p H2, H p = none → Same H H2 → H2 p = some (.lst ((sortF ks).map V.str)) → Q (.ref p) H2) : rSortedS K [.ref a] H Q :=
  ⟨a, ks, rfl, SqL.of e, by omega, fun ys p hp hs hn => by
    rw [sort_uniq hp hs]
    exact q p _ hn (Same.upd (Same.refl H) hn) upd_same⟩
end

/-! ### the law's model of a board -/
structure Md where
  m : Addr
  di : Addr
  ln : Addr
  xs : List Mo
def mp (X : Md) : List Addr := X.m :: X.di :: X.ln :: X.xs.flatMap fpm
abbrev jV (xs : List Mo) : List (List L2.Key × V) := xs.map fun o => (iK (keyI o.it), V.ref o.l)
abbrev mdV (t : Str) (f : Option Str) (di ln : Addr) : List (L2.Key × V) := [(Sum.inr (Str.ofString "title"), .str t), (Sum.inr (Str.ofString "founder"), strV f), (Sum.inr (Str.ofString "items"), .ref di), (Sum.inr (Str.ofString "notices"), .ref ln)]
structure MdAt (H : Hp) (X : Md) (B : Bo) : Prop where
  hm : H X.m = some (.dK (mdV B.title B.founder X.di X.ln))
  hi : H X.di = some (.dT (jV X.xs))
  ho : ∀ o ∈ X.xs, MoAt H o
  dj : X.xs.Pairwise fun o p => ∀ b ∈ fpm o, b ∉ fpm p
  nm : ∀ o ∈ X.xs, X.m ∉ fpm o
  nl : ∀ o ∈ X.xs, X.ln ∉ fpm o
  kd : (X.xs.map fun o => keyI o.it).Nodup
  its : B.its = X.xs.map (·.it)
  hn : ∃ ts, H X.ln = some (.lst ts) ∧ DnAll Any H ts B.nts
  pn : plainAll B.nts = true
theorem mp_io {X : Md} {o : Mo} (h : o ∈ X.xs) {b : Addr} (hb : b ∈ fpm o) : b ∈ mp X := List.mem_cons_of_mem _ (List.mem_cons_of_mem _ (List.mem_cons_of_mem _ (List.mem_flatMap.mpr ⟨o, h, hb⟩)))
theorem MdAt.kpP {H H' : Hp} {X : Md} {B : Bo} {S : Addr → Prop} (h : MdAt H X B) (k : KpP S H H') (n : ∀ b ∈ mp X, ¬ S b) (t : Tk H H') : MdAt H' X B := by
  obtain ⟨ts, e1, e2⟩ := h.hn
  have n1 := n X.m (List.mem_cons_self ..)
  have n2 := n X.di (List.mem_cons_of_mem _ (List.mem_cons_self ..))
  have n3 := n X.ln (List.mem_cons_of_mem _ (List.mem_cons_of_mem _ (List.mem_cons_self ..)))
  exact { h with hm := k _ _ n1 h.hm, hi := k _ _ n2 h.hi, ho := fun o ho => (h.ho o ho).kpP k (fun b hb => n b (mp_io ho hb)) t, hn := ⟨ts, k _ _ n3 e1, dnall_tk t h.pn e2⟩ }
theorem MdAt.same {H H' : Hp} {X : Md} {B : Bo} (h : MdAt H X B) (s : Same H H') : MdAt H' X B := h.kpP (S := fun _ => False) (fun b o _ e => s b o e) (fun _ _ z => z) (Tk.same s)
theorem find_mo (xs : List Mo) (k : Str × Int) : (valV (jV xs) (iK k) = none ∧ hasI (xs.map (·.it)) k = false ∧ ∀ o ∈ xs, keyI o.it ≠ k) ∨ ∃ l o r, xs = l ++ o :: r ∧ keyI o.it = k ∧ (∀ p ∈ l, keyI p.it ≠ k) ∧ valV (jV xs) (iK k) = some (.ref o.l) ∧ hasI (xs.map (·.it)) k = true := by
  rcases split_first (fun o : Mo => decide (keyI o.it = k)) xs with hno | ⟨l, o, r, e, hw, hl⟩
  · have hno : ∀ o ∈ xs, keyI o.it ≠ k := fun o ho => of_decide_eq_false (hno o ho)
    refine .inl ⟨valT_off fun z hz => ?_, ?_, hno⟩
    · obtain ⟨o, ho, rfl⟩ := List.mem_map.mp hz
      exact fun y => hno o ho (iK_inj y)
    · unfold hasI
      rw [List.any_map, List.any_eq_false]
      intro o ho z
      exact hno o ho (of_decide_eq_true z)
  · have hw := of_decide_eq_true hw
    have hl : ∀ p ∈ l, keyI p.it ≠ k := fun p hp => of_decide_eq_false (hl p hp)
    refine .inr ⟨l, o, r, e, hw, hl, ?_, ?_⟩
    · rw [e]
      unfold jV
      rw [List.map_append, List.map_cons, hw]
      exact valT_hit fun z hz => by
        obtain ⟨q, hq, rfl⟩ := List.mem_map.mp hz
        exact fun y => hl q hq (iK_inj y)
    · unfold hasI
      rw [List.any_map, List.any_eq_true]
      exact ⟨o, by rw [e]; exact List.mem_append_right _ (List.mem_cons_self ..), decide_eq_true hw⟩
def MStep (H : Hp) (X : Md) (B : Bo) (H' : Hp) : Prop := ∃ X', X'.m = X.m ∧ X'.di = X.di ∧ MdAt H' X' B ∧ (∀ a ∈ mp X', a ∈ mp X ∨ H a = none) ∧ KpP (· ∈ mp X) H H'
theorem MStep.refl {H H' : Hp} {X : Md} {B : Bo} (h : MdAt H X B) (s : Same H H') : MStep H X B H' := ⟨X, rfl, rfl, h.same s, fun _ ha => .inl ha, KpP.same s⟩
theorem MStep.pre {H H1 H' : Hp} {X : Md} {B : Bo} (s : Same H H1) (h : MStep H1 X B H') : MStep H X B H' := by
  obtain ⟨X', e, e2, hb, hp, k⟩ := h
  exact ⟨X', e, e2, hb, fun a ha => (hp a ha).imp id fun z => same_none s z, (KpP.same s).trans k⟩
theorem mtk_step {o : Mo} {it : It} {H H' : Hp} (h : MoAt H o) (s : MoStep H o it H') : Tk H H' := by
  obtain ⟨o', _, _, _, _, kp⟩ := s
  intro b xs e
  refine kp _ _ (fun hb => ?_) e
  obtain ⟨u, e2, n⟩ := h.mem hb
  rw [e] at e2
  exact n xs (Option.some.inj e2).symm
/-- all the list's items but some, and one more: what a new list of items needs -/
theorem MdAt.setIt {H H' : Hp} {X : Md} {B : Bo} {l r : List Mo} {o : Mo} {it : It} (h : MdAt H X B) (e : X.xs = l ++ o :: r) (k : keyI it = keyI o.it) (s : MoStep H o it H') :
    MStep H X { B with its := l.map (·.it) ++ it :: r.map (·.it) } H' := by
  have hmem : o ∈ X.xs := by rw [e]; exact List.mem_append_right _ (List.mem_cons_self ..)
  have tk := mtk_step (h.ho o hmem) s
  obtain ⟨o', hx, rfl, ho', hfp, kp⟩ := s
  have hob := h.ho o hmem
  obtain ⟨ts, e1, e2⟩ := h.hn
  have dj := h.dj
  rw [e, List.pairwise_append, List.pairwise_cons] at dj
  have other : ∀ p ∈ l ++ r, ∀ b ∈ fpm p, b ∉ fpm o := by
    intro p hp b hb hbo
    rcases List.mem_append.mp hp with hp | hp
    · exact dj.2.2 p hp o (List.mem_cons_self ..) b hb hbo
    · exact dj.2.1.1 p hp b hbo hb
  have inxs : ∀ p ∈ l ++ r, p ∈ X.xs := fun p hp => by
    rw [e]
    rcases List.mem_append.mp hp with hp | hp
    · exact List.mem_append_left _ hp
    · exact List.mem_append_right _ (List.mem_cons_of_mem _ hp)
  have live : ∀ p ∈ X.xs, ∀ b ∈ fpm p, H b ≠ none := fun p hp b hb z => by
    obtain ⟨u, e, _⟩ := (h.ho p hp).mem hb
    rw [e] at z
    cases z
  have ndi : X.di ∉ fpm o := by
    intro hb
    rcases List.mem_cons.mp hb with hb | hb
    · obtain ⟨pv, e', _⟩ := hob.hl
      rw [← hb, h.hi] at e'
      cases e'
    · rcases List.mem_cons.mp hb with hb | hb
      · have := hob.hd
        rw [← hb, h.hi] at this
        cases this
      · obtain ⟨m, hm, hb⟩ := List.mem_map.mp hb
        have := hob.hm m hm
        rw [hb, h.hi] at this
        cases this
  have sub : ∀ p ∈ l ++ r, ∀ b ∈ fpm p, b ∉ fpm o' := fun p hp b hb hbo => (hfp b hbo).elim (other p hp b hb) (live p (inxs p hp) b hb)
  have keep : ∀ p ∈ l ++ r, MoAt H' p := fun p hp => (h.ho p (inxs p hp)).kpP kp (other p hp) tk
  have newoff : ∀ {b : Addr} {u : HO}, H b = some u → b ∉ fpm o → b ∉ fpm o' := fun eb nb hb => (hfp _ hb).elim nb fun z => by
    rw [eb] at z
    cases z
  refine ⟨{ X with xs := l ++ o' :: r }, rfl, rfl, ⟨kp _ _ (h.nm o hmem) h.hm, ?_, ?_, ?_, ?_, ?_, ?_, ?_, ⟨ts, kp _ _ (h.nl o hmem) e1, dnall_tk tk h.pn e2⟩, h.pn⟩, ?_, ?_⟩
  · refine (kp _ _ ndi h.hi).trans ?_
    rw [e]
    unfold jV
    rw [List.map_append, List.map_append, List.map_cons, List.map_cons, k, hx]
  · intro p hp
    rcases List.mem_append.mp hp with hp | hp
    · exact keep p (List.mem_append_left _ hp)
    · rcases List.mem_cons.mp hp with rfl | hp
      · exact ho'
      · exact keep p (List.mem_append_right _ hp)
  · rw [List.pairwise_append, List.pairwise_cons]
    refine ⟨dj.1, ⟨fun p hp b hb hbp => sub p (List.mem_append_right _ hp) b hbp hb, dj.2.1.2⟩, fun p hp q hq b hb => ?_⟩
    rcases List.mem_cons.mp hq with rfl | hq
    · exact sub p (List.mem_append_left _ hp) b hb
    · exact dj.2.2 p hp q (List.mem_cons_of_mem _ hq) b hb
  · intro p hp
    rcases List.mem_append.mp hp with hp | hp
    · exact h.nm p (inxs p (List.mem_append_left _ hp))
    · rcases List.mem_cons.mp hp with rfl | hp
      · exact newoff h.hm (h.nm o hmem)
      · exact h.nm p (inxs p (List.mem_append_right _ hp))
  · intro p hp
    rcases List.mem_append.mp hp with hp | hp
    · exact h.nl p (inxs p (List.mem_append_left _ hp))
    · rcases List.mem_cons.mp hp with rfl | hp
      · exact newoff e1 (h.nl o hmem)
      · exact h.nl p (inxs p (List.mem_append_right _ hp))
  · have kd := h.kd
    rw [e, List.map_append, List.map_cons] at kd
    rw [List.map_append, List.map_cons, k]
    exact kd
  · rw [List.map_append, List.map_cons]
  · intro a ha
    rcases List.mem_cons.mp ha with rfl | ha
    · exact .inl (List.mem_cons_self ..)
    · rcases List.mem_cons.mp ha with rfl | ha
      · exact .inl (List.mem_cons_of_mem _ (List.mem_cons_self ..))
      · rcases List.mem_cons.mp ha with rfl | ha
        · exact .inl (List.mem_cons_of_mem _ (List.mem_cons_of_mem _ (List.mem_cons_self ..)))
        · obtain ⟨p, hp, hb⟩ := List.mem_flatMap.mp ha
          rcases List.mem_append.mp hp with hp | hp
          · exact .inl (mp_io (inxs p (List.mem_append_left _ hp)) hb)
          · rcases List.mem_cons.mp hp with rfl | hp
            · exact (hfp a hb).imp (fun z => mp_io hmem z) id
            · exact .inl (mp_io (inxs p (List.mem_append_right _ hp)) hb)
  · exact kp.mono fun b hb => mp_io hmem hb
theorem mchg_step {X : Md} {B : Bo} {H H' : Hp} {l r : List Mo} {o : Mo} {k : Str × Int} {f : It → It} (h : MdAt H X B) (e : X.xs = l ++ o :: r) (ek : keyI o.it = k) (hl : ∀ p ∈ l, keyI p.it ≠ k) (kf : keyI (f o.it) = keyI o.it) (s : MoStep H o (f o.it) H') :
    MStep H X { B with its := chgF k f B.its } H' := by
  have hb := h.setIt e kf s
  rw [h.its, e, List.map_append, List.map_cons, chgF_hit ek fun x hx => by
    obtain ⟨p, hp, rfl⟩ := List.mem_map.mp hx
    exact hl p hp]
  exact hb

/-! ### the law's model takes items, notices, a title -/
theorem MoAt.off {p : Addr} {H : Hp} {o : Mo} {u : HO} (h : MoAt H o) (e : H p = some u) (n1 : ∀ kvs, u ≠ .dK kvs) (n2 : ∀ xs, u ≠ .lst xs) : p ∉ fpm o := by
  intro hb
  rcases List.mem_cons.mp hb with hb | hb
  · obtain ⟨pv, e', _⟩ := h.hl
    rw [← hb, e] at e'
    exact n2 _ (Option.some.inj e')
  · rcases List.mem_cons.mp hb with hb | hb
    · have := h.hd
      rw [← hb, e] at this
      exact n1 _ (Option.some.inj this)
    · obtain ⟨m, hm, hb⟩ := List.mem_map.mp hb
      have := h.hm m hm
      rw [hb, e] at this
      exact n2 _ (Option.some.inj this)
theorem mput_step {H H5 H6 : Hp} {X : Md} {B : Bo} {lo d : Addr} {it : It} (h : MdAt H X B) (s5 : Same H H5) (nx : H lo = none) (nd : H d = none) (ho : MoAt H5 ⟨lo, d, [], it⟩) (k6 : Kp X.di H5 H6) (g6 : H6 X.di = some (.dT (putK (jV X.xs) (iK (keyI it)) (.ref lo)))) :
    MStep H X { B with its := putI it B.its } H6 := by
  obtain ⟨ts, e1, e2⟩ := h.hn
  have kp : KpP (· = X.di) H H6 := fun b u n e => k6 b u n (s5 _ _ e)
  have kp5 : KpP (· = X.di) H5 H6 := fun b u n e => k6 b u n e
  have tk : Tk H H6 := fun b xs e => kp b _ (ne_kind e h.hi fun z => by cases z) e
  have live : ∀ {p : Mo}, p ∈ X.xs → ∀ b ∈ fpm p, H b ≠ none := fun hp b hb z => by
    obtain ⟨u, e, _⟩ := (h.ho _ hp).mem hb
    rw [e] at z
    cases z
  have keep : ∀ p ∈ X.xs, MoAt H6 p := fun p hp => (h.ho p hp).kpP kp (fun b hb z => (h.ho p hp).off h.hi (fun _ z => by cases z) (fun _ z => by cases z) ((show b = X.di from z) ▸ hb)) tk
  have fpo : ∀ b ∈ fpm (⟨lo, d, [], it⟩ : Mo), H b = none := fun b hb => by
    rcases List.mem_cons.mp hb with rfl | hb
    · exact nx
    · rw [List.mem_singleton.mp hb]
      exact nd
  have keepo : MoAt H6 ⟨lo, d, [], it⟩ := ho.kpP kp5 (fun b hb z => by
    have := fpo b hb
    rw [show b = X.di from z, h.hi] at this
    cases this) fun b xs e => k6 _ _ (ne_kind e (s5 _ _ h.hi) fun z => by cases z) e
  have sep : ∀ p ∈ X.xs, ∀ b ∈ fpm p, b ∉ fpm (⟨lo, d, [], it⟩ : Mo) := fun p hp b hb z => live hp b hb (fpo b z)
  have offo : ∀ {b : Addr} {u : HO}, H b = some u → b ∉ fpm (⟨lo, d, [], it⟩ : Mo) := fun eb hb => by
    rw [fpo _ hb] at eb
    cases eb
  have hm6 : H6 X.m = some (.dK (mdV B.title B.founder X.di X.ln)) := kp _ _ (ne_kind h.hm h.hi fun z => by cases z) h.hm
  have hn6 : ∃ ts, H6 X.ln = some (.lst ts) ∧ DnAll Any H6 ts B.nts := ⟨ts, kp _ _ (ne_kind e1 h.hi fun z => by cases z) e1, dnall_tk tk h.pn e2⟩
  have fin : ∀ xs' : List Mo, (∀ p ∈ xs', p ∈ X.xs ∨ p = ⟨lo, d, [], it⟩) → H6 X.di = some (.dT (jV xs')) → (xs'.Pairwise fun o p => ∀ b ∈ fpm o, b ∉ fpm p) → (xs'.map fun o => keyI o.it).Nodup → putI it B.its = xs'.map (·.it) → MStep H X { B with its := putI it B.its } H6 := by
    intro xs' hin hi dj kd eits
    refine ⟨{ X with xs := xs' }, rfl, rfl, ⟨hm6, hi, fun p hp => ?_, dj, fun p hp => ?_, fun p hp => ?_, kd, eits, hn6, h.pn⟩, fun a ha => ?_, kp.mono fun b hb => ?_⟩
    · rcases hin p hp with hp | rfl
      · exact keep p hp
      · exact keepo
    · rcases hin p hp with hp | rfl
      · exact h.nm p hp
      · exact offo h.hm
    · rcases hin p hp with hp | rfl
      · exact h.nl p hp
      · exact offo e1
    · rcases List.mem_cons.mp ha with rfl | ha
      · exact .inl (List.mem_cons_self ..)
      · rcases List.mem_cons.mp ha with rfl | ha
        · exact .inl (List.mem_cons_of_mem _ (List.mem_cons_self ..))
        · rcases List.mem_cons.mp ha with rfl | ha
          · exact .inl (List.mem_cons_of_mem _ (List.mem_cons_of_mem _ (List.mem_cons_self ..)))
          · obtain ⟨p, hp, hb⟩ := List.mem_flatMap.mp ha
            rcases hin p hp with hp | rfl
            · exact .inl (mp_io hp hb)
            · exact .inr (fpo a hb)
    · rw [show b = X.di from hb]
      exact List.mem_cons_of_mem _ (List.mem_cons_self ..)
  rcases find_mo X.xs (keyI it) with ⟨hv, hh, hno⟩ | ⟨l, o, r, e, hk, hl, hv, hh⟩
  · refine fin (X.xs ++ [⟨lo, d, [], it⟩]) (fun p hp => ?_) ?_ ?_ ?_ ?_
    · exact (List.mem_append.mp hp).imp id List.mem_singleton.mp
    · rw [g6, putK_new _ hv]
      unfold jV
      rw [List.map_append]
      rfl
    · rw [List.pairwise_append]
      refine ⟨h.dj, List.pairwise_singleton _ _, fun p hp q hq => ?_⟩
      rw [List.mem_singleton.mp hq]
      exact sep p hp
    · rw [List.map_append, List.nodup_append]
      refine ⟨h.kd, List.nodup_cons.mpr ⟨(fun z => nomatch z), List.nodup_nil⟩, fun a ha b hb => ?_⟩
      obtain ⟨p, hp, rfl⟩ := List.mem_map.mp ha
      rw [List.mem_singleton.mp hb]
      exact hno p hp
    · unfold putI
      rw [h.its, hh, if_neg (by decide), List.map_append]
      rfl
  · have kd := h.kd
    rw [e, List.map_append, List.map_cons, List.nodup_append, List.nodup_cons] at kd
    have hr : ∀ p ∈ r, keyI p.it ≠ keyI it := fun p hp z => kd.2.1.1 (by rw [hk, ← z]; exact List.mem_map_of_mem (f := fun o => keyI o.it) hp)
    have dj := h.dj
    rw [e, List.pairwise_append, List.pairwise_cons] at dj
    have inl : ∀ p ∈ l, p ∈ X.xs := fun p hp => by rw [e]; exact List.mem_append_left _ hp
    have inr : ∀ p ∈ r, p ∈ X.xs := fun p hp => by rw [e]; exact List.mem_append_right _ (List.mem_cons_of_mem _ hp)
    refine fin (l ++ ⟨lo, d, [], it⟩ :: r) (fun p hp => ?_) ?_ ?_ ?_ ?_
    · rcases List.mem_append.mp hp with hp | hp
      · exact .inl (inl p hp)
      · rcases List.mem_cons.mp hp with hp | hp
        · exact .inr hp
        · exact .inl (inr p hp)
    · rw [g6, e]
      unfold jV
      rw [List.map_append, List.map_append, List.map_cons, List.map_cons, hk]
      rw [putK_hit (fun z hz => ?_) (fun z hz => ?_)]
      · obtain ⟨p, hp, rfl⟩ := List.mem_map.mp hz
        exact fun y => hl p hp (iK_inj y)
      · obtain ⟨p, hp, rfl⟩ := List.mem_map.mp hz
        exact fun y => hr p hp (iK_inj y)
    · rw [List.pairwise_append, List.pairwise_cons]
      refine ⟨dj.1, ⟨fun p hp b hb hbp => sep p (inr p hp) b hbp hb, dj.2.1.2⟩, fun p hp q hq => ?_⟩
      rcases List.mem_cons.mp hq with rfl | hq
      · exact sep p (inl p hp)
      · exact dj.2.2 p hp q (List.mem_cons_of_mem _ hq)
    · rw [List.map_append, List.map_cons, List.nodup_append, List.nodup_cons]
      rw [hk] at kd
      exact kd
    · unfold putI
      rw [h.its, hh, if_pos rfl, e, List.map_append, List.map_cons, chgF_hit hk fun x hx => ?_, List.map_append, List.map_cons]
      obtain ⟨p, hp, rfl⟩ := List.mem_map.mp hx
      exact hl p hp
theorem mfld_step {H H' : Hp} {X : Md} {B : Bo} {t : Str} {f : Option Str} (h : MdAt H X B) (k : Kp X.m H H') (g : H' X.m = some (.dK (mdV t f X.di X.ln))) : MStep H X { B with title := t, founder := f } H' := by
  obtain ⟨ts, e1, e2⟩ := h.hn
  have tk : Tk H H' := fun b xs e => k _ _ (ne_kind e h.hm fun z => by cases z) e
  have kp : KpP (· = X.m) H H' := fun b u n e => k b u n e
  refine ⟨X, rfl, rfl, ⟨g, k _ _ (ne_kind h.hi h.hm fun z => by cases z) h.hi, fun o ho => (h.ho o ho).kpP kp (fun b hb z => h.nm o ho ((show b = X.m from z) ▸ hb)) tk, h.dj, h.nm, h.nl, h.kd, h.its, ⟨ts, k _ _ (ne_kind e1 h.hm fun z => by cases z) e1, dnall_tk tk h.pn e2⟩, h.pn⟩, fun a ha => .inl ha, kp.mono fun b hb => ?_⟩
  rw [show b = X.m from hb]
  exact List.mem_cons_self ..
theorem mnts_step {H H1 H' : Hp} {X : Md} {B : Bo} {ts : List V} {v : V} {d : PyData} (h : MdAt H X B) (s : Same H H1) (e0 : H1 X.ln = some (.lst ts)) (e2 : DnAll Any H1 ts B.nts) (k : Kp X.ln H1 H') (g : H' X.ln = some (.lst (ts ++ [v]))) (dv : Dn Any H1 v d) (pd : plainB d = true) : MStep H X { B with nts := B.nts ++ [d] } H' := by
  have h1 := h.same s
  have tk : Tk H1 H' := fun b xs e => k _ _ (ne_kind e e0 fun z => by cases z) e
  have kp : KpP (· = X.ln) H1 H' := fun b u n e => k b u n e
  have pa : plainAll (B.nts ++ [d]) = true := plainAll_of fun x hx => by
    rcases List.mem_append.mp hx with hx | hx
    · exact nts_step.all_plain h.pn x hx
    · rw [List.mem_singleton.mp hx]
      exact pd
  refine MStep.pre s ⟨X, rfl, rfl, ⟨k _ _ (ne_kind h1.hm e0 fun z => by cases z) h1.hm, k _ _ (ne_kind h1.hi e0 fun z => by cases z) h1.hi, fun o ho => (h1.ho o ho).kpP kp (fun b hb z => h.nl o ho ((show b = X.ln from z) ▸ hb)) tk, h.dj, h.nm, h.nl, h.kd, h.its, ⟨ts ++ [v], g, (dnall_tk tk h.pn e2).app (.cons (dn_tk tk pd dv) .nil)⟩, pa⟩, fun a ha => .inl ha, kp.mono fun b hb => ?_⟩
  rw [show b = X.ln from hb]
  exact List.mem_cons_of_mem _ (List.mem_cons_of_mem _ (List.mem_cons_self ..))
theorem put_title (t t' : Str) (f : Option Str) (di ln : Addr) : putK (mdV t f di ln) (Sum.inr (Str.ofString "title")) (.str t') = mdV t' f di ln := by rfl
theorem put_founder (t z : Str) (f : Option Str) (di ln : Addr) : putK (mdV t f di ln) (Sum.inr (Str.ofString "founder")) (.str z) = mdV t (some z) di ln := by rfl
theorem get_notices (t : Str) (f : Option Str) (di ln : Addr) : valV (mdV t f di ln) (Sum.inr (Str.ofString "notices")) = some (.ref ln) := by rfl
theorem get_items (t : Str) (f : Option Str) (di ln : Addr) : valV (mdV t f di ln) (Sum.inr (Str.ofString "items")) = some (.ref di) := by rfl

/-! ### the law's model of letters -/
theorem MStep.post {H H1 H2 : Hp} {X : Md} {B : Bo} (h : MStep H X B H1) (s : Same H1 H2) : MStep H X B H2 := by
  obtain ⟨X', e, e2, hb, hp, k⟩ := h
  exact ⟨X', e, e2, hb.same s, hp, k.trans (KpP.same s)⟩
def spModel (K : PySem.W.Frag) (CL : Addr) : Sp := fun vs H Q _ => ∃ (l : Addr) (ls : List (Addr × Lt)), vs = [.ref l] ∧ H l = some (.lst (lsV ls)) ∧ LsOk Any CL H ls ∧ (∀ y ∈ ls, BodyOk y.2.b) ∧ ls.length ≤ 100 ∧
  ∀ H' X, (∀ a ∈ mp X, H a = none) → Same H H' → MdAt H' X (boardD (ls.map (·.2))) → Q (.ref X.m) H'
abbrev trAct : TA := tCons (tC (.str (Str.ofString "add"))) (tCons (tC (.str (Str.ofString "cut"))) (tCons (tC (.str (Str.ofString "hand"))) tNil))
abbrev trErm : TA := tCons (tC (.str (Str.ofString "edit"))) (tCons (tC (.str (Str.ofString "recall"))) (tCons (tC (.str (Str.ofString "mark"))) tNil))
abbrev trFt : TA := tCons (tC (.str (Str.ofString "found"))) (tCons (tC (.str (Str.ofString "title"))) tNil)
section
variable {K : PySem.W.Frag} {C CL CI : Addr} {vs : List V} {H : Hp} {Q : VK} {E : XK} {σ : L2.St} {D : Ends}
theorem r_act (R : List V → Hp → Prop) (r : R ([Str.ofString "add", Str.ofString "cut", Str.ofString "hand"].map V.str) H) : trAct σ H R := w_cons (w_c (w_cons (w_c (w_cons (w_c (w_nil r))))))
theorem r_erm (R : List V → Hp → Prop) (r : R ([Str.ofString "edit", Str.ofString "recall", Str.ofString "mark"].map V.str) H) : trErm σ H R := w_cons (w_c (w_cons (w_c (w_cons (w_c (w_nil r))))))
theorem r_ft (R : List V → Hp → Prop) (r : R ([Str.ofString "found", Str.ofString "title"].map V.str) H) : trFt σ H R := w_cons (w_c (w_cons (w_c (w_nil r))))
theorem mskip {S : TS} {i : Nat} {k s : Str} (hi : σ[i]? = some (some (.str k))) (n : k ≠ s) (q : D.nx σ H) : tIfS (tTest (tOp rEq (tVar i) (tC (.str s)))) S tNext D σ H :=
  w_ifS (w_test (w_op (w_var hi (w_c (w_eqS (w_exb (ite_f (fun z => n (of_decide_eq_true z)) (w_next q))))))))
theorem mtake {S : TS} {i : Nat} {s : Str} (hi : σ[i]? = some (some (.str s))) (q : S D σ H) : tIfS (tTest (tOp rEq (tVar i) (tC (.str s)))) S tNext D σ H :=
  w_ifS (w_test (w_op (w_var hi (w_c (w_eqS (w_exb (ite_t (decide_eq_true rfl) q)))))))
theorem mskipIn {S : TS} {i : Nat} {k : Str} {tr : TA} (ks : List Str) (hi : σ[i]? = some (some (.str k))) (htr : ∀ R : List V → Hp → Prop, R (ks.map V.str) H → tr σ H R) (hl : ks.length ≤ 1000) (n : k ∉ ks) (q : ∀ H2, Same H H2 → D.nx σ H2) : tIfS (tTest (tOp (rIn K false) (tVar i) (tTup tr))) S tNext D σ H :=
  w_ifS (w_test (w_varIn ks hi htr hl fun H2 s2 => w_exb (ite_f (fun z => n (of_decide_eq_true z)) (w_next (q H2 s2)))))
theorem mtakeIn {S : TS} {i : Nat} {k : Str} {tr : TA} (ks : List Str) (hi : σ[i]? = some (some (.str k))) (htr : ∀ R : List V → Hp → Prop, R (ks.map V.str) H → tr σ H R) (hl : ks.length ≤ 1000) (n : k ∈ ks) (q : ∀ H2, Same H H2 → S D σ H2) : tIfS (tTest (tOp (rIn K false) (tVar i) (tTup tr))) S tNext D σ H :=
  w_ifS (w_test (w_varIn ks hi htr hl fun H2 s2 => w_exb (ite_t (decide_eq_true n) (q H2 s2))))
variable {A1 A2 A3 A4 A5 A6 R : TS} {U : TT} {k : Str}
theorem tail6 (h4 : σ[4]? = some (some (.str k))) (n : k ∉ [Str.ofString "edit", Str.ofString "recall", Str.ofString "mark"]) (q : ∀ H2, Same H H2 → D.nx σ H2) : tIfS (tAnd (tTest (tOp (rIn K false) (tVar 4) (tTup trErm))) U) A6 tNext D σ H :=
  w_ifS (w_and (w_test (w_varIn _ h4 r_erm (by decide) fun H2 s2 => w_exb (ite_f (fun z => n (of_decide_eq_true z)) (ite_f (by decide) (w_next (q H2 s2)))))))
theorem tail5 (h4 : σ[4]? = some (some (.str k))) (n5 : k ≠ Str.ofString "reply") (n : k ∉ [Str.ofString "edit", Str.ofString "recall", Str.ofString "mark"]) (q : ∀ H2, Same H H2 → D.nx σ H2) :
    tSeq (tIfS (tTest (tOp rEq (tVar 4) (tC (.str (Str.ofString "reply"))))) A5 tNext) (tIfS (tAnd (tTest (tOp (rIn K false) (tVar 4) (tTup trErm))) U) A6 tNext) D σ H := w_seq (mskip h4 n5 (tail6 h4 n q))
theorem tail4 (h4 : σ[4]? = some (some (.str k))) (n4 : k ≠ Str.ofString "say") (n5 : k ≠ Str.ofString "reply") (n : k ∉ [Str.ofString "edit", Str.ofString "recall", Str.ofString "mark"]) (q : ∀ H2, Same H H2 → D.nx σ H2) :
    tSeq (tIfS (tTest (tOp rEq (tVar 4) (tC (.str (Str.ofString "say"))))) A4 tNext) (tSeq (tIfS (tTest (tOp rEq (tVar 4) (tC (.str (Str.ofString "reply"))))) A5 tNext) (tIfS (tAnd (tTest (tOp (rIn K false) (tVar 4) (tTup trErm))) U) A6 tNext)) D σ H := w_seq (mskip h4 n4 (tail5 h4 n5 n q))
theorem head2 (h4 : σ[4]? = some (some (.str k))) (n1 : k ≠ Str.ofString "found") (n2 : k ∉ [Str.ofString "found", Str.ofString "title"]) (q : ∀ H2, Same H H2 → R D σ H2) :
    tSeq (tIfS (tTest (tOp rEq (tVar 4) (tC (.str (Str.ofString "found"))))) A1 tNext) (tSeq (tIfS (tTest (tOp (rIn K false) (tVar 4) (tTup trFt))) A2 tNext) R) D σ H :=
  w_seq (mskip h4 n1 (w_seq (mskipIn _ h4 r_ft (by decide) n2 q)))
end

section
variable {K : PySem.W.Frag} {C CL CI : Addr} {vs : List V} {H : Hp} {Q : VK} {E : XK} {σ : L2.St} {D : Ends}
/-- one letter's way through the tests -/
def t_mbody (K : PySem.W.Frag) (CL : Addr) : TS := (tSeq (tIfS (tTest (tOp rEq (tVar 4) (tC (.str "found")))) (sDPut (tVar 2) (tC (.str "founder")) (tFld K (tVar 3) "author")) tNext)
  (tSeq (tIfS (tTest (tOp (rIn K false) (tVar 4) (tTup (tCons (tC (.str "found")) (tCons (tC (.str "title")) tNil))))) (sDPut (tVar 2) (tC (.str "title")) (tOp (rIxT K) (tFld K (tVar 3) "body") (tC (.int 1)))) tNext)
  (tSeq (tIfS (tTest (tOp (rIn K false) (tVar 4) (tTup (tCons (tC (.str "add")) (tCons (tC (.str "cut")) (tCons (tC (.str "hand")) tNil)))))) (tDrop (tBM K "list" rAppend (tDGet (tVar 2) (tC (.str "notices"))) (tCons (tTup (tCons (tProp CL (spRefP K CL) [] C8.E0 (tVar 3)) (tCons (tVar 4) (tCons (tOp (rIxT K) (tFld K (tVar 3) "body") (tC (.int 1))) tNil)))) tNil))) tNext)
  (tSeq (tIfS (tTest (tOp rEq (tVar 4) (tC (.str "say")))) (sDPut (tVar 1) (tProp CL (spRefP K CL) [] C8.E0 (tVar 3)) (tLst (tCons (tOp (rIxT K) (tFld K (tVar 3) "body") (tC (.int 1))) (tCons (tC .non) (tCons (tC (.int 0)) (tCons (tC (.bl false)) (tCons tDNewK tNil))))))) tNext)
  (tSeq (tIfS (tTest (tOp rEq (tVar 4) (tC (.str "reply")))) (tSeq (tAsg (tOp (rIxT K) (tFld K (tVar 3) "body") (tC (.int 1))) (gName 5))
  (tSeq (tIfS (tB (tDNotIn (tVar 5) (tVar 1))) (tAsg (tC .non) (gName 5)) tNext)
  (sDPut (tVar 1) (tProp CL (spRefP K CL) [] C8.E0 (tVar 3)) (tLst (tCons (tOp (rIxT K) (tFld K (tVar 3) "body") (tC (.int 2))) (tCons (tVar 5) (tCons (tC (.int 0)) (tCons (tC (.bl false)) (tCons tDNewK tNil))))))))) tNext)
  (tIfS (tAnd (tTest (tOp (rIn K false) (tVar 4) (tTup (tCons (tC (.str "edit")) (tCons (tC (.str "recall")) (tCons (tC (.str "mark")) tNil)))))) (tB (tDIn (tOp (rIxT K) (tFld K (tVar 3) "body") (tC (.int 1))) (tVar 1)))) (tDrop (tCall (spLChange K CL) [] C8.E0 (tCons (tDGet (tVar 1) (tOp (rIxT K) (tFld K (tVar 3) "body") (tC (.int 1)))) (tCons (tVar 3) tNil)))) tNext))))))
theorem mbody_plain {X : Md} {B : Bo} {x : Addr} {L : Lt} {b : Bb} {u5 : Option V} {l : Addr} (LCL : IsC_Letter K CL) (hM : MdAt H X B) (hsz : BoSz 1000 B) (hL : LtAt Any CL H x L) (eb : L.b = b.toD)
    (hk : (∃ t ds, b = .found t ds) ∨ (∃ t, b = .title t) ∨ b = .seen ∨ (∃ k nm h, b = .act k nm h)) (q : ∀ H', MStep H X (showB B L b) H' → D.nx [some (.ref l), some (.ref X.di), some (.ref X.m), some (.ref x), some (.str b.kind), u5] H') :
    t_mbody K CL D [some (.ref l), some (.ref X.di), some (.ref X.m), some (.ref x), some (.str b.kind), u5] H := by
  obtain ⟨dxl, dl, sv, bv, hx, _, _, _, hbv⟩ := id hL
  rw [eb] at hbv
  obtain ⟨ta, xs, rfl, hta, hxs⟩ := bb_at hbv
  unfold t_mbody
  rcases hk with ⟨t, ds, rfl⟩ | ⟨t, rfl⟩ | rfl | ⟨k, nm, hk, rfl⟩
  · cases hxs with
    | cons h1 h3 =>
      cases h1
      refine w_seq (mtake rfl (w_dput (w_fldV rfl hx LCL.cl LCL.n_author lfs_author (w_var rfl (w_c (dputK (k := Sum.inr (Str.ofString "founder")) hM.hm (by simp) fun G1 k1 g1 => ?_))))))
      rw [put_founder] at g1
      have hx1 := k1 _ _ (ne_kind hx hM.hm fun z => by cases z) hx
      have hta1 := k1 _ _ (ne_kind hta hM.hm fun z => by cases z) hta
      refine w_seq (mtakeIn _ rfl r_ft (by decide) (by dsimp only [Bb.kind]; decide +kernel) fun G2 s2 => w_dput (w_op (w_fldV rfl (s2 _ _ hx1) LCL.cl LCL.n_body lfs_body (w_c (w_ixT (SqT.of (s2 _ _ hta1)) (atI_nat (j := 1) rfl) (w_var rfl (w_c (dputK (k := Sum.inr (Str.ofString "title")) (s2 _ _ g1) (by simp) fun G3 k3 g3 => ?_))))))))
      rw [put_title] at g3
      refine w_seq (mskipIn _ rfl r_act (by decide) (by dsimp only [Bb.kind]; decide +kernel) fun G4 s4 => tail4 rfl (by dsimp only [Bb.kind]; decide +kernel) (by dsimp only [Bb.kind]; decide +kernel) (by dsimp only [Bb.kind]; decide +kernel) fun G5 s5 => ?_)
      exact q G5 ((mfld_step (f := some L.a) hM ((k1.trans (Same.kp s2)).trans k3) g3).post (s4.trans s5))
  · cases hxs with
    | cons h1 h3 =>
      cases h1
      refine w_seq (mskip rfl (by dsimp only [Bb.kind]; decide +kernel) ?_)
      refine w_seq (mtakeIn _ rfl r_ft (by decide) (by dsimp only [Bb.kind]; decide +kernel) fun G2 s2 => w_dput (w_op (w_fldV rfl (s2 _ _ hx) LCL.cl LCL.n_body lfs_body (w_c (w_ixT (SqT.of (s2 _ _ hta)) (atI_nat (j := 1) rfl) (w_var rfl (w_c (dputK (k := Sum.inr (Str.ofString "title")) (s2 _ _ hM.hm) (by simp) fun G3 k3 g3 => ?_))))))))
      rw [put_title] at g3
      refine w_seq (mskipIn _ rfl r_act (by decide) (by dsimp only [Bb.kind]; decide +kernel) fun G4 s4 => tail4 rfl (by dsimp only [Bb.kind]; decide +kernel) (by dsimp only [Bb.kind]; decide +kernel) (by dsimp only [Bb.kind]; decide +kernel) fun G5 s5 => ?_)
      exact q G5 ((mfld_step (f := B.founder) hM ((Same.kp s2).trans k3) g3).post (s4.trans s5))
  · refine head2 rfl (by dsimp only [Bb.kind]; decide +kernel) (by dsimp only [Bb.kind]; decide +kernel) fun G2 s2 => ?_
    refine w_seq (mskipIn _ rfl r_act (by decide) (by dsimp only [Bb.kind]; decide +kernel) fun G4 s4 => tail4 rfl (by dsimp only [Bb.kind]; decide +kernel) (by dsimp only [Bb.kind]; decide +kernel) (by dsimp only [Bb.kind]; decide +kernel) fun G5 s5 => ?_)
    exact q G5 (MStep.refl hM ((s2.trans s4).trans s5))
  · have nk : ∀ s, s ∈ [Str.ofString "found", Str.ofString "title", Str.ofString "say", Str.ofString "reply", Str.ofString "edit", Str.ofString "recall", Str.ofString "mark"] → k ≠ s := by
      rcases hk with e | e | e <;> (rw [e]; decide +kernel)
    have nin : ∀ l : List Str, (∀ s ∈ l, s ∈ [Str.ofString "found", Str.ofString "title", Str.ofString "say", Str.ofString "reply", Str.ofString "edit", Str.ofString "recall", Str.ofString "mark"]) → k ∉ l := fun l h z => nk k (h k z) rfl
    cases hxs with
    | cons h1 h3 =>
      cases h1
      obtain ⟨ts, e1, e2⟩ := hM.hn
      have hts : ts.length ≤ 1000 := by
        have := e2.len
        have := hsz.2.2
        omega
      refine head2 rfl (nk _ (by simp)) (nin _ (by simp)) fun G2 s2 => ?_
      refine w_seq (mtakeIn _ rfl r_act (by decide) (by rcases hk with e | e | e <;> (show k ∈ _; rw [e]; simp)) fun G3 s3 => ?_)
      have sA := s2.trans s3
      refine w_drop (w_bm (w_dget (w_var rfl (w_c ⟨X.m, _, rfl, get_notices B.title B.founder X.di X.ln ▸ DGet.k (k := Sum.inr (Str.ofString "notices")) (sA _ _ hM.hm), w_tyL (sA _ _ e1) (w_cons (w_tupV (w_cons (w_propV rfl (sA _ _ hx) ⟨x, L, rfl, hL.same sA, fun t5 H5 _ s5 e5 => w_cons (w_var rfl (w_cons (w_op (w_fldV rfl (s5 _ _ (sA _ _ hx)) LCL.cl LCL.n_body lfs_body (w_c (w_ixT (SqT.of (s5 _ _ (sA _ _ hta))) (atI_nat (j := 1) rfl) (w_nil ⟨sz (by simp), w_new fun t6 H6 _ s6 e6 => w_nil (w_appV (s6 _ _ (s5 _ _ (sA _ _ e1))) (by omega) fun H7 k7 g7 => ?_)⟩)))))))⟩))))⟩))))
      have sB := (sA.trans s5).trans s6
      refine tail4 rfl (nk _ (by simp)) (nk _ (by simp)) (nin _ (by simp)) fun G8 s8 => ?_
      exact q G8 ((mnts_step hM sB (sB _ _ e1) (e2.same sB) k7 g7 (.tup trivial e6 (.cons (.tup trivial (s6 _ _ e5) (.cons (.str _) (.cons (.int _) .nil))) (.cons (.str _) (.cons (.str _) .nil)))) rfl).post s8)
end

section
variable {K : PySem.W.Frag} {C CL CI : Addr} {vs : List V} {H : Hp} {Q : VK} {E : XK} {σ : L2.St} {D : Ends}
theorem w_dnotin {td ty : TE} (q : ty σ H fun y H1 => td σ H1 fun x H2 => ∃ a o, x = .ref a ∧ DGet H2 a y o ∧ Q (.bl (!o.isSome)) H2) : tDNotIn ty td σ H Q := q
theorem mput_fin {X : Md} {B : Bo} {x : Addr} {L : Lt} {pv : V} {par : Option (Str × Int)} {tx : Str} {te tp : TE} (hM : MdAt H X B) (hl : B.its.length ≤ 1000) (hL : LtAt Any CL H x L) (hp : ParAt H pv par)
    (h1 : σ[1]? = some (some (.ref X.di))) (h3 : σ[3]? = some (some (.ref x))) (ht : ∀ R : VK, R (.str tx) H → te σ H R) (hpv : ∀ R : VK, R pv H → tp σ H R) (q : ∀ H', MStep H X { B with its := putI (newI L tx par) B.its } H' → D.nx σ H') :
    sDPut (tVar 1) (tProp CL (spRefP K CL) [] C8.E0 (tVar 3)) (tLst (tCons te (tCons tp (tCons (tC (.int 0)) (tCons (tC (.bl false)) (tCons tDNewK tNil)))))) D σ H := by
  obtain ⟨dxl, dl, sv, bv, hx, _⟩ := id hL
  refine w_dput (w_lstV (w_cons (ht _ (w_cons (hpv _ (w_cons (w_c (w_cons (w_c (w_cons (w_dnewK fun d H2 f2 s2 e2 => w_nil ⟨sz (by simp), w_new fun lo H3 f3 s3 e3 => ?_⟩)))))))))))
  have s := s2.trans s3
  refine w_var h1 (w_propV h3 (s _ _ hx) ⟨x, L, rfl, hL.same s, fun t H5 _ s5 e5 => dputT (k := iK (L.a, L.n)) (s5 _ _ (s _ _ hM.hi)) e5 ?_ fun H6 k6 g6 => ?_⟩)
  · rw [List.length_map]
    have := congrArg List.length hM.its
    rw [List.length_map] at this
    omega
  · refine q H6 (mput_step hM (s.trans s5) (same_none s2 f3) f2 ⟨⟨pv, s5 _ _ e3, hp.tk (Tk.same (s.trans s5))⟩, s5 _ _ (s3 _ _ e2), (fun m hm => nomatch hm), rfl, (fun m hm => nomatch hm), List.nodup_nil⟩ k6 g6)
theorem mbody_talk {X : Md} {B : Bo} {x : Addr} {L : Lt} {b : Bb} {u5 : Option V} {l : Addr} (LCL : IsC_Letter K CL) (hM : MdAt H X B) (hsz : BoSz 1000 B) (hL : LtAt Any CL H x L) (eb : L.b = b.toD)
    (hk : (∃ t, b = .say t) ∨ ∃ a n t, b = .reply a n t) (q : ∀ H' u, MStep H X (showB B L b) H' → D.nx [some (.ref l), some (.ref X.di), some (.ref X.m), some (.ref x), some (.str b.kind), u] H') :
    t_mbody K CL D [some (.ref l), some (.ref X.di), some (.ref X.m), some (.ref x), some (.str b.kind), u5] H := by
  obtain ⟨dxl, dl, sv, bv, hx, _, _, _, hbv⟩ := id hL
  rw [eb] at hbv
  obtain ⟨ta, xs, rfl, hta, hxs⟩ := bb_at hbv
  unfold t_mbody
  rcases hk with ⟨t, rfl⟩ | ⟨a, n, t, rfl⟩
  · cases hxs with
    | cons h1 h3 =>
      cases h1
      refine head2 rfl (by dsimp only [Bb.kind]; decide +kernel) (by dsimp only [Bb.kind]; decide +kernel) fun G2 s2 => ?_
      refine w_seq (mskipIn _ rfl r_act (by decide) (by dsimp only [Bb.kind]; decide +kernel) fun G3 s3 => ?_)
      have s := s2.trans s3
      refine w_seq (mtake rfl (mput_fin (par := none) (hM.same s) hsz.1 (hL.same s) (.inl ⟨rfl, rfl⟩) rfl rfl (fun R r => w_op (w_fldV rfl (s _ _ hx) LCL.cl LCL.n_body lfs_body (w_c (w_ixT (SqT.of (s _ _ hta)) (atI_nat (j := 1) rfl) r)))) (fun R r => w_c r) fun H' st => ?_))
      refine tail5 rfl (by dsimp only [Bb.kind]; decide +kernel) (by dsimp only [Bb.kind]; decide +kernel) fun G8 s8 => ?_
      exact q G8 _ ((st.pre s).post s8)
  · cases hxs with
    | cons h1 h2 =>
      obtain ⟨t1, rfl, e1⟩ := dn_ref h1
      cases h2 with
      | cons h2 h3 =>
        cases h2
        cases h3
        refine head2 rfl (by dsimp only [Bb.kind]; decide +kernel) (by dsimp only [Bb.kind]; decide +kernel) fun G2 s2 => ?_
        refine w_seq (mskipIn _ rfl r_act (by decide) (by dsimp only [Bb.kind]; decide +kernel) fun G3 s3 => ?_)
        have s := s2.trans s3
        have hM3 := hM.same s
        refine w_seq (mskip rfl (by dsimp only [Bb.kind]; decide +kernel) ?_)
        refine w_seq (mtake rfl (w_seq (w_asg (w_op (w_fldV rfl (s _ _ hx) LCL.cl LCL.n_body lfs_body (w_c (w_ixT (SqT.of (s _ _ hta)) (atI_nat (j := 1) rfl) (w_name ?_))))))))
        have fin : ∀ {pv : V} {par : Option (Str × Int)}, ParAt G3 pv par → showB B L (.reply a n t) = { B with its := putI (newI L t par) B.its } → sDPut (tVar 1) (tProp CL (spRefP K CL) [] C8.E0 (tVar 3)) (tLst (tCons (tOp (rIxT K) (tFld K (tVar 3) "body") (tC (.int 2))) (tCons (tVar 5) (tCons (tC (.int 0)) (tCons (tC (.bl false)) (tCons tDNewK tNil)))))) { D with nx := tIfS (tAnd (tTest (tOp (rIn K false) (tVar 4) (tTup trErm))) (tB (tDIn (tOp (rIxT K) (tFld K (tVar 3) "body") (tC (.int 1))) (tVar 1)))) (tDrop (tCall (spLChange K CL) [] C8.E0 (tCons (tDGet (tVar 1) (tOp (rIxT K) (tFld K (tVar 3) "body") (tC (.int 1)))) (tCons (tVar 3) tNil)))) tNext D } [some (.ref l), some (.ref X.di), some (.ref X.m), some (.ref x), some (.str (Bb.reply a n t).kind), some pv] G3 := by
          intro pv par hp es
          refine mput_fin (par := par) hM3 hsz.1 (hL.same s) hp rfl rfl (fun R r => w_op (w_fldV rfl (s _ _ hx) LCL.cl LCL.n_body lfs_body (w_c (w_ixT (SqT.of (s _ _ hta)) (atI_nat (j := 2) rfl) r)))) (fun R r => w_var rfl r) fun H' st => ?_
          refine tail6 rfl (by dsimp only [Bb.kind]; decide +kernel) fun G8 s8 => ?_
          exact q G8 _ (by rw [es]; exact (st.pre s).post s8)
        rcases find_mo X.xs (a, n) with ⟨hv, hh, _⟩ | ⟨l', o, r, e, hko, hl, hv, hh⟩
        · with_reducible refine w_seq ?_
          refine w_ifS (w_B (w_dnotin ?_))
          refine w_var rfl (w_var rfl ⟨X.di, _, rfl, DGet.t (k := iK (a, n)) hM3.hi (s _ _ e1), w_exb (ite_t (by rw [hv]; rfl) (w_asg (w_c (w_name (fin (.inl ⟨rfl, rfl⟩) ?_)))))⟩)
          unfold showB parI
          dsimp only
          rw [hM.its, hh, if_neg (by decide)]
        · with_reducible refine w_seq ?_
          refine w_ifS (w_B (w_dnotin ?_))
          refine w_var rfl (w_var rfl ⟨X.di, _, rfl, DGet.t (k := iK (a, n)) hM3.hi (s _ _ e1), w_exb (ite_f (by rw [hv]; exact Bool.false_ne_true) (w_next (fin (.inr ⟨t1, (a, n), rfl, rfl, s _ _ e1⟩) ?_)))⟩)
          unfold showB parI
          dsimp only
          rw [hM.its, hh, if_pos rfl]
end

section
variable {K : PySem.W.Frag} {C CL CI : Addr} {vs : List V} {H : Hp} {Q : VK} {E : XK} {σ : L2.St} {D : Ends}
theorem ref_first {H : Hp} {b : Bb} {xs : List V} (hk : b.kind = Str.ofString "edit" ∨ b.kind = Str.ofString "recall" ∨ b.kind = Str.ofString "mark") (hxs : DnAll Any H xs b.rest) : ∃ a n t1 ys, b.tgt = some (a, n) ∧ xs = .ref t1 :: ys ∧ H t1 = some (.tup [.str a, .int n]) := by
  have no : b.tgt = none → False := fun z => by
    obtain ⟨k, e, _⟩ := tgt_chg (B := bo0) (L := ⟨b.kind, 0, 0, [], .none⟩) hk
    rw [z] at e
    cases e
  cases b with
  | edit a n t =>
    cases hxs with
    | cons h1 h2 =>
      obtain ⟨t1, rfl, e1⟩ := dn_ref h1
      exact ⟨a, n, t1, _, rfl, rfl, e1⟩
  | recall a n =>
    cases hxs with
    | cons h1 h2 =>
      obtain ⟨t1, rfl, e1⟩ := dn_ref h1
      exact ⟨a, n, t1, _, rfl, rfl, e1⟩
  | mark a n w =>
    cases hxs with
    | cons h1 h2 =>
      obtain ⟨t1, rfl, e1⟩ := dn_ref h1
      exact ⟨a, n, t1, _, rfl, rfl, e1⟩
  | reply a n t => exfalso; revert hk; dsimp only [Bb.kind]; decide +kernel
  | say t => exact (no rfl).elim
  | title t => exact (no rfl).elim
  | seen => exact (no rfl).elim
  | found t ds => exact (no rfl).elim
  | act k nm h => exact (no rfl).elim
theorem mbody_chg {X : Md} {B : Bo} {x : Addr} {L : Lt} {b : Bb} {u5 : Option V} {l : Addr} (LCL : IsC_Letter K CL) (hM : MdAt H X B) (hsz : BoSz 1000 B) (hL : LtAt Any CL H x L) (eb : L.b = b.toD)
    (hk : b.kind = Str.ofString "edit" ∨ b.kind = Str.ofString "recall" ∨ b.kind = Str.ofString "mark") (q : ∀ H', MStep H X (showB B L b) H' → D.nx [some (.ref l), some (.ref X.di), some (.ref X.m), some (.ref x), some (.str b.kind), u5] H') :
    t_mbody K CL D [some (.ref l), some (.ref X.di), some (.ref X.m), some (.ref x), some (.str b.kind), u5] H := by
  obtain ⟨dxl, dl, sv, bv, hx, _, _, _, hbv⟩ := id hL
  rw [eb] at hbv
  obtain ⟨ta, xs, rfl, hta, hxs⟩ := bb_at hbv
  obtain ⟨a, n, t1, ys, etg, rfl, e1⟩ := ref_first hk hxs
  obtain ⟨k, ek, es⟩ := tgt_chg (B := B) (L := L) hk
  cases Option.some.inj (etg.symm.trans ek)
  rw [es] at q
  have nk : ∀ s, s ∈ [Str.ofString "found", Str.ofString "title", Str.ofString "say", Str.ofString "reply", Str.ofString "add", Str.ofString "cut", Str.ofString "hand"] → b.kind ≠ s := by
    rcases hk with e | e | e <;> (rw [e]; decide +kernel)
  have nin : ∀ l : List Str, (∀ s ∈ l, s ∈ [Str.ofString "found", Str.ofString "title", Str.ofString "say", Str.ofString "reply", Str.ofString "add", Str.ofString "cut", Str.ofString "hand"]) → b.kind ∉ l := fun l h z => nk _ (h _ z) rfl
  unfold t_mbody
  refine head2 rfl (nk _ (by simp)) (nin _ (by simp)) fun G2 s2 => ?_
  refine w_seq (mskipIn _ rfl r_act (by decide) (nin _ (by simp)) fun G3 s3 => ?_)
  refine w_seq (mskip rfl (nk _ (by simp)) ?_)
  refine w_seq (mskip rfl (nk _ (by simp)) ?_)
  have hin : b.kind ∈ [Str.ofString "edit", Str.ofString "recall", Str.ofString "mark"] := by
    rcases hk with e | e | e <;> (rw [e]; simp)
  refine w_ifS (w_and (w_test (w_varIn _ rfl r_erm (by decide) fun G4 s4 => w_exb (ite_t (decide_eq_true hin) (w_B (w_din ?_))))))
  have s := (s2.trans s3).trans s4
  have hM4 := hM.same s
  rcases find_mo X.xs (a, n) with ⟨hv, _, hno⟩ | ⟨l', o, r, e, hko, hl, hv, _⟩
  · refine w_op (w_fldV rfl (s _ _ hx) LCL.cl LCL.n_body lfs_body (w_c (w_ixT (SqT.of (s _ _ hta)) (atI_nat (j := 1) rfl) (w_var rfl ⟨X.di, _, rfl, DGet.t (k := iK (a, n)) hM4.hi (s _ _ e1), w_exb (ite_f (by rw [hv]; exact Bool.false_ne_true) (w_next ?_))⟩))))
    have enone : chgF (a, n) (stepI L b) B.its = B.its := chgF_none fun i hi => by
      rw [hM.its] at hi
      obtain ⟨o, ho, rfl⟩ := List.mem_map.mp hi
      exact hno o ho
    rw [enone] at q
    exact q G4 (MStep.refl hM s)
  · refine w_op (w_fldV rfl (s _ _ hx) LCL.cl LCL.n_body lfs_body (w_c (w_ixT (SqT.of (s _ _ hta)) (atI_nat (j := 1) rfl) (w_var rfl ⟨X.di, _, rfl, DGet.t (k := iK (a, n)) hM4.hi (s _ _ e1), w_exb (ite_t (by rw [hv]; rfl) ?_)⟩))))
    have hmem : o ∈ X.xs := by rw [e]; exact List.mem_append_right _ (List.mem_cons_self ..)
    have hms : MkSz 1000 o.it := hsz.2.1 _ (by rw [hM.its]; exact List.mem_map_of_mem hmem)
    refine w_drop (w_call (w_cons (w_dget (w_var rfl (w_op (w_fldV rfl (s _ _ hx) LCL.cl LCL.n_body lfs_body (w_c (w_ixT (SqT.of (s _ _ hta)) (atI_nat (j := 1) rfl) ⟨X.di, _, rfl, hv ▸ DGet.t (k := iK (a, n)) hM4.hi (s _ _ e1), w_cons (w_var rfl (w_nil ⟨o, x, L, b, rfl, hM4.ho o hmem, hms, hL.same s, eb, by rw [ek, hko], hk, fun H' st => ?_⟩))⟩))))))))
    exact q H' ((mchg_step hM4 e hko hl (stepI_key L b o.it) st).pre s)
end

section
variable {K : PySem.W.Frag} {C CL CI : Addr} {vs : List V} {H : Hp} {Q : VK} {E : XK} {σ : L2.St} {D : Ends}
/-- _law_model: slots 0:letters 1:items 2:model 3:letter 4:kind 5:parent -/
def t__law_model (K : PySem.W.Frag) (C_Letter : Addr) : TS := (tSeq (tAsg tDNewT (gName 1))
  (tSeq (tAsg (tDisp (((tC (.str "title")), (tC (.str ""))) :: (((tC (.str "founder")), (tC .non)) :: (((tC (.str "items")), (tVar 1)) :: (((tC (.str "notices")), (tLst tNil)) :: []))))) (gName 2))
  (tSeq (tFor (iList K (tVar 0)) (gName 3) (tSeq (tAsg (tOp (rIxT K) (tFld K (tVar 3) "body") (tC (.int 0))) (gName 4))
  (tSeq (tIfS (tTest (tOp rEq (tVar 4) (tC (.str "found")))) (sDPut (tVar 2) (tC (.str "founder")) (tFld K (tVar 3) "author")) tNext)
  (tSeq (tIfS (tTest (tOp (rIn K false) (tVar 4) (tTup (tCons (tC (.str "found")) (tCons (tC (.str "title")) tNil))))) (sDPut (tVar 2) (tC (.str "title")) (tOp (rIxT K) (tFld K (tVar 3) "body") (tC (.int 1)))) tNext)
  (tSeq (tIfS (tTest (tOp (rIn K false) (tVar 4) (tTup (tCons (tC (.str "add")) (tCons (tC (.str "cut")) (tCons (tC (.str "hand")) tNil)))))) (tDrop (tBM K "list" rAppend (tDGet (tVar 2) (tC (.str "notices"))) (tCons (tTup (tCons (tProp C_Letter (spRefP K C_Letter) [] C8.E0 (tVar 3)) (tCons (tVar 4) (tCons (tOp (rIxT K) (tFld K (tVar 3) "body") (tC (.int 1))) tNil)))) tNil))) tNext)
  (tSeq (tIfS (tTest (tOp rEq (tVar 4) (tC (.str "say")))) (sDPut (tVar 1) (tProp C_Letter (spRefP K C_Letter) [] C8.E0 (tVar 3)) (tLst (tCons (tOp (rIxT K) (tFld K (tVar 3) "body") (tC (.int 1))) (tCons (tC .non) (tCons (tC (.int 0)) (tCons (tC (.bl false)) (tCons tDNewK tNil))))))) tNext)
  (tSeq (tIfS (tTest (tOp rEq (tVar 4) (tC (.str "reply")))) (tSeq (tAsg (tOp (rIxT K) (tFld K (tVar 3) "body") (tC (.int 1))) (gName 5))
  (tSeq (tIfS (tB (tDNotIn (tVar 5) (tVar 1))) (tAsg (tC .non) (gName 5)) tNext)
  (sDPut (tVar 1) (tProp C_Letter (spRefP K C_Letter) [] C8.E0 (tVar 3)) (tLst (tCons (tOp (rIxT K) (tFld K (tVar 3) "body") (tC (.int 2))) (tCons (tVar 5) (tCons (tC (.int 0)) (tCons (tC (.bl false)) (tCons tDNewK tNil))))))))) tNext)
  (tIfS (tAnd (tTest (tOp (rIn K false) (tVar 4) (tTup (tCons (tC (.str "edit")) (tCons (tC (.str "recall")) (tCons (tC (.str "mark")) tNil)))))) (tB (tDIn (tOp (rIxT K) (tFld K (tVar 3) "body") (tC (.int 1))) (tVar 1)))) (tDrop (tCall (spLChange K C_Letter) [] C8.E0 (tCons (tDGet (tVar 1) (tOp (rIxT K) (tFld K (tVar 3) "body") (tC (.int 1)))) (tCons (tVar 3) tNil)))) tNext))))))))
  (tRet (tVar 2)))))
theorem l__law_model (h : spModel K CL vs H Q E) : vs.length = 1 := by obtain ⟨l, ls, rfl, _⟩ := h; rfl
theorem r__law_model (LCL : IsC_Letter K CL) (h : spModel K CL vs H Q E) : t__law_model K CL { nx := fun _ H' => Q .non H', rt := Q } (start ["letters", "items", "model", "letter", "kind", "parent"] vs) H := by
  obtain ⟨l, ls, rfl, hl, hok, hbo, hll, q⟩ := h
  unfold t__law_model
  refine w_seq (w_asg (w_dnewT fun di H1 f1 s1 e1 => w_name ?_))
  with_reducible refine w_seq ?_
  refine w_asg (fun m hm => w_c (w_c (w_c (w_c (w_c (w_var rfl (w_c (w_lstV (w_nil ⟨sz (by simp), w_new fun ln H3 f3 s3 e3 => ⟨s3 _ _ upd_same, [(Sum.inr (Str.ofString "title"), .str (Str.ofString "")), (Sum.inr (Str.ofString "founder"), .non), (Sum.inr (Str.ofString "items"), .ref di), (Sum.inr (Str.ofString "notices"), .ref ln)], rfl, by simp, w_name ?_⟩⟩)))))))))
  have fln : H1 ln = none := by
    by_cases z : ln = m
    · rw [z, upd_same] at f3
      cases f3
    · rw [upd_ne z] at f3
      exact f3
  have nlm : ln ≠ m := fun z => by
    rw [z, upd_same] at f3
    cases f3
  have s13 : ∀ G, G = upd H3 m (.dK (mdV (Str.ofString "") none di ln)) → Same H1 G := fun G z b u e => by
    rw [z, upd_ne (ne_of_none e hm)]
    exact s3 _ _ (by rw [upd_ne (ne_of_none e hm)]; exact e)
  obtain ⟨G, hG⟩ : ∃ G, G = upd H3 m (.dK (mdV (Str.ofString "") none di ln)) := ⟨_, rfl⟩
  have sG := s1.trans (s13 G hG)
  have hM0 : MdAt G ⟨m, di, ln, []⟩ bo0 := ⟨by rw [hG]; exact upd_same, s13 G hG _ _ e1, (fun o ho => nomatch ho), List.Pairwise.nil, (fun o ho => nomatch ho), (fun o ho => nomatch ho), List.nodup_nil, rfl, ⟨[], by rw [hG, upd_ne nlm]; exact e3, .nil⟩, rfl⟩
  have emg : upd H3 m (.dK (mergeK [] [(Sum.inr (Str.ofString "title"), .str (Str.ofString "")), (Sum.inr (Str.ofString "founder"), .non), (Sum.inr (Str.ofString "items"), .ref di), (Sum.inr (Str.ofString "notices"), .ref ln)])) = G := by rw [hG]; rfl
  rw [emg]
  with_reducible refine w_seq ?_
  refine w_for (w_iList (w_var rfl ⟨l, rfl, ⟨_, SqL.of (sG _ _ hl)⟩, ?_⟩))
  refine for_it (walk_list (xs := lsV ls)) (fun k σ G => (∃ u3 u4 u5, σ = [some (.ref l), some (.ref di), some (.ref m), u3, u4, u5]) ∧ Same H G ∧ ∃ X : Md, X.m = m ∧ X.di = di ∧ (∀ a ∈ mp X, H a = none) ∧ MdAt G X (boardD ((ls.map (·.2)).take k))) ⟨⟨_, _, _, rfl⟩, sG, ⟨m, di, ln, []⟩, rfl, rfl, fun a ha => ?_, hM0⟩ (fun k σ G _ e => SqL.of (e.2.1 _ _ hl)) ?_ ?_
  · rcases List.mem_cons.mp ha with rfl | ha
    · exact same_none s1 hm
    · rcases List.mem_cons.mp ha with rfl | ha
      · exact f1
      · rw [List.mem_singleton.mp ha]
        exact same_none s1 fln
  · rintro k v σ G2 G' hk ⟨⟨u3, u4, u5, rfl⟩, s, X, rfl, rfl, fr, hB⟩ ⟨rfl, hx⟩
    rw [List.getElem?_map] at hx
    obtain ⟨y, hy, rfl⟩ := Option.map_eq_some_iff.mp hx
    have hmm := List.mem_of_getElem? hy
    have hL := (hok y hmm).1.same s
    have eb := bbOf_toD (hbo y hmm)
    obtain ⟨dxl, dl, sv, bv, hxx, _, _, _, hbv⟩ := id hL
    rw [eb] at hbv
    obtain ⟨ta, xs, rfl, hta, _⟩ := bb_at hbv
    have hsz : BoSz 1000 (boardD ((ls.map (·.2)).take k)) := (board_sz _).mono (by rw [List.length_take, List.length_map]; omega)
    refine w_name (w_seq (w_asg (w_op (w_fldV rfl hxx LCL.cl LCL.n_body lfs_body (w_c (w_ixT (SqT.of hta) (atI_nat (j := 0) rfl) (w_name ?_)))))))
    have done : ∀ (H' : Hp) (σ' : L2.St), (∃ u3 u4 u5, σ' = [some (.ref l), some (.ref X.di), some (.ref X.m), u3, u4, u5]) → MStep G' X (showB (boardD ((ls.map (·.2)).take k)) y.2 (bbOf y.2.b)) H' → (∃ u3 u4 u5, σ' = [some (.ref l), some (.ref X.di), some (.ref X.m), u3, u4, u5]) ∧ Same H H' ∧ ∃ X' : Md, X'.m = X.m ∧ X'.di = X.di ∧ (∀ a ∈ mp X', H a = none) ∧ MdAt H' X' (boardD ((ls.map (·.2)).take (k + 1))) := by
      rintro H' σ' hσ ⟨X', ex, ed, hB', hp, kp⟩
      refine ⟨hσ, fun c u e => kp c u (fun z => ?_) (s c u e), X', ex, ed, fun a ha => (hp a ha).elim (fr a) fun z => same_none s z, ?_⟩
      · rw [fr c z] at e
        cases e
      · have et : (ls.map (·.2)).take (k + 1) = (ls.map (·.2)).take k ++ [y.2] := by
          rw [List.take_add_one, List.getElem?_map, hy]
          rfl
        rw [et, boardD_app]
        exact hB'
    generalize bbOf y.2.b = b at eb hbv hta done
    cases b with
    | say t => exact mbody_talk LCL hB hsz hL eb (.inl ⟨_, rfl⟩) fun H' u st => done H' _ ⟨_, _, _, rfl⟩ st
    | reply a n t => exact mbody_talk LCL hB hsz hL eb (.inr ⟨_, _, _, rfl⟩) fun H' u st => done H' _ ⟨_, _, _, rfl⟩ st
    | edit a n t => exact mbody_chg LCL hB hsz hL eb (.inl rfl) fun H' st => done H' _ ⟨_, _, _, rfl⟩ st
    | recall a n => exact mbody_chg LCL hB hsz hL eb (.inr (.inl rfl)) fun H' st => done H' _ ⟨_, _, _, rfl⟩ st
    | mark a n w => exact mbody_chg LCL hB hsz hL eb (.inr (.inr rfl)) fun H' st => done H' _ ⟨_, _, _, rfl⟩ st
    | title t => exact mbody_plain LCL hB hsz hL eb (.inr (.inl ⟨_, rfl⟩)) fun H' st => done H' _ ⟨_, _, _, rfl⟩ st
    | seen => exact mbody_plain LCL hB hsz hL eb (.inr (.inr (.inl rfl))) fun H' st => done H' _ ⟨_, _, _, rfl⟩ st
    | found t ds => exact mbody_plain LCL hB hsz hL eb (.inl ⟨_, _, rfl⟩) fun H' st => done H' _ ⟨_, _, _, rfl⟩ st
    | act k nm h => exact mbody_plain LCL hB hsz hL eb (.inr (.inr (.inr ⟨_, _, _, rfl⟩))) fun H' st => done H' _ ⟨_, _, _, rfl⟩ st
  · rintro σ G2 ⟨⟨u3, u4, u5, rfl⟩, s, X, rfl, rfl, fr, hB⟩
    rw [show (lsV ls).length = (ls.map (·.2)).length by rw [List.length_map, List.length_map], List.take_length] at hB
    exact w_ret (w_var rfl (q G2 X fr s hB))
end

/-! ### names under the words may be laid -/
theorem tog_lay {P : Str → Prop} {w nm : Str} (hn : P nm) : ∀ {l : List (Str × List Str)}, (∀ m ∈ l, ∀ n ∈ m.2, P n) → ∀ m ∈ togF w nm l, ∀ n ∈ m.2, P n
  | [], _, m, hm, n, hx => by
    rw [List.mem_singleton.mp hm] at hx
    rw [List.mem_singleton.mp hx]
    exact hn
  | x :: r, h, m, hm, n, hx => by
    rw [togF] at hm
    split at hm
    · rcases List.mem_cons.mp hm with rfl | hm
      · have hx : n ∈ flipS nm x.2 := hx
        unfold flipS at hx
        split at hx
        · exact h x (List.mem_cons_self ..) n (List.mem_filter.mp hx).1
        · rcases List.mem_append.mp hx with hx | hx
          · exact h x (List.mem_cons_self ..) n hx
          · rw [List.mem_singleton.mp hx]
            exact hn
      · exact h m (List.mem_cons_of_mem _ hm) n hx
    · rcases List.mem_cons.mp hm with rfl | hm
      · exact h m (List.mem_cons_self ..) n hx
      · exact tog_lay hn (fun y hy => h y (List.mem_cons_of_mem _ hy)) m hm n hx
theorem step_lay {L : Lt} (hn : Lay 0 (.str L.a)) (b : Bb) {i : It} (h : MkLay i) : MkLay (stepI L b i) := by
  cases b with
  | mark a k w =>
    unfold stepI
    dsimp only
    split
    · exact h
    · exact tog_lay (P := fun n => Lay 0 (.str n)) hn h
  | edit a k t =>
    unfold stepI
    dsimp only
    split
    · exact h
    · split <;> exact h
  | recall a k =>
    unfold stepI
    dsimp only
    split
    · exact h
    · split
      · exact fun m hm => nomatch hm
      · exact h
  | say t => exact h
  | reply a k t => exact h
  | title t => exact h
  | seen => exact h
  | found t ds => exact h
  | act k nm e => exact h
theorem put_lay {L : Lt} {t : Str} {p : Option (Str × Int)} {l : List It} (h : ∀ i ∈ l, MkLay i) : ∀ i ∈ putI (newI L t p) l, MkLay i := by
  have hn : MkLay (newI L t p) := fun m hm => nomatch hm
  intro i hi
  unfold putI at hi
  split at hi
  · exact (chg_mem hi).elim (h i) fun ⟨j, hj, e⟩ => e ▸ hn
  · rcases List.mem_append.mp hi with hi | hi
    · exact h i hi
    · rw [List.mem_singleton.mp hi]
      exact hn
theorem chg_lay {L : Lt} (hn : Lay 0 (.str L.a)) (b : Bb) {k : Str × Int} {l : List It} (h : ∀ i ∈ l, MkLay i) : ∀ i ∈ chgF k (stepI L b) l, MkLay i := fun i hi =>
  (chg_mem hi).elim (h i) fun ⟨j, hj, e⟩ => e ▸ step_lay hn b (h j hj)
theorem show_lay {B : Bo} {L : Lt} (hn : Lay 0 (.str L.a)) (b : Bb) (h : ∀ i ∈ B.its, MkLay i) : ∀ i ∈ (showB B L b).its, MkLay i := by
  cases b with
  | say t => exact put_lay h
  | reply a k t => exact put_lay h
  | edit a k t => exact chg_lay hn _ h
  | recall a k => exact chg_lay hn _ h
  | mark a k w => exact chg_lay hn _ h
  | title t => exact h
  | seen => exact h
  | found t ds => exact h
  | act k nm e => exact h
theorem fold_lay : ∀ (ls : List Lt) (B : Bo), (∀ L ∈ ls, Lay 0 (.str L.a)) → (∀ i ∈ B.its, MkLay i) → ∀ i ∈ (ls.foldl (fun B L => showB B L (bbOf L.b)) B).its, MkLay i
  | [], _, _, h => h
  | L :: r, B, hn, h => fold_lay r _ (fun x hx => hn x (List.mem_cons_of_mem _ hx)) (show_lay (hn L (List.mem_cons_self ..)) _ h)
theorem board_lay {ls : List Lt} (hn : ∀ L ∈ ls, Lay 0 (.str L.a)) : ∀ i ∈ (boardD ls).its, MkLay i := fold_lay ls bo0 hn fun i hi => nomatch hi

/-! ### the founding letter among the letters of a board -/
def bodyF : PyData := .tuple [.str (Str.ofString "found"), .str (Str.ofString ""), .tuple [.str (Str.ofString "ann"), .str (Str.ofString "anna")]]
def ltF : Lt := ⟨Str.ofString "zora", 1, 1, [(Str.ofString "zora", 1)], bodyF⟩
theorem bodyF_ok : BodyOk bodyF := ⟨lay3 (k := 2) (lay_str (ascii_of _)) (lay_str (ascii_of _)) (lay2 (k := 1) (lay_str (ascii_of _)) (lay_str (ascii_of _))), rfl, ⟨_, _, rfl, .inr (.inr ⟨by decide, by decide⟩)⟩, ⟨.found _ _, rfl⟩⟩
theorem ltF_wf : Wf ltF := ⟨by decide, by decide +kernel, by decide, ascii_of _, fun p hp => by rw [List.mem_singleton.mp hp]; exact ascii_of _, bodyF_ok.lay, rfl⟩
def nmB8 (z : Str) : Bool := decide (z.length ≤ 12) && ascii z
theorem names8B : ∀ z ∈ NAMES8, nmB8 z = true := List.all_eq_true.mp (by decide +kernel)
theorem people_ok {G : Hp} {pa : Addr} {ps : List Str} (e : G pa = some (.lst (ps.map V.str))) (h : ∀ x ∈ ps, x ∈ NAMES8) (h1 : 1 ≤ ps.length) (h8 : ps.length ≤ 8) : PeopleAt G pa ps := ⟨e, by omega, by omega, fun x hx => by
  have := names8B x (h x hx)
  unfold nmB8 at this
  rw [Bool.and_eq_true, decide_eq_true_eq] at this
  exact ⟨this.2, this.1⟩⟩
section
variable {K : PySem.W.Frag} {C CL : Addr} {vs : List V} {H : Hp} {Q : VK} {E : XK} {σ : L2.St} {D : Ends}
/-- letters.insert(at, the founding letter) -/
theorem found_ins {i j : Nat} {pl : Addr} {ls : List (Addr × Lt)} {n : Nat} (hi : σ[i]? = some (some (.ref pl))) (hj : σ[j]? = some (some (.int (n : Int)))) (hpl : H pl = some (.lst (lsV ls))) (ok : LsOk Any CL H ls) (hbd : ∀ y ∈ ls, BodyOk y.2.b) (hl : ls.length ≤ 60) (hn : n ≤ ls.length)
    (q : ∀ LS H', H' pl = some (.lst (lsV LS)) → LsOk Any CL H' LS → (∀ y ∈ LS, BodyOk y.2.b) → LS.length ≤ 61 → Kp pl H H' → D.nx σ H') :
    tDrop (tBM K "list" Wp.qInsert (tVar i) (tCons (tVar j) (tCons (tMake CL (spInit K CL) [] C8.E0 (tCons (tC (.str "zora")) (tCons (tC (.int 1)) (tCons (tC (.int 1)) (tCons (tTup (tCons (tTup (tCons (tC (.str "zora")) (tCons (tC (.int 1)) tNil))) tNil)) (tCons (tTup (tCons (tC (.str "found")) (tCons (tC (.str "")) (tCons (tTup (tCons (tC (.str "ann")) (tCons (tC (.str "anna")) tNil))) tNil)))) tNil)))))) tNil))) D σ H := by
  refine w_drop (w_bm (w_var hi (w_tyL hpl (w_cons (w_var hj (w_cons (w_make (w_cons (w_c (w_cons (w_c (w_cons (w_c (w_cons (w_tupV (w_cons (w_tupV (w_cons (w_c (w_cons (w_c (w_nil ⟨sz (by simp), w_new fun t5 G5 _ s5 e5 => w_nil ⟨sz (by simp), w_new fun t6 G6 _ s6 e6 => ?_⟩⟩))))))))))))))))))))))
  refine w_cons (w_tupV (w_cons (w_c (w_cons (w_c (w_cons (w_tupV (w_cons (w_c (w_cons (w_c (w_nil ⟨sz (by simp), w_new fun t7 G7 _ s7 e7 => w_nil ⟨sz (by simp), w_new fun t8 G8 _ s8 e8 => w_nil fun x dx hx hdx ndx => ?_⟩⟩))))))))))))
  have dS : Dn Any G8 (.ref t6) (seenD ltF.ps) := .tup trivial (s8 _ _ (s7 _ _ e6)) (.cons (.tup trivial (s8 _ _ (s7 _ _ (s6 _ _ e5))) (.cons (.str _) (.cons (.int _) .nil))) .nil)
  have dB : Dn Any G8 (.ref t8) bodyF := .tup trivial e8 (.cons (.str _) (.cons (.str _) (.cons (.tup trivial (s8 _ _ e7) (.cons (.str _) (.cons (.str _) .nil))) .nil)))
  refine ⟨x, dx, Str.ofString "zora", 1, 1, ltF.ps, .ref t6, .ref t8, rfl, upd_same, dn_made2 dS hx hdx _, ltF_wf.nd, by decide, fun G9 dd hd k9 e9 ed => ⟨rfl, ?_⟩⟩
  have s9 : Same G8 G9 := same_made2 hx hdx k9
  have s49 := (((s5.trans s6).trans s7).trans s8).trans s9
  have aF : LtAt Any CL G9 x ltF := ⟨dx, dd, .ref t6, .ref t8, e9, trivial, ed, dS.same s9, dB.same s9⟩
  have hpl9 := s49 _ _ hpl
  refine w_nil ⟨pl, lsV ls, (n : Int), .ref x, rfl, rfl, hpl9, by rw [lsV_len]; exact Nat.lt_of_le_of_lt hl (by decide), by omega, by omega, ?_⟩
  have kI : Kp pl G9 (upd G9 pl (.lst ((lsV ls).take (n : Int).toNat ++ [V.ref x] ++ (lsV ls).drop (n : Int).toNat))) := Kp.refl.updp
  have eI : upd G9 pl (.lst ((lsV ls).take (n : Int).toNat ++ [V.ref x] ++ (lsV ls).drop (n : Int).toNat)) pl = some (.lst (lsV (ls.take n ++ [(x, ltF)] ++ ls.drop n))) := by
    rw [upd_same, lsV_app, lsV_app, Int.toNat_natCast, lsV_take, lsV_drop]
    rfl
  generalize upd G9 pl (.lst ((lsV ls).take (n : Int).toNat ++ [V.ref x] ++ (lsV ls).drop (n : Int).toNat)) = G10 at kI eI
  have f10 := Fm.kpL (ok := Any) kI hpl9
  refine q _ G10 eI (LsOk.fm (fun y hy => ?_) f10) (fun y hy => ?_) ?_ ((Same.kp s49).trans kI)
  · rcases List.mem_append.mp hy with hy | hy
    · rcases List.mem_append.mp hy with hy | hy
      · exact (ok.same s49) y (List.mem_of_mem_take hy)
      · rw [List.mem_singleton.mp hy]
        exact ⟨aF, ltF_wf⟩
    · exact (ok.same s49) y (List.mem_of_mem_drop hy)
  · rcases List.mem_append.mp hy with hy | hy
    · rcases List.mem_append.mp hy with hy | hy
      · exact hbd y (List.mem_of_mem_take hy)
      · rw [List.mem_singleton.mp hy]
        exact bodyF_ok
    · exact hbd y (List.mem_of_mem_drop hy)
  · rw [List.length_append, List.length_append, List.length_take, List.length_drop, List.length_singleton]
    omega
end

/-! ### a whole number is another -/
def spIs (K : PySem.W.Frag) : Sp := fun vs H Q _ => ∃ i j : Int, vs = [.int i, .int j] ∧ Q (.bl (decide (i = j))) H
section
variable {K : PySem.W.Frag} {vs : List V} {H : Hp} {Q : VK} {E : XK}
/-- _law_is: slots 0:actual 1:due -/
def t__law_is (K : PySem.W.Frag) : TS := (tRet (tAndV (tCB (rIsi K) (tCons (tVar 0) (tCons (tC (.ty "int")) tNil))) (tAndV (tNotV (tCB (rIsi K) (tCons (tVar 0) (tCons (tC (.ty "bool")) tNil)))) (tOp rEq (tVar 0) (tVar 1)))))
theorem l__law_is (h : spIs K vs H Q E) : vs.length = 2 := by obtain ⟨i, j, rfl, _⟩ := h; rfl
theorem r__law_is (h : spIs K vs H Q E) : t__law_is K { nx := fun _ H' => Q .non H', rt := Q } (start ["actual", "due"] vs) H := by
  obtain ⟨i, j, rfl, q⟩ := h
  unfold t__law_is
  walk_at "w"
  refine w_isi (Dn.tyX (ok := Any) (.int i)) (kit_int (.int i)) ?_
  walk_at "w"
  walk_at "if" <;> intro hc
  · walk_at "w"
    refine w_isi (Dn.tyX (ok := Any) (.int i)) (kit_bool (.int i)) ?_
    walk_at "w"
    walk_at "if" <;> intro h1
    · walk_at "w"
      exact q
    · exact absurd h1 (show ¬ "int" = "bool" by decide)
  · exact (hc (.inl rfl)).elim
end

/-! ### walks over a board -/
theorem io_offT {CI : Addr} {H : Hp} {o : Io} {d : Addr} {kvs : List (List L2.Key × V)} (h : IoAt CI H o) (hd : H d = some (.dT kvs)) : ∀ b ∈ fp o, b ≠ d := by
  intro b hb z
  subst z
  rcases List.mem_cons.mp hb with hb | hb
  · obtain ⟨dx, t, pv, e', _⟩ := h.hx
    rw [← hb, hd] at e'
    cases e'
  · rcases List.mem_cons.mp hb with hb | hb
    · have := h.hd
      rw [← hb, hd] at this
      cases this
    · obtain ⟨m, hm, hb⟩ := List.mem_map.mp hb
      have := h.hm m hm
      rw [hb, hd] at this
      cases this
/-- all but what stands at d -/
def But (d : Addr) (H H' : Hp) : Prop := ∀ b o, b ≠ d → H b = some o → H' b = some o
theorem But.same {d : Addr} {H G G' : Hp} (k : But d H G) (s : Same G G') : But d H G' := fun b o n e => s _ _ (k b o n e)
theorem But.lock {d : Addr} {H : Hp} {o : HO} : But d H (upd H d o) := fun b u n e => by rw [upd_ne n]; exact e
theorem But.unlock {d : Addr} {H G : Hp} {u : HO} (k : But d H G) (hd : H d = some u) : Same H (upd G d u) := fun b o e => by
  by_cases z : b = d
  · rw [z] at e ⊢
    rw [upd_same, ← hd]
    exact e.symm ▸ e
  · rw [upd_ne z]
    exact k b o z e
theorem But.io {CI d : Addr} {H G : Hp} {o : Io} {kvs : List (List L2.Key × V)} (k : But d H G) (hd : H d = some (.dT kvs)) (h : IoAt CI H o) : IoAt CI G o :=
  h.kpP (S := (· = d)) k (io_offT h hd) fun b xs e => k _ _ (ne_kind e hd fun z => by cases z) e
theorem tk_unfrz {d : Addr} {G : Hp} {od : Obj} {u u' : HO} (e : G d = some (.frz od u)) (n : ∀ xs, u ≠ .tup xs) : Tk G (upd G d u') := by
  have kd : Kp d G (upd G d u') := Kp.refl.updp
  first
  | exact fun b xs e2 => kd _ _ (fun z => by rw [z, e] at e2; cases e2) e2
  | exact ⟨fun b xs e2 => kd _ _ (fun z => by rw [z, e] at e2; cases e2) e2, fun b o xs e2 => kd _ _ (fun z => by rw [z, e] at e2; cases e2; exact n _ rfl) e2⟩
theorem first_tk {H H' : Hp} (t : Tk H H') {a : Addr} {xs : List V} (e : H a = some (.tup xs)) : H' a = some (.tup xs) := by
  first
  | exact t a xs e
  | exact t.1 a xs e
theorem plain_refs (l : List (Str × Int)) : plainAll (l.map pairD) = true := plainAll_of fun d hd => by
  obtain ⟨o, _, rfl⟩ := List.mem_map.mp hd
  rfl
section
variable {K : PySem.W.Frag} {C CL CI : Addr} {H : Hp} {Q : VK} {σ : L2.St} {n : Nat}
/-- [item.ref for item in board] -/
theorem lc_ownRefs {i j : Nat} {X : Bx} {B : Bo} (hj : σ[j]? = some (some (.ref X.b))) (hB : BoAt C CI H X B) (hl : X.xs.length ≤ 1000) (hw : ∀ x, wipe ((wipe σ [i]).set i (some x)) [i] = wipe σ [i]) (hi : ∀ x, ((wipe σ [i]).set i (some x))[i]? = some (some x))
    (q : ∀ D ts G, H D = none → Same H G → G D = some (.lst ts) → DnAll Any G ts (X.xs.map fun o => pairD (keyI o.it)) → Q (.ref D) G) : tLockE (tLc (Wp.iOwnV C n K (spBIter K C) (tVar j)) (gName i) tYes (tProp CI (spItRef K CI) [] C8.E0 (tVar i)) [i]) σ H Q := by
  obtain ⟨dx, hb⟩ := hB.hb
  have hd := hB.hi
  have nb : X.b ≠ X.di := ne_kind hb hd fun z => by cases z
  refine ⟨X.di, .dT (iV X.xs), hd, trivial, fun od => w_lc (w_var hj ⟨X.b, dx, _, rfl, (by rw [upd_ne nb]; exact hb), fun z hz => ⟨X.b, dx, X.di, X.ln, B.title, strV B.founder, od, iV X.xs, rfl, (by rw [upd_ne nb]; exact hb), upd_same, fun H1 it s1 hit hn => ⟨it, X.di, od, iV X.xs, rfl, upd_same, Nat.le_trans hz hn, ?_⟩⟩⟩)⟩
  rw [ItX.dropH_upd hit]
  intro D hD
  have k1 : But X.di H H1 := But.lock.same s1
  have ed1 := s1 _ _ (upd_same (H := H) (a := X.di) (o := .frz od (.dT (iV X.xs))))
  have nDd : D ≠ X.di := fun z => by rw [z, ed1] at hD; cases hD
  have D0 : H D = none := by
    have := same_none s1 hD
    rw [upd_ne nDd] at this
    exact this
  have sD : Same H1 (upd H1 D (.lst [])) := Same.upd (Same.refl H1) hD
  refine lc_it walk_vals (fun k G => But X.di H G ∧ G X.di = some (.frz od (.dT (iV X.xs))) ∧ ∃ ts, G D = some (.lst ts) ∧ ts.length ≤ k ∧ DnAll Any G ts ((X.xs.take k).map fun o => pairD (keyI o.it))) ⟨k1.same sD, sD _ _ ed1, [], upd_same, Nat.le_refl _, .nil⟩ (fun k G _ e => e.2.1) ?_ ?_
  · rintro k x Gz G hk ⟨kx, ed, ts, eD, hts, dts⟩ ⟨rfl, ky, ekv⟩
    rw [List.getElem?_map] at ekv
    obtain ⟨o, ho, e2⟩ := Option.map_eq_some_iff.mp ekv
    injection e2 with ek ev
    subst ev
    have hk' : k < X.xs.length := (List.getElem?_eq_some_iff.mp ho).1
    have hio := kx.io hd (hB.ho o (List.mem_of_getElem? ho))
    obtain ⟨dx2, t2, pv2, hx2, ht2, _⟩ := id hio.hx
    have et : X.xs.take (k + 1) = X.xs.take k ++ [o] := by rw [List.take_add_one, ho]; rfl
    refine w_name ⟨hw _, w_yes (iteT_ (w_propV (hi _) hx2 ⟨o, rfl, hio, fun t ht => ⟨ts, eD, ?_, fun b u nb e => ?_, ?_, _, upd_same, ?_, ?_⟩⟩))⟩
    · exact Nat.lt_of_le_of_lt (show ts.length ≤ 1000 by omega) (by decide)
    · rw [upd_ne (ne_of_none e D0)]
      exact kx b u nb e
    · rw [upd_ne nDd.symm]
      exact ed
    · rw [List.length_append, List.length_singleton]
      omega
    · have tk : Tk G (upd G D (.lst (ts ++ [V.ref t]))) := Tk.kpL Kp.refl.updp eD
      rw [et, List.map_append]
      refine DnAll.app (dnall_tk tk (by rw [show (X.xs.take k).map (fun o => pairD (keyI o.it)) = ((X.xs.take k).map fun o => keyI o.it).map pairD by rw [List.map_map]; rfl]; exact plain_refs _) dts) (.cons (.tup trivial (first_tk tk ht) (.cons (.str _) (.cons (.int _) .nil))) .nil)
  · rintro G ⟨kx, ed, ts, eD, hts, dts⟩
    rw [List.length_map, List.take_length] at dts
    refine ⟨ed, q D ts _ D0 (kx.unlock hd) (by rw [upd_ne nDd]; exact eD) ?_⟩
    rw [show X.xs.map (fun o => pairD (keyI o.it)) = (X.xs.map fun o => keyI o.it).map pairD by rw [List.map_map]; rfl] at dts ⊢
    exact dnall_tk (tk_unfrz ed fun xs z => by cases z) (plain_refs _) dts
/-- [item for item in board], the board's dict locked -/
theorem lc_ownAll {i j : Nat} {b dx di ln : Addr} {tl : Str} {fv : V} {od : Obj} {kvs : List (List L2.Key × V)} (hj : σ[j]? = some (some (.ref b))) (hb : H b = some (.ins C dx (boF tl fv di ln))) (hd : H di = some (.frz od (.dT kvs))) (hl : kvs.length ≤ 1000) (hw : ∀ x, wipe ((wipe σ [i]).set i (some x)) [i] = wipe σ [i]) (hi : ∀ x, ((wipe σ [i]).set i (some x))[i]? = some (some x))
    (q : ∀ D G, H D = none → Same H G → G D = some (.lst (kvs.map (·.2))) → Q (.ref D) G) : tLc (Wp.iOwnV C n K (spBIter K C) (tVar j)) (gName i) tYes (tVar i) [i] σ H Q := by
  refine w_lc (w_var hj ⟨b, dx, _, rfl, hb, fun z hz => ⟨b, dx, di, ln, tl, fv, od, kvs, rfl, hb, hd, fun H1 it s1 hit hn => ⟨it, di, od, kvs, rfl, upd_same, Nat.le_trans hz hn, ?_⟩⟩⟩)
  rw [ItX.dropH_upd hit]
  intro D hD
  have D0 := same_none s1 hD
  have sD : Same H1 (upd H1 D (.lst [])) := Same.upd (Same.refl H1) hD
  refine lc_it walk_vals (fun k G => Same H G ∧ G D = some (.lst ((kvs.take k).map (·.2)))) ⟨s1.trans sD, upd_same⟩ (fun k G _ e => e.1 _ _ hd) ?_ ?_
  · rintro k x Gz G hk ⟨s, eD⟩ ⟨rfl, ky, ekv⟩
    have hk' : k < kvs.length := (List.getElem?_eq_some_iff.mp ekv).1
    have et : kvs.take (k + 1) = kvs.take k ++ [(ky, x)] := by rw [List.take_add_one, ekv]; rfl
    refine w_name ⟨hw _, w_yes (iteT_ (w_var (hi _) ⟨_, eD, ?_, fun c u e => ?_, ?_⟩))⟩
    · refine Nat.lt_of_le_of_lt (show _ ≤ 1000 from ?_) (by decide)
      rw [List.length_map, List.length_take]
      omega
    · rw [upd_ne (ne_of_none e D0)]
      exact s c u e
    · rw [upd_same, et, List.map_append]
      rfl
  · rintro G ⟨s, eD⟩
    rw [List.take_length] at eD
    exact q D G D0 s eD
/-- [ref for ref in d], d's keys refs -/
theorem lc_keysRef {i j : Nat} {d : Addr} {l : List ((Str × Int) × V)} (hj : σ[j]? = some (some (.ref d))) (hd : H d = some (.dT (l.map fun z => (iK z.1, z.2)))) (hl : l.length ≤ 1000) (hw : ∀ x, wipe ((wipe σ [i]).set i (some x)) [i] = wipe σ [i]) (hi : ∀ x, ((wipe σ [i]).set i (some x))[i]? = some (some x))
    (q : ∀ D ts G, H D = none → Same H G → G D = some (.lst ts) → DnAll Any G ts (l.map fun z => pairD z.1) → Q (.ref D) G) : tLockE (tLc (iKeys (tVar j)) (gName i) tYes (tVar i) [i]) σ H Q := by
  refine ⟨d, .dT (l.map fun z => (iK z.1, z.2)), hd, trivial, fun od => w_lc (w_var hj ⟨d, od, rfl, .inr ⟨_, upd_same, fun D hD => ?_⟩⟩)⟩
  have nDd : D ≠ d := fun z => by rw [z, upd_same] at hD; cases hD
  have D0 : H D = none := by rw [upd_ne nDd] at hD; exact hD
  have pl : ∀ k, plainAll ((l.take k).map fun z => pairD z.1) = true := fun k => by
    rw [show (l.take k).map (fun z => pairD z.1) = ((l.take k).map fun z => z.1).map pairD by rw [List.map_map]; rfl]
    exact plain_refs _
  refine lc_it walk_keysT (fun k G => But d H G ∧ G d = some (.frz od (.dT (l.map fun z => (iK z.1, z.2)))) ∧ ∃ ts, G D = some (.lst ts) ∧ ts.length ≤ k ∧ DnAll Any G ts ((l.take k).map fun z => pairD z.1)) ⟨fun b o n e => by rw [upd_ne (ne_of_none e D0), upd_ne n]; exact e, by rw [upd_ne nDd.symm, upd_same], [], upd_same, Nat.le_refl _, .nil⟩ (fun k G _ e => e.2.1) ?_ ?_
  · rintro k x Gz G hk ⟨kx, ed, ts, eD, hts, dts⟩ ⟨rfl, ky, v, p, ekv, rfl, hp⟩
    rw [List.getElem?_map] at ekv
    obtain ⟨z, hz, e2⟩ := Option.map_eq_some_iff.mp ekv
    injection e2 with ek ev
    subst ek
    have hk' : k < l.length := (List.getElem?_eq_some_iff.mp hz).1
    have et : l.take (k + 1) = l.take k ++ [z] := by rw [List.take_add_one, hz]; rfl
    refine w_name ⟨hw _, w_yes (iteT_ (w_var (hi _) ⟨ts, eD, ?_, fun b u nb e => ?_, ?_, _, upd_same, ?_, ?_⟩))⟩
    · exact Nat.lt_of_le_of_lt (show ts.length ≤ 1000 by omega) (by decide)
    · rw [upd_ne (ne_of_none e D0)]
      exact kx b u nb e
    · rw [upd_ne nDd.symm]
      exact ed
    · rw [List.length_append, List.length_singleton]
      omega
    · have tk : Tk G (upd G D (.lst (ts ++ [V.ref p]))) := Tk.kpL Kp.refl.updp eD
      rw [et, List.map_append]
      exact DnAll.app (dnall_tk tk (pl k) dts) (.cons (.tup trivial (first_tk tk hp) (.cons (.str _) (.cons (.int _) .nil))) .nil)
  · rintro G ⟨kx, ed, ts, eD, hts, dts⟩
    rw [List.length_map, List.take_length] at dts
    refine ⟨ed, q D ts _ D0 (kx.unlock hd) (by rw [upd_ne nDd]; exact eD) ?_⟩
    have := pl l.length
    rw [List.take_length] at this
    exact dnall_tk (tk_unfrz ed fun xs z => by cases z) this dts
end

/-! ### a founding letter among the letters of a board: any founder, any title -/
def bodyG (t : Str) : PyData := .tuple [.str (Str.ofString "found"), .str t, .tuple [.str (Str.ofString "anna")]]
def ltG (f t : Str) : Lt := ⟨f, 1, 1, [(f, 1)], bodyG t⟩
theorem bodyG_ok {t : Str} (h : ascii t = true) : BodyOk (bodyG t) := ⟨lay3 (k := 2) (lay_str (ascii_of _)) (lay_str h) (lay_tup (k := 1) fun d hd => by rw [List.mem_singleton.mp hd]; exact lay_str (ascii_of _)), rfl, ⟨_, _, rfl, .inr (.inr ⟨by decide, by decide⟩)⟩, ⟨.found _ _, rfl⟩⟩
theorem ltG_wf {f t : Str} (hf : ascii f = true) (h : ascii t = true) : Wf (ltG f t) := ⟨Int.le_refl 1, List.nodup_cons.mpr ⟨(fun z => nomatch z), List.nodup_nil⟩, (show 1 ≤ 100 by decide), hf, fun p hp => by rw [List.mem_singleton.mp hp]; exact hf, (bodyG_ok h).lay, rfl⟩
section
variable {K : PySem.W.Frag} {C CL : Addr} {vs : List V} {H : Hp} {Q : VK} {E : XK} {σ : L2.St} {D : Ends}
/-- letters.insert(at, the founding letter) -/
theorem found_insG {i j jf jt : Nat} {f t : Str} {pl : Addr} {ls : List (Addr × Lt)} {n : Nat} (hf : ascii f = true) (ht : ascii t = true) (hi : σ[i]? = some (some (.ref pl))) (hj : σ[j]? = some (some (.int (n : Int)))) (hjf : σ[jf]? = some (some (.str f))) (hjt : σ[jt]? = some (some (.str t))) (hpl : H pl = some (.lst (lsV ls))) (ok : LsOk Any CL H ls) (hbd : ∀ y ∈ ls, BodyOk y.2.b) (hl : ls.length ≤ 90) (hn : n ≤ ls.length)
    (q : ∀ LS H', H' pl = some (.lst (lsV LS)) → LsOk Any CL H' LS → (∀ y ∈ LS, BodyOk y.2.b) → LS.length = ls.length + 1 → (∀ y ∈ LS, y ∈ ls ∨ y.2 = ltG f t) → Kp pl H H' → D.nx σ H') :
    tDrop (tBM K "list" Wp.qInsert (tVar i) (tCons (tVar j) (tCons (tMake CL (spInit K CL) [] C8.E0 (tCons (tVar jf) (tCons (tC (.int 1)) (tCons (tC (.int 1)) (tCons (tTup (tCons (tTup (tCons (tVar jf) (tCons (tC (.int 1)) tNil))) tNil)) (tCons (tTup (tCons (tC (.str "found")) (tCons (tVar jt) (tCons (tTup (tCons (tC (.str "anna")) tNil)) tNil)))) tNil)))))) tNil))) D σ H := by
  refine w_drop (w_bm (w_var hi (w_tyL hpl (w_cons (w_var hj (w_cons (w_make (w_cons (w_var hjf (w_cons (w_c (w_cons (w_c (w_cons (w_tupV (w_cons (w_tupV (w_cons (w_var hjf (w_cons (w_c (w_nil ⟨sz (by simp), w_new fun t5 G5 _ s5 e5 => w_nil ⟨sz (by simp), w_new fun t6 G6 _ s6 e6 => ?_⟩⟩))))))))))))))))))))))
  refine w_cons (w_tupV (w_cons (w_c (w_cons (w_var hjt (w_cons (w_tupV (w_cons (w_c (w_nil ⟨sz (by simp), w_new fun t7 G7 _ s7 e7 => w_nil ⟨sz (by simp), w_new fun t8 G8 _ s8 e8 => w_nil fun x dx hx hdx ndx => ?_⟩⟩)))))))))) 
  have dS : Dn Any G8 (.ref t6) (seenD (ltG f t).ps) := .tup trivial (s8 _ _ (s7 _ _ e6)) (.cons (.tup trivial (s8 _ _ (s7 _ _ (s6 _ _ e5))) (.cons (.str _) (.cons (.int _) .nil))) .nil)
  have dB : Dn Any G8 (.ref t8) (bodyG t) := .tup trivial e8 (.cons (.str _) (.cons (.str _) (.cons (.tup trivial (s8 _ _ e7) (.cons (.str _) .nil)) .nil)))
  refine ⟨x, dx, f, 1, 1, (ltG f t).ps, .ref t6, .ref t8, rfl, upd_same, dn_made2 dS hx hdx _, (ltG_wf hf ht).nd, by show 1 ≤ 1000; decide, fun G9 dd hd k9 e9 ed => ⟨rfl, ?_⟩⟩
  have s9 : Same G8 G9 := same_made2 hx hdx k9
  have s49 := (((s5.trans s6).trans s7).trans s8).trans s9
  have aF : LtAt Any CL G9 x (ltG f t) := ⟨dx, dd, .ref t6, .ref t8, e9, trivial, ed, dS.same s9, dB.same s9⟩
  have hpl9 := s49 _ _ hpl
  refine w_nil ⟨pl, lsV ls, (n : Int), .ref x, rfl, rfl, hpl9, by rw [lsV_len]; exact Nat.lt_of_le_of_lt hl (by decide), by omega, by omega, ?_⟩
  have kI : Kp pl G9 (upd G9 pl (.lst ((lsV ls).take (n : Int).toNat ++ [V.ref x] ++ (lsV ls).drop (n : Int).toNat))) := Kp.refl.updp
  have eI : upd G9 pl (.lst ((lsV ls).take (n : Int).toNat ++ [V.ref x] ++ (lsV ls).drop (n : Int).toNat)) pl = some (.lst (lsV (ls.take n ++ [(x, ltG f t)] ++ ls.drop n))) := by
    rw [upd_same, lsV_app, lsV_app, Int.toNat_natCast, lsV_take, lsV_drop]
    rfl
  generalize upd G9 pl (.lst ((lsV ls).take (n : Int).toNat ++ [V.ref x] ++ (lsV ls).drop (n : Int).toNat)) = G10 at kI eI
  have f10 := Fm.kpL (ok := Any) kI hpl9
  refine q _ G10 eI (LsOk.fm (fun y hy => ?_) f10) (fun y hy => ?_) ?_ (fun y hy => ?_) ((Same.kp s49).trans kI)
  · rcases List.mem_append.mp hy with hy | hy
    · rcases List.mem_append.mp hy with hy | hy
      · exact (ok.same s49) y (List.mem_of_mem_take hy)
      · rw [List.mem_singleton.mp hy]
        exact ⟨aF, ltG_wf hf ht⟩
    · exact (ok.same s49) y (List.mem_of_mem_drop hy)
  · rcases List.mem_append.mp hy with hy | hy
    · rcases List.mem_append.mp hy with hy | hy
      · exact hbd y (List.mem_of_mem_take hy)
      · rw [List.mem_singleton.mp hy]
        exact bodyG_ok ht
    · exact hbd y (List.mem_of_mem_drop hy)
  · rw [List.length_append, List.length_append, List.length_take, List.length_drop, List.length_singleton]
    omega
  · rcases List.mem_append.mp hy with hy | hy
    · rcases List.mem_append.mp hy with hy | hy
      · exact .inl (List.mem_of_mem_take hy)
      · rw [List.mem_singleton.mp hy]
        exact .inr rfl
    · exact .inl (List.mem_of_mem_drop hy)
end

/-! ### items may be laid -/
def yvesS : Str := Str.ofString "yves"
def ParLay (i : It) : Prop := Lay 0 (.str i.a) ∧ (∀ q, i.par = some q → Lay 0 (.str q.1)) ∧ i.a ≠ yvesS
theorem step_par {L : Lt} {b : Bb} {i : It} (h : ParLay i) : ParLay (stepI L b i) := by
  cases b with
  | mark a k w => unfold stepI; dsimp only; split <;> exact h
  | edit a k t =>
    unfold stepI
    dsimp only
    split
    · exact h
    · split <;> exact h
  | recall a k =>
    unfold stepI
    dsimp only
    split
    · exact h
    · split <;> exact h
  | say t => exact h
  | reply a k t => exact h
  | title t => exact h
  | seen => exact h
  | found t ds => exact h
  | act k nm e => exact h
def BLay (B : Bo) : Prop := (∀ i ∈ B.its, ParLay i) ∧ ∀ f, B.founder = some f → Lay 0 (.str f)
theorem show_par {B : Bo} {L : Lt} {b : Bb} (hn : Lay 0 (.str L.a)) (hy : L.a ≠ yvesS) (hb : Lay 3 b.toD) (h : BLay B) : BLay (showB B L b) := by
  have put : ∀ t p, (∀ q, p = some q → Lay 0 (.str q.1)) → ∀ i ∈ putI (newI L t p) B.its, ParLay i := fun t p hp i hi => by
    unfold putI at hi
    split at hi
    · exact (chg_mem hi).elim (h.1 i) fun ⟨j, hj, e⟩ => e ▸ ⟨hn, hp, hy⟩
    · rcases List.mem_append.mp hi with hi | hi
      · exact h.1 i hi
      · rw [List.mem_singleton.mp hi]
        exact ⟨hn, hp, hy⟩
  have chg : ∀ k, ∀ i ∈ chgF k (stepI L b) B.its, ParLay i := fun k i hi => (chg_mem hi).elim (h.1 i) fun ⟨j, hj, e⟩ => e ▸ step_par (h.1 j hj)
  cases b with
  | say t => exact ⟨put _ _ (fun q z => nomatch z), h.2⟩
  | reply a k t =>
    refine ⟨put _ _ fun q e => ?_, h.2⟩
    have h2 : (PyData.tuple [.str (Str.ofString "reply"), .tuple [.str a, .int k], .str t]).canLay0 = true := hb.1
    rw [PyData.canLay0, PyData.canLayAll0, PyData.canLayAll0, Bool.and_eq_true, Bool.and_eq_true] at h2
    have h3 := h2.2.1
    rw [PyData.canLay0, PyData.canLayAll0, Bool.and_eq_true] at h3
    unfold parI at e
    dsimp only at e
    split at e
    · cases e
      exact ⟨h3.1, Nat.zero_le _⟩
    · cases e
  | edit a k t => exact ⟨chg _, h.2⟩
  | recall a k => exact ⟨chg _, h.2⟩
  | mark a k w => exact ⟨chg _, h.2⟩
  | title t => exact h
  | seen => exact h
  | found t ds => exact ⟨h.1, fun f e => by cases e; exact hn⟩
  | act k nm e => exact h
theorem fold_par : ∀ (ls : List Lt) (B : Bo), (∀ L ∈ ls, Lay 0 (.str L.a) ∧ BodyOk L.b ∧ L.a ≠ yvesS) → BLay B → BLay (ls.foldl (fun B L => showB B L (bbOf L.b)) B)
  | [], _, _, h => h
  | L :: r, B, hn, h => fold_par r _ (fun x hx => hn x (List.mem_cons_of_mem _ hx)) (show_par (hn L (List.mem_cons_self ..)).1 (hn L (List.mem_cons_self ..)).2.2 (by rw [← bbOf_toD (hn L (List.mem_cons_self ..)).2.1]; exact (hn L (List.mem_cons_self ..)).2.1.lay) h)
theorem board_par {ls : List Lt} (h : ∀ L ∈ ls, Lay 0 (.str L.a) ∧ BodyOk L.b ∧ L.a ≠ yvesS) : BLay (boardD ls) := fold_par ls bo0 h ⟨(fun i hi => nomatch hi), fun f z => nomatch z⟩
def parD : Option (Str × Int) → PyData
  | none => .none
  | some q => pairD q
theorem par_dn {H : Hp} {pv : V} {p : Option (Str × Int)} (h : ParAt H pv p) : Dn Any H pv (parD p) := by
  rcases h with ⟨rfl, rfl⟩ | ⟨t, q, rfl, rfl, e⟩
  · exact .non
  · exact .tup trivial e (.cons (.str _) (.cons (.int _) .nil))
theorem lay_pair {q : Str × Int} (h : Lay 0 (.str q.1)) : Lay 1 (pairD q) := lay2 (k := 0) h lay_int
theorem par_sh {p : Option (Str × Int)} (h : ∀ q, p = some q → Lay 0 (.str q.1)) : SeqAt.shaped (parD p) = true := by
  cases p with
  | none => rfl
  | some q => exact (lay_pair (h q rfl)).shaped
def spLItem (K : PySem.W.Frag) (CI : Addr) : Sp := fun vs H Q _ => ∃ (o : Io) (m : Mo) (t : Addr), vs = [.ref o.x, .ref t, .ref m.l] ∧ IoAt CI H o ∧ MoAt H m ∧ H t = some (.tup [.str o.it.a, .int o.it.n]) ∧ o.it = m.it ∧ ParLay o.it ∧ Q (.bl true) H
def spBUnk (K : PySem.W.Frag) (CI C : Addr) : Sp := fun vs H Q _ => ∃ (X : Bx) (B : Bo) (t : Addr) (k : Str × Int), vs = [.ref X.b, .ref t] ∧ BoAt C CI H X B ∧ H t = some (.tup [.str k.1, .int k.2]) ∧ hasX X k = false ∧ Q (.bl true) H
section
variable {K : PySem.W.Frag} {C CL CI CR CU : Addr} {vs : List V} {H : Hp} {Q : VK} {E : XK} {σ : L2.St} {D : Ends} {n0 : Nat}
/-- _law_item: slots 0:item 1:ref 2:due -/
def t__law_item (K : PySem.W.Frag) (C_Item : Addr) : TS := (tSeq (tIfS (tOr (tTest (tOp (rNeD K) (tProp C_Item (spItRef K C_Item) [] C8.E0 (tVar 0)) (tVar 1))) (tOr (tTest (tOp rNe (tFld K (tVar 0) "author") (tOp (rIxT K) (tVar 1) (tC (.int 0))))) (tOr (tTest (tOp rNe (tFld K (tVar 0) "text") (tOp (rIxL K) (tVar 2) (tC (.int 0))))) (tTest (tOp (rNeD K) (tFld K (tVar 0) "parent") (tOp (rIxL K) (tVar 2) (tC (.int 1)))))))) (tRet (tC (.bl false))) tNext)
  (tRet (tAndV (tCall (spIs K) [] C8.E0 (tCons (tFld K (tVar 0) "edits") (tCons (tOp (rIxL K) (tVar 2) (tC (.int 2))) tNil))) (tCall (spFlag K) [] C8.E0 (tCons (tFld K (tVar 0) "recalled") (tCons (tOp (rIxL K) (tVar 2) (tC (.int 3))) tNil))))))
theorem l__law_item (h : spLItem K CI vs H Q E) : vs.length = 3 := by obtain ⟨o, m, t, rfl, _⟩ := h; rfl
theorem r__law_item (LCI : IsC_Item K CI) (h : spLItem K CI vs H Q E) : t__law_item K CI { nx := fun _ H' => Q .non H', rt := Q } (start ["item", "ref", "due"] vs) H := by
  obtain ⟨o, m, t, rfl, ho, hm, ht, e, hl, q⟩ := h
  obtain ⟨dx, t2, pv, hx, ht2, hp⟩ := id ho.hx
  obtain ⟨pv2, hml, hp2⟩ := id hm.hl
  rw [← e] at hml hp2
  unfold t__law_item
  have sh := (lay_pair (q := (o.it.a, o.it.n)) hl.1).shaped
  refine w_seq (w_ifS (w_or (w_test (w_op (w_propV rfl hx ⟨o, rfl, ho, fun t' ht' => w_var rfl (w_neDs (ok := Any) (ok2 := Any) (.tup trivial ht' (.cons (.str _) (.cons (.int _) .nil))) (.tup trivial ht (.cons (.str _) (.cons (.int _) .nil))) sh (w_exb (ite_f (by decide) ?_)))⟩)))))
  refine w_or (w_test (w_op (w_fldV rfl hx LCI.cl LCI.n_author rfl (w_op (w_var rfl (w_c (w_ixT (SqT.of ht) (atI_nat (j := 0) rfl) (w_neS (w_exb (ite_f (by simp) ?_))))))))))
  refine w_or (w_test (w_op (w_fldV rfl hx LCI.cl LCI.n_text rfl (w_op (w_var rfl (w_c (w_ixL (SqL.of hml) (atI_nat (j := 0) rfl) (w_neS (w_exb (ite_f (by simp) ?_))))))))))
  refine w_test (w_op (w_fldV rfl hx LCI.cl LCI.n_parent rfl (w_op (w_var rfl (w_c (w_ixL (SqL.of hml) (atI_nat (j := 1) rfl) (w_neDs (ok := Any) (ok2 := Any) (par_dn hp) (par_dn hp2) (par_sh hl.2.1) (w_exb (ite_f (by decide) (w_next ?_))))))))))
  refine w_ret (w_andV (w_call (w_cons (w_fldV rfl hx LCI.cl LCI.n_edits rfl (w_cons (w_op (w_var rfl (w_c (w_ixL (SqL.of hml) (atI_nat (j := 2) rfl) (w_nil ⟨_, _, rfl, _, rfl, ?_⟩))))))))))
  refine ite_t (decide_eq_true rfl) (w_call (w_cons (w_fldV rfl hx LCI.cl LCI.n_recalled rfl (w_cons (w_op (w_var rfl (w_c (w_ixL (SqL.of hml) (atI_nat (j := 3) rfl) (w_nil ⟨_, _, rfl, ?_⟩)))))))) )
  rw [decide_eq_true rfl]
  exact q
/-- _law_unknown: slots 0:board 1:ref 2:e -/
def t__law_unknown (K : PySem.W.Frag) (C_Board : Addr) (C_Item : Addr) (C_RoomError : Addr) (C_Unknown : Addr) : TS := (tSeq (tTryAs K C_Unknown 2 (fun (a : Addr) (cls : Value) (d : Option Addr) (D : Ends) (σ : L2.St) (H : Hp) => (cls = Value.ref C_Unknown ∧ d = none) ∧ (tRet (tAndV (tCB (rIsE K C_Unknown a) (tCons (tVar 2) (tCons (tC (.ref C_RoomError)) tNil))) (tCB (rIsE K C_Unknown a) (tCons (tVar 2) (tCons (tC (.ty "ValueError")) tNil))))) D σ H) (fun W => (tDrop (Wp.tMethX C_Board "item" (spBItemX K C_Item C_Board C_Unknown) (WE W) (tVar 0) (tCons (tVar 1) tNil)))))
  (tRet (tC (.bl false))))
theorem l__law_unknown (h : spBUnk K CI C vs H Q E) : vs.length = 2 := by obtain ⟨X, B, t, k, rfl, _⟩ := h; rfl
theorem r__law_unknown (LC : IsC_Board K C) (LCI : IsC_Item K CI) (XF : ExFacts K CR CU) (h : spBUnk K CI C vs H Q E) : t__law_unknown K C CI CR CU { nx := fun _ H' => Q .non H', rt := Q } (start ["board", "ref", "e"] vs) H := by
  obtain ⟨X, B, t, k, rfl, hB, ht, hk, q⟩ := h
  obtain ⟨dx, hb⟩ := hB.hb
  unfold t__law_unknown
  refine w_seq ?_
  refine w_drop (w_methX rfl hb rfl (w_cons (w_var rfl (w_nil ⟨X, B, t, k, rfl, hB, ht, fun o ho ek => ?_, fun _ => ⟨true, XF.hit, fun _ e he => ⟨⟨rfl, rfl⟩, ?_⟩, nofun⟩⟩))))
  · unfold hasX hasI at hk
    rw [List.any_eq_false] at hk
    exact absurd (decide_eq_true ek) (hk o.it (List.mem_map_of_mem ho))
  · walk_at "v"
    refine ⟨.ref CR, .ref CR, true, rfl, fun u h => h, XF.up, ?_⟩
    walk_at "v"
    refine ⟨.ty "ValueError", .type "ValueError", true, rfl, fun u h => h, XF.val, ?_⟩
    walk_at "v"
    exact q
end

/-! ### the refs of letters in a list -/
def refP (y : Addr × Lt) : PyData := .tuple [.str y.2.a, .int y.2.n]
theorem lay_refs {ls : List (Addr × Lt)} (h : ∀ y ∈ ls, Wf y.2) : SeqAt.shaped (.list (ls.map refP)) = true := (lay_list (k := 1) fun d hd => by
  obtain ⟨y, hy, rfl⟩ := List.mem_map.mp hd
  exact lay2 (k := 0) (lay_str (h y hy).aa) lay_int).shaped
section
variable {K : PySem.W.Frag} {CL : Addr} {H : Hp} {σ : L2.St} {tt : TT}
theorem lcRefs {ws : List Nat} {Qd : Addr → Hp → Prop} {a : Addr} {ls : List (Addr × Lt)} {i : Nat} (p : Addr × Lt → Bool) (ha : H a = some (.lst (lsV ls))) (hok : LsOk Any CL H ls) (hl : ls.length ≤ 1000) (hw : ∀ x, wipe ((wipe σ ws).set i (some x)) ws = wipe σ ws) (hi : ∀ x, ((wipe σ ws).set i (some x))[i]? = some (some x))
    (ht : ∀ y ∈ ls, ∀ H1, Same H H1 → ∀ R : Bool → Hp → Prop, (∀ H2, Same H1 H2 → R (p y) H2) → tt ((wipe σ ws).set i (some (.ref y.1))) H1 R)
    (q : ∀ D ts H1, H D = none → Same H H1 → H1 D = some (.lst ts) → DnAll Any H1 ts ((ls.filter p).map refP) → Qd D H1) :
    ∀ D, H D = none → ∃ W : Nat → Nat → Hp → Prop, (∃ m, W 0 m (upd H D (.lst []))) ∧ ∀ i' m H, W i' m H →
  ((Itl K a).stop i' H ∧ Qd D H) ∨ ((Itl K a).go i' H ∧ ∃ Nx : Hp → Prop, (∀ H', Nx H' → ∃ m', m' < m ∧ W (i' + 1) m' H') ∧ ∀ x H', (Itl K a).yld i' H x H' → gName i x (wipe σ ws) H' fun σ2 H2 => wipe σ2 ws = wipe σ ws ∧ tt σ2 H2 fun b H3 =>
    if b = true then tProp CL (spRefP K CL) [] C8.E0 (tVar i) σ2 H3 fun y H4 => ∃ acc, H4 D = some (.lst acc) ∧ acc.length < sizeLine ∧ Nx (upd H4 D (.lst (acc ++ [y]))) else Nx H3) := by
  intro D hD
  refine lc_it (walk_list (xs := lsV ls)) (fun k G => Same H G ∧ ∃ ts, G D = some (.lst ts) ∧ ts.length ≤ k ∧ DnAll Any G ts (((ls.take k).filter p).map refP)) ⟨Same.upd (Same.refl H) hD, [], upd_same, Nat.le_refl _, .nil⟩ (fun k G _ s => SqL.of (s.1 _ _ ha)) ?_ ?_
  · rintro k x G G' hk ⟨s, ts, eD, hts, dts⟩ ⟨rfl, hx⟩
    rw [List.getElem?_map] at hx
    obtain ⟨y, hy, rfl⟩ := Option.map_eq_some_iff.mp hx
    have hy' := hok.get hy
    obtain ⟨dx, d, sv, bv, hyx, _⟩ := id hy'.1
    rw [lsV_len] at hk
    have et : ls.take (k + 1) = ls.take k ++ [y] := by rw [List.take_add_one, hy]; rfl
    refine w_name ⟨hw _, ht y (List.mem_of_getElem? hy) _ s _ fun H2 s2 => ?_⟩
    cases hp : p y with
    | true =>
      refine ite_t rfl (w_propV (hi _) (s2 _ _ (s _ _ hyx)) ⟨y.1, y.2, rfl, hy'.1.same (s.trans s2), fun t G2 _ s3 e3 => ⟨ts, s3 _ _ (s2 _ _ eD), ?_, ?_, _, upd_same, ?_, ?_⟩⟩)
      · exact Nat.lt_of_le_of_lt (show ts.length ≤ 1000 by omega) (by decide)
      · exact fun b o e2 => by
          rw [upd_ne (ne_of_none e2 hD)]
          exact s3 _ _ (s2 _ _ (s _ _ e2))
      · rw [List.length_append, List.length_singleton]
        omega
      · have tk : Tk G2 (upd G2 D (.lst (ts ++ [V.ref t]))) := Tk.kpL Kp.refl.updp (s3 _ _ (s2 _ _ eD))
        rw [et, List.filter_append, List.filter_cons_of_pos hp, List.filter_nil, List.map_append]
        refine DnAll.app (dnall_tk tk (plainAll_of fun d hd => ?_) ((dts.same s2).same s3)) (.cons (.tup trivial (tk _ _ e3) (.cons (.str _) (.cons (.int _) .nil))) .nil)
        obtain ⟨o, _, rfl⟩ := List.mem_map.mp hd
        rfl
    | false =>
      refine ite_f (by decide) ⟨s.trans s2, ts, s2 _ _ eD, by omega, ?_⟩
      rw [et, List.filter_append, List.filter_cons_of_neg (by simp [hp]), List.filter_nil, List.append_nil]
      exact dts.same s2
  · rintro G ⟨s, ts, eD, hts, dts⟩
    rw [lsV_len, List.take_length] at dts
    exact q D ts G hD s eD dts
end

/-! ### the law on items of a board -/
def spLaw (K : PySem.W.Frag) : Sp := fun vs H Q _ => ∃ (a : Addr) (ns : List Int), vs = [.ref a] ∧ SqL K H a (ns.map V.int) ∧ ns.length ≤ 63 ∧ ∀ H', Q (.bl true) H'
theorem get_title (t : Str) (f : Option Str) (di ln : Addr) : valV (mdV t f di ln) (Sum.inr (Str.ofString "title")) = some (.str t) := by rfl
theorem get_founder (t : Str) (f : Option Str) (di ln : Addr) : valV (mdV t f di ln) (Sum.inr (Str.ofString "founder")) = some (strV f) := by rfl
def fD : Option Str → PyData
  | none => .none
  | some z => .str z
theorem f_dn {H : Hp} (f : Option Str) : Dn Any H (strV f) (fD f) := by
  cases f with
  | none => exact .non
  | some z => exact .str z
theorem f_sh {f : Option Str} (h : ∀ z, f = some z → Lay 0 (.str z)) : SeqAt.shaped (fD f) = true := by
  cases f with
  | none => rfl
  | some z => exact (h z rfl).shaped
theorem BoAt.live {C CI : Addr} {H : Hp} {X : Bx} {B : Bo} (h : BoAt C CI H X B) {b : Addr} (hb : b ∈ bp X) : ∃ u, H b = some u := by
  obtain ⟨dx, e⟩ := h.hb
  obtain ⟨ts, e1, _⟩ := h.hn
  rcases List.mem_cons.mp hb with rfl | hb
  · exact ⟨_, e⟩
  · rcases List.mem_cons.mp hb with rfl | hb
    · exact ⟨_, h.hi⟩
    · rcases List.mem_cons.mp hb with rfl | hb
      · exact ⟨_, e1⟩
      · obtain ⟨o, ho, hb⟩ := List.mem_flatMap.mp hb
        obtain ⟨u, e, _⟩ := (h.ho o ho).mem hb
        exact ⟨u, e⟩
theorem mo_offT {H : Hp} {o : Mo} {d : Addr} {kvs : List (List L2.Key × V)} (h : MoAt H o) (hd : H d = some (.dT kvs)) : ∀ b ∈ fpm o, b ≠ d := by
  intro b hb z
  subst z
  rcases List.mem_cons.mp hb with hb | hb
  · obtain ⟨pv, e', _⟩ := h.hl
    rw [← hb, hd] at e'
    cases e'
  · rcases List.mem_cons.mp hb with hb | hb
    · have := h.hd
      rw [← hb, hd] at this
      cases this
    · obtain ⟨m, hm, hb⟩ := List.mem_map.mp hb
      have := h.hm m hm
      rw [hb, hd] at this
      cases this
theorem But.mo {d : Addr} {H G : Hp} {o : Mo} {kvs : List (List L2.Key × V)} (k : But d H G) (hd : H d = some (.dT kvs)) (h : MoAt H o) : MoAt G o :=
  h.kpP (S := (· = d)) k (mo_offT h hd) (by
    first
    | exact fun b xs e => k _ _ (ne_kind e hd fun z => by cases z) e)
theorem mo_get {H : Hp} {Y : Md} {B : Bo} (h : MdAt H Y B) {m : Mo} (hm : m ∈ Y.xs) : valV (jV Y.xs) (iK (keyI m.it)) = some (.ref m.l) := by
  rcases find_mo Y.xs (keyI m.it) with ⟨_, _, hno⟩ | ⟨l1, p1, r1, e, hk, hl, hv, _⟩
  · exact absurd rfl (hno m hm)
  · have : p1 = m := by
      have kd := h.kd
      rw [e, List.map_append, List.map_cons, List.nodup_append, List.nodup_cons] at kd
      rw [e] at hm
      rcases List.mem_append.mp hm with hm | hm
      · exact absurd rfl (hl m hm)
      · rcases List.mem_cons.mp hm with rfl | hm
        · rfl
        · exact absurd (List.mem_map_of_mem (f := fun o => keyI o.it) hm) (by rw [← hk]; exact kd.2.1.1)
    rw [hv, this]
theorem mo_has {Y : Md} {k : Str × Int} : (valV (jV Y.xs) (iK k)).isSome = hasI (Y.xs.map (·.it)) k := by
  rcases find_mo Y.xs k with ⟨h1, h2, _⟩ | ⟨l, p, r, e, hk, hl, hv, h2⟩
  · rw [h1, h2]; rfl
  · rw [hv, h2]; rfl
def FT (f t : Str) : Prop := ascii f = true ∧ ascii t = true ∧ f ≠ yvesS
theorem lenS (f : Str) (hf : f = Str.ofString "zora" ∨ f = Str.ofString "yvo") : (Str.ofString "Room of ").length + f.length ≤ sizeLine := by
  rcases hf with rfl | rfl <;> decide +kernel
theorem ft_a (f : Str) (hf : f = Str.ofString "zora" ∨ f = Str.ofString "yvo") : FT f (Str.ofString "") := by
  unfold FT
  rcases hf with rfl | rfl <;> decide +kernel
theorem ft_b (f : Str) (hf : f = Str.ofString "zora" ∨ f = Str.ofString "yvo") : FT f (Str.ofString "Room of " ++ f) := by
  unfold FT
  rcases hf with rfl | rfl <;> decide +kernel
theorem yves8 : ∀ z ∈ NAMES8, z ≠ yvesS := by decide +kernel
section
variable {K : PySem.W.Frag} {C CL CI CR CU : Addr} {vs : List V} {H : Hp} {Q : VK} {E : XK} {σ : L2.St} {D : Ends} {n0 : Nat}
/-- law: slots 0:script 1:cell 2:stream 3:people 4:letters 5:founder 6:title 7:at 8:given 9:board 10:model 11:items 12:letter 13:item 14:ref 15:other -/
def t_law (K : PySem.W.Frag) (C_Letter : Addr) (C_Board : Addr) (C_Item : Addr) (C_RoomError : Addr) (C_Unknown : Addr) (n0 : Nat) : TS := (tSeq (tAsg (tC (.int 0)) (gName 1))
  (tSeq (tIfS (tTest (tOp qGt (tCB (qLenSeq K) (tCons (tVar 0) tNil)) (tC (.int 0)))) (tAsg (tOp (rIxL K) (tVar 0) (tC (.int 0))) (gName 1)) tNext)
  (tSeq (tAsg (tCall (spStream K) [] C8.E0 (tCons (tVar 1) (tCons (tC (.int 0)) tNil))) (gName 2))
  (tSeq (tAsg (tCall (spPeople K) [] C8.E0 (tCons (tVar 2) (tCons (tC (.int 1)) tNil))) (gName 3))
  (tSeq (tAsg (tCall (spLetters K C_Letter) [] C8.E0 (tCons (tVar 0) (tCons (tVar 3) (tCons (tC (.int 1)) tNil)))) (gName 4))
  (tSeq (tFor (iList K (tLst (tCons (tC (.str "zora")) (tCons (tC (.str "yvo")) tNil)))) (gName 5) (tIfS (tTest (tOp rEq (tCall (spNext K) [] C8.E0 (tCons (tVar 2) (tCons (tC (.int 2)) tNil))) (tC (.int 0)))) (tSeq (tAsg (tOp (rIxT K) (tTup (tCons (tC (.str "")) (tCons (tOp qAddS (tC (.str "Room of ")) (tVar 5)) tNil))) (tCall (spNext K) [] C8.E0 (tCons (tVar 2) (tCons (tC (.int 2)) tNil)))) (gName 6))
  (tSeq (tAsg (tOp qMul (tCall (spNext K) [] C8.E0 (tCons (tVar 2) (tCons (tOp qAdd (tCB (qLenSeq K) (tCons (tVar 4) tNil)) (tC (.int 1))) tNil))) (tCall (spNext K) [] C8.E0 (tCons (tVar 2) (tCons (tC (.int 2)) tNil)))) (gName 7))
  (tDrop (tBM K "list" Wp.qInsert (tVar 4) (tCons (tVar 7) (tCons (tMake C_Letter (spInit K C_Letter) [] C8.E0 (tCons (tVar 5) (tCons (tC (.int 1)) (tCons (tC (.int 1)) (tCons (tTup (tCons (tTup (tCons (tVar 5) (tCons (tC (.int 1)) tNil))) tNil)) (tCons (tTup (tCons (tC (.str "found")) (tCons (tVar 6) (tCons (tTup (tCons (tC (.str "anna")) tNil)) tNil)))) tNil)))))) tNil)))))) tNext))
  (tSeq (tAsg (tCB (qListOf K) (tCons (tVar 4) tNil)) (gName 8))
  (tSeq (tAsg (tCall (spBoardOf K C_Letter C_Item C_Board) [] C8.E0 (tCons (tVar 8) tNil)) (gName 9))
  (tSeq (tAsg (tCall (spModel K C_Letter) [] C8.E0 (tCons (tVar 4) tNil)) (gName 10))
  (tSeq (tAsg (tDGet (tVar 10) (tC (.str "items"))) (gName 11))
  (tSeq (tIfS (tOr (tTest (tOp (rNeD K) (tLc (iList K (tVar 8)) (gName 12) tYes (tProp C_Letter (spRefP K C_Letter) [] C8.E0 (tVar 12)) [12]) (tLc (iList K (tVar 4)) (gName 12) tYes (tProp C_Letter (spRefP K C_Letter) [] C8.E0 (tVar 12)) [12]))) (tOr (tTest (tOp rNe (tFld K (tVar 9) "title") (tDGet (tVar 10) (tC (.str "title"))))) (tTest (tOp (rNeD K) (tFld K (tVar 9) "founder") (tDGet (tVar 10) (tC (.str "founder"))))))) (tRet (tC (.bl false))) tNext)
  (tSeq (tIfS (tOr (tNot (tB (tCall (spIs K) [] C8.E0 (tCons (tCB (Wp.rLenOwn C_Board (spBLen K C_Item C_Board)) (tCons (tVar 9) tNil)) (tCons (tCB rLenT (tCons (tVar 11) tNil)) tNil))))) (tTest (tOp (rNeD K) (tLockE (tLc (Wp.iOwnV C_Board n0 K (spBIter K C_Board) (tVar 9)) (gName 13) tYes (tProp C_Item (spItRef K C_Item) [] C8.E0 (tVar 13)) [13])) (tLockE (tLc (iKeys (tVar 11)) (gName 14) tYes (tVar 14) [14]))))) (tRet (tC (.bl false))) tNext)
  (tSeq (tLock (tFor (Wp.iOwnV C_Board n0 K (spBIter K C_Board) (tVar 9)) (gName 13) (tIfS (tOr (tNot (tB (tCall (spLItem K C_Item) [] C8.E0 (tCons (tVar 13) (tCons (tProp C_Item (spItRef K C_Item) [] C8.E0 (tVar 13)) (tCons (tDGet (tVar 11) (tProp C_Item (spItRef K C_Item) [] C8.E0 (tVar 13))) tNil)))))) (tTest (tOp rNe (tCB (qLenSeq K) (tCons (tLc (Wp.iOwnV C_Board n0 K (spBIter K C_Board) (tVar 9)) (gName 15) tYes (tVar 15) [15]) tNil)) (tCB rLenT (tCons (tVar 11) tNil))))) (tRet (tC (.bl false))) tNext)))
  (tSeq (tFor (iList K (tVar 4)) (gName 12) (tSeq (tAsg (tProp C_Letter (spRefP K C_Letter) [] C8.E0 (tVar 12)) (gName 14))
  (tSeq (tIfS (tNot (tB (tCall (spFlag K) [] C8.E0 (tCons (tOp (Wp.rInOwn C_Board (spBHas K C_Item C_Board) false) (tVar 14) (tVar 9)) (tCons (tDIn (tVar 14) (tVar 11)) tNil))))) (tRet (tC (.bl false))) tNext)
  (tSeq (tIfS (tAnd (tB (tDIn (tVar 14) (tVar 11))) (tNot (tB (tCall (spLItem K C_Item) [] C8.E0 (tCons (tMeth C_Board "item" (spBItemX K C_Item C_Board C_Unknown) [] C8.E0 (tVar 9) (tCons (tVar 14) tNil)) (tCons (tVar 14) (tCons (tDGet (tVar 11) (tVar 14)) tNil))))))) (tRet (tC (.bl false))) tNext)
  (tIfS (tAnd (tB (tDNotIn (tVar 14) (tVar 11))) (tNot (tB (tCall (spBUnk K C_Item C_Board) [] C8.E0 (tCons (tVar 9) (tCons (tVar 14) tNil)))))) (tRet (tC (.bl false))) tNext)))))
  (tRet (tAndV (tCall (spBUnk K C_Item C_Board) [] C8.E0 (tCons (tVar 9) (tCons (tTup (tCons (tC (.str "yves")) (tCons (tC (.int 1)) tNil))) tNil))) (tCall (spFlag K) [] C8.E0 (tCons (tOp (Wp.rInOwn C_Board (spBHas K C_Item C_Board) false) (tTup (tCons (tC (.str "yves")) (tCons (tC (.int 1)) tNil))) (tVar 9)) (tCons (tC (.bl false)) tNil)))))))))))))))))))
theorem l_law (h : spLaw K vs H Q E) : vs.length = 1 := by obtain ⟨a, ns, rfl, _⟩ := h; rfl
theorem r_law (LCL : IsC_Letter K CL) (LC : IsC_Board K C) (LCI : IsC_Item K CI) (XF : ExFacts K CR CU) (h : spLaw K vs H Q E) : t_law K CL C CI CR CU n0 { nx := fun _ H' => Q .non H', rt := Q } (start ["script", "cell", "stream", "people", "letters", "founder", "title", "at", "given", "board", "model", "items", "letter", "item", "ref", "other"] vs) H := by
  obtain ⟨a, ns, rfl, hS, hn, q⟩ := h
  unfold t_law
  refine w_seq (w_asg (w_c (w_name ?_)))
  with_reducible refine w_seq ?_
  refine w_ifCut (Mid := fun σ' G => ∃ z, σ' = [some (.ref a), some (.int z), none, none, none, none, none, none, none, none, none, none, none, none, none, none] ∧ G = H) ?_ ?_
  rotate_left
  · intro Rk hRk
    refine w_ifS (w_test (w_op (w_cb (w_cons (w_var rfl (w_nil (w_lenL hS (w_c (w_I0 (w_exb (w_ite (fun c => ?_) (fun c => w_next (hRk _ _ ⟨_, rfl, rfl⟩)))))))))))))
    rw [List.length_map] at c
    refine w_asg (w_op (w_var rfl (w_c (w_ixL (v := .int ns[0]) hS (atI_nat (j := 0) (by rw [List.getElem?_map, List.getElem?_eq_getElem (by omega)]; rfl)) (w_name (hRk _ _ ⟨_, rfl, rfl⟩))))))
  rintro σ' G ⟨z, rfl, rfl⟩
  with_reducible refine w_seq ?_
  refine w_asg (w_call (w_cons (w_var rfl (w_cons (w_c (w_nil ⟨_, _, rfl, fun p G1 p0 s1 st1 => w_name ?_⟩))))))
  with_reducible refine w_seq ?_
  refine w_asg (w_call (w_cons (w_var rfl (w_cons (w_c (w_nil ⟨p, 1, rfl, st1, by decide, by decide, fun pa ps G2 pa0 k2 st2 hpa hps h1 h8 => w_name ?_⟩))))))
  have sG2 : Same G G2 := Same.kp0 s1 k2 p0
  have hpe : PeopleAt G2 pa ps := people_ok hpa hps (by omega) h8
  with_reducible refine w_seq ?_
  refine w_asg (w_call (w_cons (w_var rfl (w_cons (w_var rfl (w_cons (w_c (w_nil ⟨a, ns, pa, ps, rfl, sG2.seq hS, hn, hpe, fun pl ls G3 pl0 s3 hpl hok hbd hl hau => w_name ?_⟩))))))))
  have st3 := st2.same s3
  have npl := stm_ne st3 hpl
  have hyv : ∀ y ∈ ls, y.2.a ≠ yvesS := fun y hy => yves8 _ (hps _ (hau y hy))
  clear sG2 hpe s3 k2 st2 s1 st1 hau
  -- the founding letters
  with_reducible refine w_seq ?_
  refine w_for (w_iList (w_lstV (w_cons (w_c (w_cons (w_c (w_nil ⟨sz (by simp), w_new fun ll G4 fl s4 e4 => ⟨ll, rfl, ⟨_, SqL.of e4⟩, ?_⟩⟩)))))))
  have nlp : ll ≠ p := st3.ne fl
  have nll : ll ≠ pl := (ne_of_none hpl fl).symm
  refine for_it (walk_list (xs := [V.str (Str.ofString "zora"), V.str (Str.ofString "yvo")])) (fun k σ G => (∃ u5 u6 u7, σ = [some (.ref a), some (.int z), some (.ref p), some (.ref pa), some (.ref pl), u5, u6, u7, none, none, none, none, none, none, none, none]) ∧ Stm G p ∧ G ll = some (.lst [V.str (Str.ofString "zora"), V.str (Str.ofString "yvo")]) ∧ ∃ LS, G pl = some (.lst (lsV LS)) ∧ LsOk Any CL G LS ∧ (∀ y ∈ LS, BodyOk y.2.b) ∧ (∀ y ∈ LS, y.2.a ≠ yvesS) ∧ LS.length ≤ 60 + k) ⟨⟨_, _, _, rfl⟩, st3.same s4, e4, ls, s4 _ _ hpl, hok.same s4, hbd, hyv, hl⟩ (fun k σ G _ e => SqL.of e.2.2.1) ?_ ?_
  · rintro k x σ G5 G' hk ⟨⟨u5, u6, u7, rfl⟩, st, el, LS, gpl, gok, gbd, gyv, gl⟩ ⟨rfl, hx⟩
    have hf : ∃ f, x = .str f ∧ (f = Str.ofString "zora" ∨ f = Str.ofString "yvo") := by
      have hk : k < 2 := hk
      match k, hk, hx with
      | 0, _, hx => exact ⟨_, (Option.some.inj hx).symm, .inl rfl⟩
      | 1, _, hx => exact ⟨_, (Option.some.inj hx).symm, .inr rfl⟩
    obtain ⟨f, rfl, hf⟩ := hf
    have k2 : k < 2 := hk
    refine w_name ?_
    refine w_ifS (w_test (w_op (w_call (w_cons (w_var rfl (w_cons (w_c (w_nil ⟨p, 2, rfl, st, by decide, by decide, fun v G6 k6 st6 v0 v1 => w_c (w_eqI (w_exb (w_ite (fun c => ?_) (fun c => w_next ?_))))⟩))))))))
    · have gpl6 := k6 _ _ npl gpl
      have ok6 := gok.fm (Fm.stm k6 st)
      have el6 := k6 _ _ nlp el
      with_reducible refine w_seq ?_
      refine w_asg (w_op (w_tupV (w_cons (w_c (w_cons (w_op (w_c (w_var rfl (w_addS (lenS f hf) (w_nil ⟨sz (by simp), w_new fun t7 G7 f7 s7 e7 => w_call (w_cons (w_var rfl (w_cons (w_c (w_nil ⟨p, 2, rfl, st6.same s7, by decide, by decide, fun v2 G8 k8 st8 w0 w1 => ?_⟩)))))⟩))))))))) )
      have et7 := k8 _ _ (st6.ne f7) e7
      have ht : ∃ t, [V.str (Str.ofString ""), V.str (Str.ofString "Room of " ++ f)][v2.toNat]? = some (V.str t) ∧ FT f t := by
        have hv : v2 = 0 ∨ v2 = 1 := by omega
        rcases hv with rfl | rfl
        · exact ⟨_, rfl, ft_a f hf⟩
        · exact ⟨_, rfl, ft_b f hf⟩
      obtain ⟨t, ht, hFT⟩ := ht
      refine w_ixT (SqT.of et7) (atI_of w0 ht) (w_name ?_)
      have gpl8 := k8 _ _ npl (s7 _ _ gpl6)
      have ok8 := (ok6.same s7).fm (Fm.stm k8 (st6.same s7))
      have el8 := k8 _ _ nlp (s7 _ _ el6)
      with_reducible refine w_seq ?_
      refine w_asg (w_op (w_call (w_cons (w_var rfl (w_cons (w_op (w_cb (w_cons (w_var rfl (w_nil (w_lenL (SqL.of gpl8) (w_c (w_I0 (w_nil ⟨p, _, rfl, st8, by rw [lsV_len]; omega, by rw [lsV_len]; omega, fun v3 G9 k9 st9 a0 a1 => w_call (w_cons (w_var rfl (w_cons (w_c (w_nil ⟨p, 2, rfl, st9, by decide, by decide, fun v4 G10 k10 st10 b0 b1 => w_I (cmul_r (by omega) (by omega)) (w_name ?_)⟩)))))⟩))))))))))))))
      rw [lsV_len] at a1
      obtain ⟨n, en, hnl⟩ : ∃ n : Nat, v3 * v4 = (n : Int) ∧ n ≤ LS.length := by
        have hv : v4 = 0 ∨ v4 = 1 := by omega
        rcases hv with rfl | rfl
        · exact ⟨0, by omega, Nat.zero_le _⟩
        · exact ⟨v3.toNat, by omega, by omega⟩
      rw [en]
      have gpl10 := k10 _ _ npl (k9 _ _ npl gpl8)
      have ok10 := (ok8.fm (Fm.stm k9 st8)).fm (Fm.stm k10 st9)
      have el10 := k10 _ _ nlp (k9 _ _ nlp el8)
      refine found_insG hFT.1 hFT.2.1 rfl rfl rfl rfl gpl10 ok10 gbd (by omega) hnl fun LS2 G11 gpl11 ok11 bd11 len11 mem11 k11 => ?_
      refine ⟨⟨_, _, _, rfl⟩, stm_kp st10 k11 npl.symm, k11 _ _ nll el10, LS2, gpl11, ok11, bd11, fun y hy => ?_, by omega⟩
      rcases mem11 y hy with hy | hy
      · exact gyv y hy
      · rw [hy]
        exact hFT.2.2
    · exact ⟨⟨_, _, _, rfl⟩, st6, k6 _ _ nlp el, LS, k6 _ _ npl gpl, gok.fm (Fm.stm k6 st), gbd, gyv, by omega⟩
  rintro σ G5 ⟨⟨u5, u6, u7, rfl⟩, st5, _, LS, hL, okL, bdL, yvL, hlL⟩
  have hlL : LS.length ≤ 62 := hlL
  clear hpl hok hbd hl npl st3 s4 e4 nlp nll hyv fl
  -- the board
  with_reducible refine w_seq ?_
  refine w_asg (w_cb (w_cons (w_var rfl (w_nil (w_listOfV (.inl (SqL.of hL)) fun l6 G6 f6 s6 e6 => w_name ?_)))))
  with_reducible refine w_seq ?_
  refine w_asg (w_call (w_cons (w_var rfl (w_nil ⟨l6, LS, rfl, e6, okL.same s6, bdL, by omega, fun G7 X fX s7 hB => w_name ?_⟩))))
  have s67 := s6.trans s7
  with_reducible refine w_seq ?_
  refine w_asg (w_call (w_cons (w_var rfl (w_nil ⟨pl, LS, rfl, s67 _ _ hL, okL.same s67, bdL, by omega, fun G8 Y fY s8 hM => w_name ?_⟩))))
  have hB8 := hB.same s8
  have s58 := s67.trans s8
  have e68 := (s7.trans s8) _ _ e6
  have hL8 := s58 _ _ hL
  have ok8 := okL.same s58
  have wl : ∀ L ∈ LS.map (·.2), Lay 0 (.str L.a) ∧ BodyOk L.b ∧ L.a ≠ yvesS := fun L hL => by
    obtain ⟨y, hy, rfl⟩ := List.mem_map.mp hL
    exact ⟨lay_str (okL y hy).2.aa, bdL y hy, yvL y hy⟩
  have szB : BoSz 63 (boardD (LS.map (·.2))) := (board_sz _).mono (by rw [List.length_map]; omega)
  have lyB := board_par wl
  have offY : ∀ b ∈ bp X, b ∉ mp Y := fun b hb hb2 => by
    obtain ⟨u, e⟩ := hB.live hb
    rw [fY b hb2] at e
    cases e
  generalize boardD (LS.map (·.2)) = B at hB hM hB8 szB lyB
  with_reducible refine w_seq ?_
  refine w_asg (w_dget (w_var rfl (w_c ⟨Y.m, _, rfl, get_items B.title B.founder Y.di Y.ln ▸ DGet.k (k := Sum.inr (Str.ofString "items")) hM.hm, w_name ?_⟩)))
  have hmem : Y.di ∈ mp Y := List.mem_cons_of_mem _ (List.mem_cons_self ..)
  have xi : X.xs.map (·.it) = Y.xs.map (·.it) := hB8.its.symm.trans hM.its
  have xl : X.xs.length = Y.xs.length := by
    have := congrArg List.length xi
    rwa [List.length_map, List.length_map] at this
  have xl63 : X.xs.length ≤ 63 := by
    have h1 := szB.1
    rw [hB8.its, List.length_map] at h1
    exact h1
  have hax : ∀ k, hasX X k = (valV (jV Y.xs) (iK k)).isSome := fun k => by
    rw [mo_has, ← xi]
    rfl
  have pry : ∀ o ∈ X.xs, ∃ m ∈ Y.xs, o.it = m.it := fun o ho => by
    have : o.it ∈ Y.xs.map (·.it) := xi ▸ List.mem_map_of_mem ho
    obtain ⟨m, hm, e⟩ := List.mem_map.mp this
    exact ⟨m, hm, e.symm⟩
  have lyX : ∀ o ∈ X.xs, ParLay o.it := fun o ho => lyB.1 _ (by rw [hB8.its]; exact List.mem_map_of_mem ho)
  have nYX : Y.di ≠ X.di := fun e => offY X.di (List.mem_cons_of_mem _ (List.mem_cons_self ..)) (e ▸ hmem)
  obtain ⟨dxb, hb8⟩ := id hB8.hb
  clear hB fX s7 hL okL bdL fY s67 e6 s8 s6 wl yvL s58 szB offY
  -- refs, title, founder
  with_reducible refine w_seq ?_
  refine w_ifS (w_or (w_test (w_op (w_lc (w_iList (w_var rfl ⟨l6, rfl, ⟨_, SqL.of e68⟩, lcRefs (fun _ => true) e68 ok8 (by omega) (fun _ => rfl) (fun _ => rfl) (fun y _ G s R rr => w_yes (rr G (Same.refl G))) fun D1 ts1 G9 _ s9 e9 d9 => ?_⟩))))))
  refine w_lc (w_iList (w_var rfl ⟨pl, rfl, ⟨_, SqL.of (s9 _ _ hL8)⟩, lcRefs (fun _ => true) (s9 _ _ hL8) (ok8.same s9) (by omega) (fun _ => rfl) (fun _ => rfl) (fun y _ G s R rr => w_yes (rr G (Same.refl G))) fun D2 ts2 G10 _ s10 e10 d10 => ?_⟩))
  refine w_neDs (ok := Any) (ok2 := Any) (d := .list ((LS.filter fun _ => true).map refP)) (.lst trivial (s10 _ _ e9) (d9.same s10)) (.lst trivial e10 d10) (lay_refs fun y' hy' => (ok8 y' (List.mem_filter.mp hy').1).2) (w_exb (ite_f (by decide) ?_))
  have s810 := s9.trans s10
  refine w_or (w_test (w_op (w_fldV rfl (s810 _ _ hb8) LC.cl LC.n_title rfl (w_dget (w_var rfl (w_c ⟨Y.m, _, rfl, get_title B.title B.founder Y.di Y.ln ▸ DGet.k (k := Sum.inr (Str.ofString "title")) (s810 _ _ hM.hm), w_neS (w_exb (ite_f (by simp) ?_))⟩))))))
  refine w_test (w_op (w_fldV rfl (s810 _ _ hb8) LC.cl LC.n_founder rfl (w_dget (w_var rfl (w_c ⟨Y.m, _, rfl, get_founder B.title B.founder Y.di Y.ln ▸ DGet.k (k := Sum.inr (Str.ofString "founder")) (s810 _ _ hM.hm), w_neDs (ok := Any) (ok2 := Any) (f_dn _) (f_dn _) (f_sh lyB.2) (w_exb (ite_f (by decide) (w_next ?_)))⟩)))))
  have hB10 := hB8.same s810
  have hM10 := hM.same s810
  have hb10 := s810 _ _ hb8
  have hL10 := s810 _ _ hL8
  have ok10 := ok8.same s810
  clear s9 e9 d9 e10 d10 s10 hB8 hM hb8 hL8 ok8 e68 s810
  -- length and walk
  with_reducible refine w_seq ?_
  refine w_ifS (w_or (w_not (w_B (w_call (w_cons (w_cb (w_cons (w_var rfl (w_nil ⟨X.b, dxb, _, rfl, hb10, X, B, rfl, hB10, _, rfl, by omega, by omega, w_cons (w_cb (w_cons (w_var rfl (w_nil ⟨Y.di, _, rfl, hM10.hi, w_nil ⟨_, _, rfl, w_exb ?_⟩⟩))))⟩)))))))))
  rw [List.length_map, xl, decide_eq_true rfl]
  refine ite_f (by decide) ?_
  refine w_test (w_op (lc_ownRefs rfl hB10 (by omega) (fun _ => rfl) (fun _ => rfl) fun D1 ts1 G11 _ s11 e11 d11 => ?_))
  refine lc_keysRef (l := Y.xs.map fun o => (keyI o.it, V.ref o.l)) rfl (by rw [List.map_map]; exact s11 _ _ hM10.hi) (by rw [List.length_map]; omega) (fun _ => rfl) (fun _ => rfl) fun D2 ts2 G12 _ s12 e12 d12 => ?_
  have ek : X.xs.map (fun o => pairD (keyI o.it)) = (Y.xs.map fun o => (keyI o.it, V.ref o.l)).map fun z => pairD z.1 := by
    have h1 := congrArg (List.map fun i => pairD (keyI i)) xi
    rw [List.map_map, List.map_map] at h1
    rw [List.map_map]
    exact h1
  rw [← ek] at d12
  refine w_neDs (ok := Any) (ok2 := Any) (.lst trivial (s12 _ _ e11) (d11.same s12)) (.lst trivial e12 d12) (lay_list (k := 1) fun d hd => ?_).shaped (w_exb (ite_f (by decide) (w_next ?_)))
  · obtain ⟨o, ho, rfl⟩ := List.mem_map.mp hd
    exact lay_pair (lyX o ho).1
  have s1012 := s11.trans s12
  have hB12 := hB10.same s1012
  have hM12 := hM10.same s1012
  have hb12 := s1012 _ _ hb10
  have hL12 := s1012 _ _ hL10
  have ok12 := ok10.same s1012
  clear s11 e11 d11 e12 d12 s12 hB10 hM10 hb10 hL10 ok10 s1012 ek
  -- the walk
  with_reducible refine w_seq ?_
  have nbd : X.b ≠ X.di := ne_kind hb12 hB12.hi fun z => by cases z
  refine ⟨X.di, .dT (iV X.xs), hB12.hi, trivial, fun od => ?_⟩
  refine w_for (w_var rfl ⟨X.b, dxb, _, rfl, (by rw [upd_ne nbd]; exact hb12), fun y hy => ⟨X.b, dxb, X.di, X.ln, B.title, strV B.founder, od, iV X.xs, rfl, (by rw [upd_ne nbd]; exact hb12), upd_same, fun H1 it s1 hit hnn => ⟨it, X.di, od, iV X.xs, rfl, upd_same, Nat.le_trans hy hnn, ?_⟩⟩⟩)
  rw [ItX.dropH_upd hit]
  refine for_it walk_vals (fun k σ G => (∃ u13, σ = [some (.ref a), some (.int z), some (.ref p), some (.ref pa), some (.ref pl), u5, u6, u7, some (.ref l6), some (.ref X.b), some (.ref Y.m), some (.ref Y.di), none, u13, none, none]) ∧ But X.di G12 G ∧ G X.di = some (.frz od (.dT (iV X.xs)))) ⟨⟨_, rfl⟩, But.lock.same s1, s1 _ _ upd_same⟩ (fun k σ G _ e => e.2.2) ?_ ?_
  · rintro k x σ Gz G hk ⟨⟨u13, rfl⟩, kx, ed⟩ ⟨rfl, ky, ekv⟩
    rw [List.getElem?_map] at ekv
    obtain ⟨o, ho, e2⟩ := Option.map_eq_some_iff.mp ekv
    injection e2 with ek ev
    subst ev
    have hom := List.mem_of_getElem? ho
    obtain ⟨m, hm, eom⟩ := pry o hom
    have hio := kx.io hB12.hi (hB12.ho o hom)
    have hmo := kx.mo hB12.hi (hM12.ho m hm)
    obtain ⟨dx2, t2, pv2, hx2, ht2, _⟩ := id hio.hx
    have hdi := kx _ _ nYX hM12.hi
    refine w_name ?_
    refine w_ifS (w_or (w_not (w_B (w_call (w_cons (w_var rfl (w_cons (w_propV rfl hx2 ⟨o, rfl, hio, fun t ht => w_cons (w_dget (w_var rfl (w_propV rfl hx2 ⟨o, rfl, hio, fun t' ht' => ⟨Y.di, .ref m.l, rfl, (by rw [← mo_get hM12 hm]; exact eom ▸ DGet.t (k := iK (keyI o.it)) hdi ht'), w_nil ⟨o, m, t, rfl, hio, hmo, ht, eom, lyX o hom, w_exb (ite_f (by decide) ?_)⟩⟩⟩)))⟩))))))))
    refine w_test (w_op (w_cb (w_cons (lc_ownAll rfl (kx _ _ nbd hb12) ed (by rw [List.length_map]; omega) (fun _ => rfl) (fun _ => rfl) fun D3 G13 f13 s13 e13 => w_nil (w_lenL (SqL.of e13) (w_cb (w_cons (w_var rfl (w_nil ⟨Y.di, _, rfl, s13 _ _ hdi, w_neI (w_exb (ite_f ?_ (w_next ?_)))⟩)))))))))
    · rw [List.length_map, List.length_map, List.length_map, xl]
      simp
    · exact ⟨⟨_, rfl⟩, kx.same s13, s13 _ _ ed⟩
  rintro σ G ⟨⟨u13, rfl⟩, kx, ed⟩
  refine ⟨ed, ?_⟩
  have sA := kx.unlock hB12.hi
  generalize upd G X.di (.dT (iV X.xs)) = G13 at sA
  have hBA := hB12.same sA
  have hMA := hM12.same sA
  have hbA := sA _ _ hb12
  have hLA := sA _ _ hL12
  have okA := ok12.same sA
  clear kx ed sA hB12 hM12 hb12 hL12 ok12 s1 hit
  -- each letter
  with_reducible refine w_seq ?_
  refine w_for (w_iList (w_var rfl ⟨pl, rfl, ⟨_, SqL.of hLA⟩, ?_⟩))
  refine for_it (walk_list (xs := lsV LS)) (fun k σ G => (∃ u12 u14, σ = [some (.ref a), some (.int z), some (.ref p), some (.ref pa), some (.ref pl), u5, u6, u7, some (.ref l6), some (.ref X.b), some (.ref Y.m), some (.ref Y.di), u12, u13, u14, none]) ∧ Same G13 G) ⟨⟨_, _, rfl⟩, Same.refl _⟩ (fun k σ G _ e => SqL.of (e.2 _ _ hLA)) ?_ ?_
  · rintro k x σ Gz G hk ⟨⟨u12, u14, rfl⟩, s⟩ ⟨rfl, hx⟩
    rw [List.getElem?_map] at hx
    obtain ⟨y, hy, rfl⟩ := Option.map_eq_some_iff.mp hx
    have hyL := (okA y (List.mem_of_getElem? hy)).1.same s
    obtain ⟨dxl, dl, sv, bv, hyx, _⟩ := id hyL
    refine w_name ?_
    with_reducible refine w_seq ?_
    refine w_asg (w_propV rfl hyx ⟨y.1, y.2, rfl, hyL, fun t G14 f14 s14 e14 => w_name ?_⟩)
    have sB := s.trans s14
    have hB := hBA.same sB
    have hM := hMA.same sB
    have hb := sB _ _ hbA
    have hdg : DGet G14 Y.di (.ref t) (valV (jV Y.xs) (iK (y.2.a, y.2.n))) := DGet.t (k := iK (y.2.a, y.2.n)) hM.hi e14
    have fin : ∀ {u12 u14 : Option V}, (∃ u12 u14, [some (.ref a), some (.int z), some (.ref p), some (.ref pa), some (.ref pl), u5, u6, u7, some (.ref l6), some (.ref X.b), some (.ref Y.m), some (.ref Y.di), some (V.ref y.1), u13, some (V.ref t), none] = [some (.ref a), some (.int z), some (.ref p), some (.ref pa), some (.ref pl), u5, u6, u7, some (.ref l6), some (.ref X.b), some (.ref Y.m), some (.ref Y.di), u12, u13, u14, none]) ∧ Same G13 G14 := ⟨⟨_, _, rfl⟩, sB⟩
    with_reducible refine w_seq ?_
    refine w_ifS (w_not (w_B (w_call (w_cons (w_op (w_var rfl (w_var rfl ⟨X.b, dxb, _, rfl, hb, X, B, t, (y.2.a, y.2.n), rfl, hB, e14, _, rfl, w_cons (w_dinW (w_var rfl (w_var rfl ⟨Y.di, _, rfl, hdg, w_nil ⟨_, _, rfl, w_exb ?_⟩⟩)))⟩)))))))
    rw [← hax, if_neg (by decide : ¬ (false = true)), decide_eq_true rfl]
    refine ite_f (by decide) (w_next ?_)
    cases hh : hasX X (y.2.a, y.2.n) with
    | true =>
      have hv : (valV (jV Y.xs) (iK (y.2.a, y.2.n))).isSome = true := by rw [← hax, hh]
      obtain ⟨o, hom, eko⟩ : ∃ o ∈ X.xs, keyI o.it = (y.2.a, y.2.n) := by
        unfold hasX hasI at hh
        obtain ⟨i, hi, e⟩ := List.any_eq_true.mp hh
        obtain ⟨o, ho, rfl⟩ := List.mem_map.mp hi
        exact ⟨o, ho, of_decide_eq_true e⟩
      with_reducible refine w_seq ?_
      refine w_ifS (Wp.w_and (w_B (w_dinW (w_var rfl (w_var rfl ⟨Y.di, _, rfl, hdg, w_exb (ite_t hv ?_)⟩)))))
      refine w_not (w_B (w_call (w_cons (w_methV rfl hb rfl (w_cons (w_var rfl (w_nil ⟨X, B, t, (y.2.a, y.2.n), rfl, hB, e14, fun o ho eo => ?_, fun z => by rw [hh] at z; cases z⟩)))))))
      obtain ⟨m, hm, eom⟩ := pry o ho
      refine w_cons (w_var rfl (w_cons (w_dget (w_var rfl (w_var rfl ⟨Y.di, .ref m.l, rfl, (by rw [← mo_get hM hm, ← eom, eo]; exact hdg), w_nil ⟨o, m, t, rfl, hB.ho o ho, hM.ho m hm, ?_, eom, lyX o ho, w_exb (ite_f (by decide) (w_next ?_))⟩⟩)))))
      · have e1 : (o.it.a, o.it.n) = (y.2.a, y.2.n) := eo
        rw [(Prod.mk.inj e1).1, (Prod.mk.inj e1).2]
        exact e14
      · with_reducible refine w_ifS ?_
        refine Wp.w_and (w_B (w_dnotinW (w_var rfl (w_var rfl ⟨Y.di, _, rfl, hdg, w_exb (ite_f (by rw [hv]; decide) (w_next ⟨⟨_, _, rfl⟩, sB⟩))⟩))))
    | false =>
      have hv : (valV (jV Y.xs) (iK (y.2.a, y.2.n))).isSome = false := by rw [← hax, hh]
      with_reducible refine w_seq ?_
      refine w_ifS (Wp.w_and (w_B (w_dinW (w_var rfl (w_var rfl ⟨Y.di, _, rfl, hdg, w_exb (ite_f (by rw [hv]; decide) (w_next ?_))⟩)))))
      with_reducible refine w_ifS ?_
      refine Wp.w_and (w_B (w_dnotinW (w_var rfl (w_var rfl ⟨Y.di, _, rfl, hdg, w_exb (ite_t (by rw [hv]; rfl) ?_)⟩))))
      exact w_not (w_B (w_call (w_cons (w_var rfl (w_cons (w_var rfl (w_nil ⟨X, B, t, (y.2.a, y.2.n), rfl, hB, e14, hh, w_exb (ite_f (by decide) (w_next ⟨⟨_, _, rfl⟩, sB⟩))⟩)))))))
  rintro σ G ⟨⟨u12, u14, rfl⟩, s⟩
  have hB := hBA.same s
  have hb := s _ _ hbA
  have hno : hasX X (yvesS, 1) = false := by
    unfold hasX hasI
    rw [List.any_eq_false]
    intro i hi e
    obtain ⟨o, ho, rfl⟩ := List.mem_map.mp hi
    have e := of_decide_eq_true e
    exact (lyX o ho).2.2 (Prod.mk.inj e).1
  with_reducible refine w_ret ?_
  refine w_andV (w_call (w_cons (w_var rfl (w_cons (w_tupV (w_cons (w_c (w_cons (w_c (w_nil ⟨sz (by simp), w_new fun t5 G15 _ s5 e5 => w_nil ⟨X, B, t5, (yvesS, 1), rfl, hB.same s5, e5, hno, _, rfl, ite_t rfl ?_⟩⟩))))))))))
  refine w_call (w_cons (w_op (w_tupV (w_cons (w_c (w_cons (w_c (w_nil ⟨sz (by simp), w_new fun t6 G16 _ s6 e6 => w_var rfl ⟨X.b, dxb, _, rfl, s6 _ _ (s5 _ _ hb), X, B, t6, (yvesS, 1), rfl, (hB.same s5).same s6, e6, _, rfl, w_cons (w_c (w_nil ⟨_, _, rfl, ?_⟩))⟩⟩))))))))
  rw [hno]
  exact q _
end

section
variable {P : Program} {w : World} {K : PySem.W.Frag} {mg : Str → Option Value} {base : Heap} {C_Item : Addr} {C_Board : Addr} {C_Letter : Addr} {C_RoomError : Addr} {C_Unknown : Addr}
def topS (i : Nat) : Stmt := PySem.Challenge.pw_lettersonce_k52_items_of_a_board.main.body.getD i (.Pass ⟨0, 0, 0, 0⟩)
def inC (s : Stmt) (j : Nat) : Stmt := (C8.clsBody s).getD j (.Pass ⟨0, 0, 0, 0⟩)
abbrev s_is_act : Stmt := topS 2
theorem sc_is_act : FnScope ["body"] ["body"] (C8.fnScope s_is_act) := C8.fnScope_by (by decide +kernel)
theorem c_is_act {f : Addr} {fd : FuncData} (F : C8.Def K mg "is_act" s_is_act f fd) (b : Binds K fd ["body"] [])
   :
  C8.Cal P w K mg base 1 "is_act" (spIsAct K) [] :=
  C8.cal0 F b .nil sc_is_act (fun vs H Q E h => l_is_act h) (fun cdv A outer s H vs Q E hr h => ⟨t_is_act K,
  (pss_one (ps_ret (pe_cmpR op_in_seq (pe_ix ix_tup (pv 0) pe_int (fun _ _ => rfl)) (pe_tup (pa_cons pe_str (pa_cons pe_str (pa_cons pe_str pa_nil)))) (by rfl)))), r_is_act h⟩)
abbrev s_target : Stmt := topS 3
theorem sc_target : FnScope ["body"] ["body"] (C8.fnScope s_target) := C8.fnScope_by (by decide +kernel)
theorem c_target {f : Addr} {fd : FuncData} (F : C8.Def K mg "target" s_target f fd) (b : Binds K fd ["body"] [])
   :
  C8.Cal P w K mg base 1 "target" (spTarget K) [] :=
  C8.cal0 F b .nil sc_target (fun vs H Q E h => l_target h) (fun cdv A outer s H vs Q E hr h => ⟨t_target K,
  (pss_cons (ps_if (pt_cmpR op_in_seq (pe_ix ix_tup (pv 0) pe_int (fun _ _ => rfl)) (pe_tup (pa_cons pe_str (pa_cons pe_str (pa_cons pe_str (pa_cons pe_str pa_nil))))) (by rfl)) (pss_one (ps_ret (pe_ix ix_tup (pv 0) pe_int (fun _ _ => rfl)))) pss_nil)
  (pss_one (ps_ret pe_non))), r_target h⟩)
abbrev s_text_of : Stmt := topS 4
theorem sc_text_of : FnScope ["body"] ["body"] (C8.fnScope s_text_of) := C8.fnScope_by (by decide +kernel)
theorem c_text_of {f : Addr} {fd : FuncData} (F : C8.Def K mg "text_of" s_text_of f fd) (b : Binds K fd ["body"] [])
   :
  C8.Cal P w K mg base 1 "text_of" (spTextOf K) [] :=
  C8.cal0 F b .nil sc_text_of (fun vs H Q E h => l_text_of h) (fun cdv A outer s H vs Q E hr h => ⟨t_text_of K,
  (pss_cons (ps_if (pt_cmpR op_eq (pe_ix ix_tup (pv 0) pe_int (fun _ _ => rfl)) pe_str (nomark _)) (pss_one (ps_ret (pe_ix ix_tup (pv 0) pe_int (fun _ _ => rfl)))) pss_nil)
  (pss_cons (ps_if (pt_cmpR op_in_seq (pe_ix ix_tup (pv 0) pe_int (fun _ _ => rfl)) (pe_tup (pa_cons pe_str (pa_cons pe_str pa_nil))) (by rfl)) (pss_one (ps_ret (pe_ix ix_tup (pv 0) pe_int (fun _ _ => rfl)))) pss_nil)
  (pss_one (ps_ret pe_non)))), r_text_of h⟩)
abbrev s_Item___init__ : Stmt := inC (topS 9) 0
theorem sc_Item___init__ : FnScope ["self", "ref", "text", "parent"] ["self", "ref", "text", "parent"] (C8.fnScope s_Item___init__) := C8.fnScope_by (by decide +kernel)
theorem c_Item___init__ {f : Addr} {fd : FuncData} (M : Mk K C_Item f) (hm : mg "Item" = some (.ref C_Item)) (F : C8.Fun K "__init__" "Item.__init__" s_Item___init__ f fd) (b : Binds K fd ["self", "ref", "text", "parent"] [])
  (LC_Item : IsC_Item K C_Item) :
  C8.Mak P w K mg base 1 "Item" C_Item (spItInit K C_Item) [] :=
  C8.mak0 M hm F b .nil sc_Item___init__ (fun vs H Q E h => l_Item___init__ h) (fun cdv A outer s H vs Q E hr h => ⟨t_Item___init__ K C_Item,
  (pss_cons (ps_fld (pv 0) (pe_ix ix_tup (pv 1) pe_int (fun _ _ => rfl)) rfl)
  (pss_cons (ps_fld (pv 0) (pv 2) rfl)
  (pss_cons (ps_fld (pv 0) (pv 3) rfl)
  (pss_cons (ps_fld (pv 0) pe_int rfl)
  (pss_cons (ps_fld (pv 0) pe_bl rfl)
  (pss_cons (ps_fld (pv 0) (pv 1) rfl)
  (pss_one (ps_fld (pv 0) pe_dnewK rfl)))))))), r_Item___init__ LC_Item h⟩)
abbrev s_Item_ref : Stmt := inC (topS 9) 1
theorem sc_Item_ref : FnScope ["self"] ["self"] (C8.fnScope s_Item_ref) := C8.fnScope_by (by decide +kernel)
theorem c_Item_ref {f : Addr} {fd : FuncData} {p : Addr} (hp : PropOf K C_Item "ref" p f) (F : C8.Fun K "ref" "Item.ref" s_Item_ref f fd) (b : Binds K fd ["self"] [])
  (LC_Item : IsC_Item K C_Item) :
  Wp.Prp P w K mg base 1 C_Item "ref" (spItRef K C_Item) :=
  Wp.prp0 LC_Item.cl hp F b sc_Item_ref (fun vs H Q E h => l_Item_ref h) (fun cdv A outer s H vs Q E hr h => ⟨t_Item_ref K C_Item,
  (pss_one (ps_ret (pe_fld (pv 0) rfl))), r_Item_ref LC_Item h⟩)
abbrev s_Item_edit : Stmt := inC (topS 9) 3
theorem sc_Item_edit : FnScope ["self", "text"] ["self", "text"] (C8.fnScope s_Item_edit) := C8.fnScope_by (by decide +kernel)
theorem c_Item_edit {f : Addr} {fd : FuncData} (me : Meth K C_Item "edit" f) (F : C8.Fun K "edit" "Item.edit" s_Item_edit f fd) (b : Binds K fd ["self", "text"] [])
  (LC_Item : IsC_Item K C_Item) :
  C8.Met P w K mg base 1 C_Item "edit" (spItEdit K C_Item) [] :=
  C8.met0 LC_Item.cl me F b sc_Item_edit (fun vs H Q E h => l_Item_edit h) (fun cdv A outer s H vs Q E hr h => ⟨t_Item_edit K C_Item,
  (pss_cons (ps_fld (pv 0) (pv 1) rfl)
  (pss_one (ps_fldaug (pv 0) pe_int in_add))), r_Item_edit LC_Item h⟩)
abbrev s_Item_recall : Stmt := inC (topS 9) 4
theorem sc_Item_recall : FnScope ["self"] ["self"] (C8.fnScope s_Item_recall) := C8.fnScope_by (by decide +kernel)
theorem c_Item_recall {f : Addr} {fd : FuncData} (me : Meth K C_Item "recall" f) (F : C8.Fun K "recall" "Item.recall" s_Item_recall f fd) (b : Binds K fd ["self"] [])
  (LC_Item : IsC_Item K C_Item) :
  C8.Met P w K mg base 1 C_Item "recall" (spItRecall K C_Item) [] :=
  C8.met0 LC_Item.cl me F b sc_Item_recall (fun vs H Q E h => l_Item_recall h) (fun cdv A outer s H vs Q E hr h => ⟨t_Item_recall K C_Item,
  (pss_cons (ps_fld (pv 0) pe_bl rfl)
  (pss_cons (ps_fld (pv 0) pe_str rfl)
  (pss_one (ps_fld (pv 0) pe_dnewK rfl)))), r_Item_recall LC_Item h⟩)
abbrev s_Item_mark : Stmt := inC (topS 9) 5
theorem sc_Item_mark : FnScope ["self", "word", "name", "names"] ["self", "word", "name"] (C8.fnScope s_Item_mark) := C8.fnScope_by (by decide +kernel)
theorem c_Item_mark {f : Addr} {fd : FuncData} (me : Meth K C_Item "mark" f) (F : C8.Fun K "mark" "Item.mark" s_Item_mark f fd) (b : Binds K fd ["self", "word", "name"] [])
  (LC_Item : IsC_Item K C_Item) :
  C8.Met P w K mg base 1 C_Item "mark" (spItMark K C_Item) [] :=
  C8.met0 LC_Item.cl me F b sc_Item_mark (fun vs H Q E h => l_Item_mark h) (fun cdv A outer s H vs Q E hr h => ⟨t_Item_mark K C_Item,
  (pss_cons (ps_set (i := 3) sc_Item_mark.nd rfl (Or.inl rfl) (pe_dsetd (pe_fld (pv 0) rfl) (pv 1) pe_dnewK ⟨rfl, rfl, rfl, rfl⟩))
  (pss_one (ps_if (pt_cmp (pc_din (Wp.hu1 hr) (pv 2) (pv 3))) (pss_one (ps_ddel (pv 3) (pv 2))) (pss_one (ps_dput (Wp.hu1 hr) (pv 3) (pv 2) pe_bl rfl))))), r_Item_mark LC_Item h⟩)
abbrev s_Board___init__ : Stmt := inC (topS 10) 0
theorem sc_Board___init__ : FnScope ["self"] ["self"] (C8.fnScope s_Board___init__) := C8.fnScope_by (by decide +kernel)
theorem c_Board___init__ {f : Addr} {fd : FuncData} (M : Mk K C_Board f) (hm : mg "Board" = some (.ref C_Board)) (F : C8.Fun K "__init__" "Board.__init__" s_Board___init__ f fd) (b : Binds K fd ["self"] [])
  (LC_Board : IsC_Board K C_Board) :
  C8.Mak P w K mg base 1 "Board" C_Board (spBInit K C_Board) [] :=
  C8.mak0 M hm F b .nil sc_Board___init__ (fun vs H Q E h => l_Board___init__ h) (fun cdv A outer s H vs Q E hr h => ⟨t_Board___init__ K C_Board,
  (pss_cons (ps_fld (pv 0) pe_str rfl)
  (pss_cons (ps_fld (pv 0) pe_non rfl)
  (pss_cons (ps_fld (pv 0) pe_dnewT rfl)
  (pss_one (ps_fld (pv 0) (pe_lst pa_nil) rfl))))), r_Board___init__ LC_Board h⟩)
abbrev s_Board___len__ : Stmt := inC (topS 10) 1
theorem sc_Board___len__ : FnScope ["self"] ["self"] (C8.fnScope s_Board___len__) := C8.fnScope_by (by decide +kernel)
theorem c_Board___len__ {f : Addr} {fd : FuncData} (me : Meth K C_Board "__len__" f) (F : C8.Fun K "__len__" "Board.__len__" s_Board___len__ f fd) (b : Binds K fd ["self"] [])
  (LC_Board : IsC_Board K C_Board) (LC_Item : IsC_Item K C_Item) (n_len : mg "len" = none) :
  C8.Met P w K mg base 1 C_Board "__len__" (spBLen K C_Item C_Board) [] :=
  C8.met0 LC_Board.cl me F b sc_Board___len__ (fun vs H Q E h => l_Board___len__ h) (fun cdv A outer s H vs Q E hr h => ⟨t_Board___len__ K C_Board C_Item,
  (pss_one (ps_ret (pe_callB call_len_dT (by rfl) n_len (by decide +kernel) (pa_cons (pe_fld (pv 0) rfl) pa_nil)))), r_Board___len__ LC_Board LC_Item h⟩)
abbrev s_Board___iter__ : Stmt := inC (topS 10) 2
theorem sc_Board___iter__ : FnScope ["self"] ["self"] (C8.fnScope s_Board___iter__) := C8.fnScope_by (by decide +kernel)
theorem c_Board___iter__ {f : Addr} {fd : FuncData} (me : Meth K C_Board "__iter__" f) (F : C8.Fun K "__iter__" "Board.__iter__" s_Board___iter__ f fd) (b : Binds K fd ["self"] [])
  (LC_Board : IsC_Board K C_Board) (n_iter : mg "iter" = none) :
  Wp.MetN P w K mg base 1 C_Board "__iter__" (spBIter K C_Board) :=
  Wp.metN me F b sc_Board___iter__ (fun n vs H Q E h => l_Board___iter__ h) (fun cdv A outer s H vs Q E hr h => ⟨t_Board___iter__ K C_Board s.heap.objs.size,
  (pss_one (ps_ret (pe_callB Wp.call_iterVT (by rfl) n_iter (by decide +kernel) (pa_cons (Wp.pe_dvalsT (pe_fld (pv 0) rfl)) pa_nil)))), r_Board___iter__ LC_Board h⟩)
abbrev s_Board___contains__ : Stmt := inC (topS 10) 3
theorem sc_Board___contains__ : FnScope ["self", "ref"] ["self", "ref"] (C8.fnScope s_Board___contains__) := C8.fnScope_by (by decide +kernel)
theorem c_Board___contains__ {f : Addr} {fd : FuncData} (me : Meth K C_Board "__contains__" f) (F : C8.Fun K "__contains__" "Board.__contains__" s_Board___contains__ f fd) (b : Binds K fd ["self", "ref"] [])
  (LC_Board : IsC_Board K C_Board) (LC_Item : IsC_Item K C_Item) :
  C8.Met P w K mg base 1 C_Board "__contains__" (spBHas K C_Item C_Board) [] :=
  C8.met0 LC_Board.cl me F b sc_Board___contains__ (fun vs H Q E h => l_Board___contains__ h) (fun cdv A outer s H vs Q E hr h => ⟨t_Board___contains__ K C_Board C_Item,
  (pss_one (ps_ret (pe_cmp (pc_din (Wp.hu1 hr) (pv 1) (pe_fld (pv 0) rfl))))), r_Board___contains__ LC_Board LC_Item h⟩)
abbrev s_Board_item : Stmt := inC (topS 10) 4
theorem sc_Board_item : FnScope ["self", "ref"] ["self", "ref"] (C8.fnScope s_Board_item) := C8.fnScope_by (by decide +kernel)
theorem c_Board_item {f : Addr} {fd : FuncData} (me : Meth K C_Board "item" f) (F : C8.Fun K "item" "Board.item" s_Board_item f fd) (b : Binds K fd ["self", "ref"] [])
  (LC_Board : IsC_Board K C_Board) (LC_Item : IsC_Item K C_Item) (XF : ExFacts K C_RoomError C_Unknown) (m_RoomError : mg "RoomError" = some (.ref C_RoomError)) (m_Unknown : mg "Unknown" = some (.ref C_Unknown)) :
  Wp.XMet P w K mg base 1 C_Board "item" (spBItemX K C_Item C_Board C_Unknown) :=
  Wp.metX LC_Board.cl me F b sc_Board_item (fun vs H Q E h => l_Board_item h) (fun cdv A outer s H vs Q E hr h => ⟨t_Board_item K C_Board C_Item C_RoomError C_Unknown E,
  (pss_cons (ps_if (pt_cmp (pc_dnotin (Wp.hu1 hr) (pv 1) (pe_fld (pv 0) rfl))) (pss_one (Wp.ps_rz rfl XF.b_Unknown m_Unknown (takes_of rfl rfl rfl rfl) (by rfl))) pss_nil)
  (pss_one (ps_ret (pe_dget (Wp.hu1 hr) (pe_fld (pv 0) rfl) (pv 1) (fun _ _ => rfl))))), r_Board_item LC_Board LC_Item XF h⟩)
abbrev s_Letter___init__ : Stmt := inC (topS 13) 0
theorem sc_Letter___init__ : FnScope ["self", "author", "number", "stamp", "seen", "body", "name", "count"] ["self", "author", "number", "stamp", "seen", "body"] (C8.fnScope s_Letter___init__) := C8.fnScope_by (by decide +kernel)
theorem c_Letter___init__ {f : Addr} {fd : FuncData} (M : Mk K C_Letter f) (hm : mg "Letter" = some (.ref C_Letter)) (F : C8.Fun K "__init__" "Letter.__init__" s_Letter___init__ f fd) (b : Binds K fd ["self", "author", "number", "stamp", "seen", "body"] [])
  (LC_Letter : IsC_Letter K C_Letter) :
  C8.Mak P w K mg base 1 "Letter" C_Letter (spInit K C_Letter) [] :=
  C8.mak0 M hm F b .nil sc_Letter___init__ (fun vs H Q E h => l_Letter___init__ h) (fun cdv A outer s H vs Q E hr h => ⟨t_Letter___init__ K C_Letter,
  (pss_cons (ps_fld (pv 0) (pv 1) rfl)
  (pss_cons (ps_fld (pv 0) (pv 2) rfl)
  (pss_cons (ps_fld (pv 0) (pv 3) rfl)
  (pss_cons (ps_fld (pv 0) (pv 4) rfl)
  (pss_cons (ps_fld (pv 0) (pv 5) rfl)
  (pss_one (ps_fld (pv 0) (pe_dc (own := [("name", 6), ("count", 7)]) (g := (gTup K 2 (gCons (gName 6) (gCons (gName 7) gNil)))) (tt := tYes) (by rfl) sc_Letter___init__.nd (pi_tup (pv 4)) (blkOk_by (own := [("name", 6), ("count", 7)]) (N := ["self", "author", "number", "stamp", "seen", "body", "name", "count"]) (sc := C8.fnScope s_Letter___init__) (by decide +kernel)) (fun _ _ _ _ _ => (pg_tup rfl (pgs_cons (pg_name (i := 6) sc_Letter___init__.nd rfl (Or.inl rfl)) (pgs_cons (pg_name (i := 7) sc_Letter___init__.nd rfl (Or.inl rfl)) pgs_nil)))) (fun _ _ _ _ _ => pts_nil) (fun _ _ _ _ _ => (pv 6)) (fun _ _ _ _ _ => (pv 7))) rfl))))))), r_Letter___init__ LC_Letter h⟩)
abbrev s_Letter_ref : Stmt := inC (topS 13) 1
theorem sc_Letter_ref : FnScope ["self"] ["self"] (C8.fnScope s_Letter_ref) := C8.fnScope_by (by decide +kernel)
theorem c_Letter_ref {f : Addr} {fd : FuncData} {p : Addr} (hp : PropOf K C_Letter "ref" p f) (F : C8.Fun K "ref" "Letter.ref" s_Letter_ref f fd) (b : Binds K fd ["self"] [])
  (LC_Letter : IsC_Letter K C_Letter) :
  Wp.Prp P w K mg base 1 C_Letter "ref" (spRefP K C_Letter) :=
  Wp.prp0 LC_Letter.cl hp F b sc_Letter_ref (fun vs H Q E h => l_Letter_ref h) (fun cdv A outer s H vs Q E hr h => ⟨t_Letter_ref K C_Letter,
  (pss_one (ps_ret (pe_tup (pa_cons (pe_fld (pv 0) rfl) (pa_cons (pe_fld (pv 0) rfl) pa_nil))))), r_Letter_ref LC_Letter h⟩)
abbrev s__law_stream : Stmt := topS 15
theorem sc__law_stream : FnScope ["cell", "k", "digits"] ["cell", "k"] (C8.fnScope s__law_stream) := C8.fnScope_by (by decide +kernel)
theorem c__law_stream {f : Addr} {fd : FuncData} (F : C8.Def K mg "_law_stream" s__law_stream f fd) (b : Binds K fd ["cell", "k"] [])
  (n_int : mg "int" = none) :
  C8.Cal P w K mg base 1 "_law_stream" (spStream K) [] :=
  C8.cal0 F b .nil sc__law_stream (fun vs H Q E h => l__law_stream h) (fun cdv A outer s H vs Q E hr h => ⟨t__law_stream K,
  (pss_cons (ps_set (i := 2) sc__law_stream.nd rfl (Or.inl rfl) pe_int)
  (pss_cons (ps_if (pt_cmpR op_ge (pv 0) (pe_op op_pow pe_int pe_int) (nomark _)) (pss_one (ps_set (i := 2) sc__law_stream.nd rfl (Or.inl rfl) (pv 0))) pss_nil)
  (pss_one (ps_ret (pe_lst (pa_cons (pv 2) (pa_cons (pe_op op_mod (pe_callTy call_int1 (by rfl) n_int (by decide +kernel) (pa_cons (pe_op op_add (pe_op op_add (pe_op op_mul (pv 0) pe_int) (pe_op op_mul (pv 1) pe_int)) pe_int) pa_nil)) pe_int) pa_nil))))))), r__law_stream h⟩)
abbrev s__law_next : Stmt := topS 16
theorem sc__law_next : FnScope ["stream", "size", "drawn"] ["stream", "size"] (C8.fnScope s__law_next) := C8.fnScope_by (by decide +kernel)
theorem c__law_next {f : Addr} {fd : FuncData} (F : C8.Def K mg "_law_next" s__law_next f fd) (b : Binds K fd ["stream", "size"] [])
  (n_int : mg "int" = none) :
  C8.Cal P w K mg base 1 "_law_next" (spNext K) [] :=
  C8.cal0 F b .nil sc__law_next (fun vs H Q E h => l__law_next h) (fun cdv A outer s H vs Q E hr h => ⟨t__law_next K,
  (pss_cons (ps_if (pt_cmpR op_gt (pe_ix ix_list (pv 0) pe_int (fun _ _ => rfl)) pe_int (nomark _)) (pss_cons (ps_set (i := 2) sc__law_next.nd rfl (Or.inl rfl) (pe_op op_mod (pe_callTy call_int1 (by rfl) n_int (by decide +kernel) (pa_cons (pe_ix ix_list (pv 0) pe_int (fun _ _ => rfl)) pa_nil)) (pv 1)))
  (pss_cons (ps_asg (pe_op op_fdiv (pe_ix ix_list (pv 0) pe_int (fun _ _ => rfl)) (pv 1)) (pg_sub (pv 0) pe_int set_list))
  (pss_one (ps_ret (pv 2))))) pss_nil)
  (pss_cons (ps_asg (pe_op op_mod (pe_callTy call_int1 (by rfl) n_int (by decide +kernel) (pa_cons (pe_op op_add (pe_op op_mul (pe_ix ix_list (pv 0) pe_int (fun _ _ => rfl)) pe_int) pe_int) pa_nil)) pe_int) (pg_sub (pv 0) pe_int set_list))
  (pss_one (ps_ret (pe_op op_mod (pe_callTy call_int1 (by rfl) n_int (by decide +kernel) (pa_cons (pe_op op_fdiv (pe_op op_mod (pe_callTy call_int1 (by rfl) n_int (by decide +kernel) (pa_cons (pe_op op_add (pe_op op_mul (pe_ix ix_list (pv 0) pe_int (fun _ _ => rfl)) pe_int) pe_int) pa_nil)) pe_int) pe_int) pa_nil)) (pv 1)))))), r__law_next h⟩)
abbrev s__law_is : Stmt := topS 17
theorem sc__law_is : FnScope ["actual", "due"] ["actual", "due"] (C8.fnScope s__law_is) := C8.fnScope_by (by decide +kernel)
theorem c__law_is {f : Addr} {fd : FuncData} (F : C8.Def K mg "_law_is" s__law_is f fd) (b : Binds K fd ["actual", "due"] [])
  (n_isinstance : mg "isinstance" = none) (n_int : mg "int" = none) (n_bool : mg "bool" = none) :
  C8.Cal P w K mg base 1 "_law_is" (spIs K) [] :=
  C8.cal0 F b .nil sc__law_is (fun vs H Q E h => l__law_is h) (fun cdv A outer s H vs Q E hr h => ⟨t__law_is K,
  (pss_one (ps_ret (pe_and (pe_callB call_isi (by rfl) n_isinstance (by decide +kernel) (pa_cons (pv 0) (pa_cons (pe_bltn (v := .ty "int") (by rfl) n_int PyProof.Rows.boot_int rfl) pa_nil))) (pe_and (pe_not (pe_callB call_isi (by rfl) n_isinstance (by decide +kernel) (pa_cons (pv 0) (pa_cons (pe_bltn (v := .ty "bool") (by rfl) n_bool PyProof.Rows.boot_bool rfl) pa_nil)))) (pe_one (pe_cmpR op_eq (pv 0) (pv 1) (nomark _))))))), r__law_is h⟩)
abbrev s__law_flag : Stmt := topS 18
theorem sc__law_flag : FnScope ["actual", "due"] ["actual", "due"] (C8.fnScope s__law_flag) := C8.fnScope_by (by decide +kernel)
theorem c__law_flag {f : Addr} {fd : FuncData} (F : C8.Def K mg "_law_flag" s__law_flag f fd) (b : Binds K fd ["actual", "due"] [])
  (n_isinstance : mg "isinstance" = none) (n_bool : mg "bool" = none) :
  C8.Cal P w K mg base 1 "_law_flag" (spFlag K) [] :=
  C8.cal0 F b .nil sc__law_flag (fun vs H Q E h => l__law_flag h) (fun cdv A outer s H vs Q E hr h => ⟨t__law_flag K,
  (pss_one (ps_ret (pe_and (pe_callB call_isi (by rfl) n_isinstance (by decide +kernel) (pa_cons (pv 0) (pa_cons (pe_bltn (v := .ty "bool") (by rfl) n_bool PyProof.Rows.boot_bool rfl) pa_nil))) (pe_one (pe_cmpR op_eq (pv 0) (pv 1) (nomark _)))))), r__law_flag h⟩)
abbrev s__law_change : Stmt := topS 26
theorem sc__law_change : FnScope ["item", "letter", "kind", "names", "name"] ["item", "letter"] (C8.fnScope s__law_change) := C8.fnScope_by (by decide +kernel)
theorem c__law_change {f : Addr} {fd : FuncData} (F : C8.Def K mg "_law_change" s__law_change f fd) (b : Binds K fd ["item", "letter"] [])
  (LC_Letter : IsC_Letter K C_Letter) :
  C8.Cal P w K mg base 1 "_law_change" (spLChange K C_Letter) [] :=
  C8.cal0 F b .nil sc__law_change (fun vs H Q E h => l__law_change h) (fun cdv A outer s H vs Q E hr h => ⟨t__law_change K C_Letter,
  (pss_cons (ps_set (i := 2) sc__law_change.nd rfl (Or.inl rfl) (pe_ix ix_tup (pe_fld (pv 1) rfl) pe_int (fun _ _ => rfl)))
  (pss_cons (ps_if (pt_val (pe_ix ix_list (pv 0) pe_int (fun _ _ => rfl))) (pss_one ps_retN) pss_nil)
  (pss_one (ps_if (pt_cmpR op_eq (pv 2) pe_str (nomark _)) (pss_cons (ps_set (i := 3) sc__law_change.nd rfl (Or.inl rfl) (pe_dget2 (Wp.hu1 hr) (pe_ix ix_list (pv 0) pe_int (fun _ _ => rfl)) (pe_ix ix_tup (pe_fld (pv 1) rfl) pe_int (fun _ _ => rfl)) (pe_lst pa_nil) ⟨rfl, rfl, rfl, rfl⟩))
  (pss_one (ps_if (pt_cmpR op_in_seq (pe_fld (pv 1) rfl) (pv 3) (by rfl)) (pss_one (ps_dput (Wp.hu1 hr) (pe_ix ix_list (pv 0) pe_int (fun _ _ => rfl)) (pe_ix ix_tup (pe_fld (pv 1) rfl) pe_int (fun _ _ => rfl)) (pe_lc (own := [("name", 4)]) (g := (gName 4)) (tt := (tTest (tOp rNe (tVar 4) (tFld K (tVar 1) "author")))) (by rfl) sc__law_change.nd (pi_list (pv 3)) (blkOk_by (own := [("name", 4)]) (N := ["item", "letter", "kind", "names", "name"]) (sc := C8.fnScope s__law_change) (by decide +kernel)) (fun _ _ _ _ _ => (pg_name (i := 4) sc__law_change.nd rfl (Or.inl rfl))) (fun _ _ _ _ _ => (pts_one (pt_cmpR op_ne (pv 4) (pe_fld (pv 1) rfl) (nomark _)))) (fun _ _ _ _ _ => (pv 4))) rfl)) (pss_one (ps_dput (Wp.hu1 hr) (pe_ix ix_list (pv 0) pe_int (fun _ _ => rfl)) (pe_ix ix_tup (pe_fld (pv 1) rfl) pe_int (fun _ _ => rfl)) (pe_op op_cat (pv 3) (pe_lst (pa_cons (pe_fld (pv 1) rfl) pa_nil))) rfl))))) (pss_one (ps_if (pt_cmpR op_eq (pe_fld (pv 1) rfl) (pe_ix ix_tup (pe_ix ix_tup (pe_fld (pv 1) rfl) pe_int (fun _ _ => rfl)) pe_int (fun _ _ => rfl)) (nomark _)) (pss_one (ps_if (pt_cmpR op_eq (pv 2) pe_str (nomark _)) (pss_cons (ps_asg (pe_ix ix_tup (pe_fld (pv 1) rfl) pe_int (fun _ _ => rfl)) (pg_sub (pv 0) pe_int set_list))
  (pss_one (ps_asg (pe_op op_add (pe_ix ix_list (pv 0) pe_int (fun _ _ => rfl)) pe_int) (pg_sub (pv 0) pe_int set_list)))) (pss_cons (ps_asg pe_str (pg_sub (pv 0) pe_int set_list))
  (pss_cons (ps_asg pe_bl (pg_sub (pv 0) pe_int set_list))
  (pss_one (ps_asg pe_dnewK (pg_sub (pv 0) pe_int set_list))))))) pss_nil)))))), r__law_change LC_Letter h⟩)
abbrev s_Board__change_item : Stmt := inC (topS 10) 8
theorem sc_Board__change_item : FnScope ["self", "letter", "item", "kind"] ["self", "letter"] (C8.fnScope s_Board__change_item) := C8.fnScope_by (by decide +kernel)
theorem c_Board__change_item {f : Addr} {fd : FuncData} (me : Meth K C_Board "_change_item" f) (F : C8.Fun K "_change_item" "Board._change_item" s_Board__change_item f fd) (b : Binds K fd ["self", "letter"] [])
  (LC_Board : IsC_Board K C_Board) (LC_Letter : IsC_Letter K C_Letter) (LC_Item : IsC_Item K C_Item) (c_target : C8.Cal P w K mg base 1 "target" (spTarget K) []) (c_Item_mark : C8.Met P w K mg base 1 C_Item "mark" (spItMark K C_Item) []) (c_Item_edit : C8.Met P w K mg base 1 C_Item "edit" (spItEdit K C_Item) []) (c_Item_recall : C8.Met P w K mg base 1 C_Item "recall" (spItRecall K C_Item) []) :
  C8.Met P w K mg base 2 C_Board "_change_item" (spBChange K C_Letter C_Item C_Board) [] :=
  C8.met0 LC_Board.cl me F b sc_Board__change_item (fun vs H Q E h => l_Board__change_item h) (fun cdv A outer s H vs Q E hr h => ⟨t_Board__change_item K C_Board C_Letter C_Item,
  (pss_cons (ps_set (i := 2) sc_Board__change_item.nd rfl (Or.inl rfl) (pe_dget1 (Wp.hu1 hr) (pe_fld (pv 0) rfl) (C8.pe_c c_target hr (by decide) (by rfl) (pa_cons (pe_fld (pv 1) rfl) pa_nil)) ⟨rfl, rfl, rfl, rfl⟩))
  (pss_cons (ps_if (PW.pt (pw_or (pt_cmpR op_isN (pv 2) pe_non (nomark _)) (pw_or1 (pt_val (pe_fld (pv 2) rfl))))) (pss_one ps_retN) pss_nil)
  (pss_cons (ps_set (i := 3) sc_Board__change_item.nd rfl (Or.inl rfl) (pe_ix ix_tup (pe_fld (pv 1) rfl) pe_int (fun _ _ => rfl)))
  (pss_one (ps_if (pt_cmpR op_eq (pv 3) pe_str (nomark _)) (pss_one (ps_expr (C8.pe_mt c_Item_mark hr (by decide) (pv 2) (pa_cons (pe_ix ix_tup (pe_fld (pv 1) rfl) pe_int (fun _ _ => rfl)) (pa_cons (pe_fld (pv 1) rfl) pa_nil))))) (pss_one (ps_if (pt_cmpR op_eq (pe_fld (pv 2) rfl) (pe_fld (pv 1) rfl) (nomark _)) (pss_one (ps_if (pt_cmpR op_eq (pv 3) pe_str (nomark _)) (pss_one (ps_expr (C8.pe_mt c_Item_edit hr (by decide) (pv 2) (pa_cons (pe_ix ix_tup (pe_fld (pv 1) rfl) pe_int (fun _ _ => rfl)) pa_nil)))) (pss_one (ps_expr (C8.pe_mt0 c_Item_recall hr (by decide) (pv 2)))))) pss_nil))))))), r_Board__change_item LC_Board LC_Letter LC_Item h⟩)
abbrev s__law_people : Stmt := topS 19
theorem sc__law_people : FnScope ["stream", "least", "names", "start", "step", "many", "k"] ["stream", "least"] (C8.fnScope s__law_people) := C8.fnScope_by (by decide +kernel)
theorem c__law_people {f : Addr} {fd : FuncData} (F : C8.Def K mg "_law_people" s__law_people f fd) (b : Binds K fd ["stream", "least"] [])
  (c__law_next : C8.Cal P w K mg base 1 "_law_next" (spNext K) []) (n_range : mg "range" = none) :
  C8.Cal P w K mg base 2 "_law_people" (spPeople K) [] :=
  C8.cal0 F b .nil sc__law_people (fun vs H Q E h => l__law_people h) (fun cdv A outer s H vs Q E hr h => ⟨t__law_people K,
  (pss_cons (ps_set (i := 2) sc__law_people.nd rfl (Or.inr rfl) (pe_lst (pa_cons pe_str (pa_cons pe_str (pa_cons pe_str (pa_cons pe_str (pa_cons pe_str (pa_cons pe_str (pa_cons pe_str (pa_cons pe_str pa_nil))))))))))
  (pss_cons (ps_set (i := 3) sc__law_people.nd rfl (Or.inr rfl) (C8.pe_c c__law_next hr (by decide) (by rfl) (pa_cons (pv 0) (pa_cons pe_int pa_nil))))
  (pss_cons (ps_set (i := 4) sc__law_people.nd rfl (Or.inr rfl) (pe_op op_add pe_int (pe_op op_mul pe_int (C8.pe_c c__law_next hr (by decide) (by rfl) (pa_cons (pv 0) (pa_cons pe_int pa_nil))))))
  (pss_cons (ps_set (i := 5) sc__law_people.nd rfl (Or.inl rfl) (pe_op op_add (pv 1) (C8.pe_c c__law_next hr (by decide) (by rfl) (pa_cons (pv 0) (pa_cons (pe_op op_sub pe_int (pv 1)) pa_nil)))))
  (pss_cons (ps_if (pt_cmpR op_eq (C8.pe_c c__law_next hr (by decide) (by rfl) (pa_cons (pv 0) (pa_cons pe_int pa_nil))) pe_int (nomark _)) (pss_one (ps_set (i := 5) sc__law_people.nd rfl (Or.inl rfl) (pe_op op_add pe_int (C8.pe_c c__law_next hr (by decide) (by rfl) (pa_cons (pv 0) (pa_cons pe_int pa_nil)))))) pss_nil)
  (pss_one (ps_ret (pe_lc (own := [("k", 6)]) (g := (gName 6)) (tt := tYes) (by rfl) sc__law_people.nd (pi_range1 (by rfl) n_range (pa_cons (pv 5) pa_nil)) (blkOk_by (own := [("k", 6)]) (N := ["stream", "least", "names", "start", "step", "many", "k"]) (sc := C8.fnScope s__law_people) (by decide +kernel)) (fun _ _ _ _ _ => (pg_name (i := 6) sc__law_people.nd rfl (Or.inl rfl))) (fun _ _ _ _ _ => pts_nil) (fun _ _ _ _ _ => (pe_ix ix_list (pv 2) (pe_op op_mod (pe_op op_add (pv 3) (pe_op op_mul (pv 4) (pv 6))) pe_int) (fun _ _ => rfl))))))))))), r__law_people h⟩)
abbrev s__law_word : Stmt := topS 20
theorem sc__law_word : FnScope ["stream", "text", "signs", "k"] ["stream"] (C8.fnScope s__law_word) := C8.fnScope_by (by decide +kernel)
theorem c__law_word {f : Addr} {fd : FuncData} (F : C8.Def K mg "_law_word" s__law_word f fd) (b : Binds K fd ["stream"] [])
  (c__law_next : C8.Cal P w K mg base 1 "_law_next" (spNext K) []) (n_range : mg "range" = none) :
  C8.Cal P w K mg base 2 "_law_word" (spLWord K) [] :=
  C8.cal0 F b .nil sc__law_word (fun vs H Q E h => l__law_word h) (fun cdv A outer s H vs Q E hr h => ⟨t__law_word K,
  (pss_cons (ps_set (i := 1) sc__law_word.nd rfl (Or.inl rfl) pe_str)
  (pss_cons (ps_set (i := 2) sc__law_word.nd rfl (Or.inl rfl) pe_str)
  (pss_cons (ps_for PassesOwn.never rfl (pi_range1 (by rfl) n_range (pa_cons (pe_op op_add pe_int (C8.pe_c c__law_next hr (by decide) (by rfl) (pa_cons (pv 0) (pa_cons pe_int pa_nil)))) pa_nil)) (pg_name (i := 3) sc__law_word.nd rfl (Or.inl rfl)) (pss_one (ps_set (i := 1) sc__law_word.nd rfl (Or.inl rfl) (pe_op op_add_str (pv 1) (pe_ix ix_str (pv 2) (C8.pe_c c__law_next hr (by decide) (by rfl) (pa_cons (pv 0) (pa_cons pe_int pa_nil))) (fun _ _ => rfl))))))
  (pss_one (ps_ret (pv 1)))))), r__law_word h⟩)
abbrev s__law_unknown : Stmt := topS 27
theorem sc__law_unknown : FnScope ["board", "ref", "e"] ["board", "ref"] (C8.fnScope s__law_unknown) := C8.fnScope_by (by decide +kernel)
theorem c__law_unknown {f : Addr} {fd : FuncData} (F : C8.Def K mg "_law_unknown" s__law_unknown f fd) (b : Binds K fd ["board", "ref"] [])
  (LC_Board : IsC_Board K C_Board) (LC_Item : IsC_Item K C_Item) (c_Board_item : Wp.XMet P w K mg base 1 C_Board "item" (spBItemX K C_Item C_Board C_Unknown)) (n_isinstance : mg "isinstance" = none) (n_ValueError : mg "ValueError" = none) (XF : ExFacts K C_RoomError C_Unknown) (m_RoomError : mg "RoomError" = some (.ref C_RoomError)) (m_Unknown : mg "Unknown" = some (.ref C_Unknown)) :
  C8.Cal P w K mg base 2 "_law_unknown" (spBUnk K C_Item C_Board) [] :=
  C8.cal0 F b .nil sc__law_unknown (fun vs H Q E h => l__law_unknown h) (fun cdv A outer s H vs Q E hr h => ⟨t__law_unknown K C_Board C_Item C_RoomError C_Unknown,
  (pss_cons (ps_try_as (i := 2) (tb := fun W => (tDrop (Wp.tMethX C_Board "item" (spBItemX K C_Item C_Board C_Unknown) (WE W) (tVar 0) (tCons (tVar 1) tNil)))) (ts := (fun (a : Addr) (cls : Value) (d : Option Addr) (D : Ends) (σ : L2.St) (H : Hp) => (cls = Value.ref C_Unknown ∧ d = none) ∧ (tRet (tAndV (tCB (rIsE K C_Unknown a) (tCons (tVar 2) (tCons (tC (.ref C_RoomError)) tNil))) (tCB (rIsE K C_Unknown a) (tCons (tVar 2) (tCons (tC (.ty "ValueError")) tNil))))) D σ H)) (Wout := fun _ _ _ _ => False) rfl rfl sc__law_unknown.nd rfl rfl ⟨rfl, by decide, Or.inl m_Unknown⟩ takes0 (fun W pn xe tk _ => (pss_one (ps_expr (Wp.pe_ms c_Board_item hr (by decide) tk (pv 0) (pa_cons (pv 1) pa_nil))))) (fun a oe cls d pn hz hf => Wp.pss_given (fun hcd => by obtain ⟨rfl, rfl⟩ := hcd; exact (pss_one (ps_ret (pe_and (pe_callB (call_isE XF.ec hz hf) (by rfl) n_isinstance (by decide +kernel) (pa_cons (pv 2) (pa_cons (C8.pe_gc (by rfl) ⟨_, m_RoomError, rfl⟩) pa_nil))) (pe_one (pe_callB (call_isE XF.ec hz hf) (by rfl) n_isinstance (by decide +kernel) (pa_cons (pv 2) (pa_cons (pe_bltn (v := .ty "ValueError") (by rfl) n_ValueError (by decide +kernel) rfl) pa_nil))))))))))
  (pss_one (ps_ret pe_bl))), r__law_unknown LC_Board LC_Item XF h⟩)
abbrev s_Board__put_item : Stmt := inC (topS 10) 7
theorem sc_Board__put_item : FnScope ["self", "letter", "parent"] ["self", "letter"] (C8.fnScope s_Board__put_item) := C8.fnScope_by (by decide +kernel)
theorem c_Board__put_item {f : Addr} {fd : FuncData} (me : Meth K C_Board "_put_item" f) (F : C8.Fun K "_put_item" "Board._put_item" s_Board__put_item f fd) (b : Binds K fd ["self", "letter"] [])
  (LC_Letter : IsC_Letter K C_Letter) (LC_Board : IsC_Board K C_Board) (LC_Item : IsC_Item K C_Item) (c_target : C8.Cal P w K mg base 1 "target" (spTarget K) []) (c_Item___init__ : C8.Mak P w K mg base 1 "Item" C_Item (spItInit K C_Item) []) (c_Letter_ref : Wp.Prp P w K mg base 1 C_Letter "ref" (spRefP K C_Letter)) (c_text_of : C8.Cal P w K mg base 1 "text_of" (spTextOf K) []) :
  C8.Met P w K mg base 3 C_Board "_put_item" (spBPut K C_Letter C_Item C_Board) [] :=
  C8.met0 LC_Board.cl me F b sc_Board__put_item (fun vs H Q E h => l_Board__put_item h) (fun cdv A outer s H vs Q E hr h => ⟨t_Board__put_item K C_Letter C_Board C_Item,
  (pss_cons (ps_set (i := 2) sc_Board__put_item.nd rfl (Or.inl rfl) (C8.pe_c c_target hr (by decide) (by rfl) (pa_cons (pe_fld (pv 1) rfl) pa_nil)))
  (pss_cons (ps_if (pt_cmp (Wp.pc_dnotinZ (Wp.hu1 hr) (pv 2) (pe_fld (pv 0) rfl))) (pss_one (ps_set (i := 2) sc_Board__put_item.nd rfl (Or.inl rfl) pe_non)) pss_nil)
  (pss_one (ps_dput (Wp.hu1 hr) (pe_fld (pv 0) rfl) (Wp.pe_pp c_Letter_ref hr (by decide) (pv 1) rfl) (C8.pe_mk c_Item___init__ hr (by decide) (by rfl) (pa_cons (Wp.pe_pp c_Letter_ref hr (by decide) (pv 1) rfl) (pa_cons (C8.pe_c c_text_of hr (by decide) (by rfl) (pa_cons (pe_fld (pv 1) rfl) pa_nil)) (pa_cons (pv 2) pa_nil)))) rfl)))), r_Board__put_item LC_Letter LC_Board LC_Item h⟩)
abbrev s__law_text : Stmt := topS 21
theorem sc__law_text : FnScope ["people", "stream", "parts", "k", "kind"] ["people", "stream"] (C8.fnScope s__law_text) := C8.fnScope_by (by decide +kernel)
theorem c__law_text {f : Addr} {fd : FuncData} (F : C8.Def K mg "_law_text" s__law_text f fd) (b : Binds K fd ["people", "stream"] [])
  (c__law_next : C8.Cal P w K mg base 1 "_law_next" (spNext K) []) (c__law_word : C8.Cal P w K mg base 2 "_law_word" (spLWord K) []) (n_range : mg "range" = none) (n_len : mg "len" = none) :
  C8.Cal P w K mg base 3 "_law_text" (spLText K) [] :=
  C8.cal0 F b .nil sc__law_text (fun vs H Q E h => l__law_text h) (fun cdv A outer s H vs Q E hr h => ⟨t__law_text K,
  (pss_cons (ps_set (i := 2) sc__law_text.nd rfl (Or.inl rfl) (pe_lst pa_nil))
  (pss_cons (ps_for PassesOwn.never rfl (pi_range1 (by rfl) n_range (pa_cons (pe_op op_add pe_int (C8.pe_c c__law_next hr (by decide) (by rfl) (pa_cons (pv 1) (pa_cons pe_int pa_nil)))) pa_nil)) (pg_name (i := 3) sc__law_text.nd rfl (Or.inl rfl)) (pss_cons (ps_set (i := 4) sc__law_text.nd rfl (Or.inl rfl) (C8.pe_c c__law_next hr (by decide) (by rfl) (pa_cons (pv 1) (pa_cons pe_int pa_nil))))
  (pss_cons (ps_if (pt_cmpR op_eq (pv 4) pe_int (nomark _)) (pss_one (ps_expr (pe_bm PySem.F.plainAttrs_list PySem.F.slot_list_append PySem.F.type_list_append mt_append (pv 2) (pa_cons (pe_op op_add_str pe_str (pe_ix ix_list (pv 0) (C8.pe_c c__law_next hr (by decide) (by rfl) (pa_cons (pv 1) (pa_cons (pe_callB call_len_seq (by rfl) n_len (by decide +kernel) (pa_cons (pv 0) pa_nil)) pa_nil))) (fun _ _ => rfl))) pa_nil)))) (pss_one (ps_if (pt_cmpR op_eq (pv 4) pe_int (nomark _)) (pss_one (ps_expr (pe_bm PySem.F.plainAttrs_list PySem.F.slot_list_append PySem.F.type_list_append mt_append (pv 2) (pa_cons (pe_ix ix_tup (pe_tup (pa_cons pe_str (pa_cons pe_str (pa_cons pe_str (pa_cons pe_str (pa_cons pe_str (pa_cons pe_str pa_nil))))))) (C8.pe_c c__law_next hr (by decide) (by rfl) (pa_cons (pv 1) (pa_cons pe_int pa_nil))) (fun _ _ => rfl)) pa_nil)))) (pss_one (ps_expr (pe_bm PySem.F.plainAttrs_list PySem.F.slot_list_append PySem.F.type_list_append mt_append (pv 2) (pa_cons (C8.pe_c c__law_word hr (by decide) (by rfl) (pa_cons (pv 1) pa_nil)) pa_nil)))))))
  (pss_one (ps_expr (pe_bm PySem.F.plainAttrs_list PySem.F.slot_list_append PySem.F.type_list_append mt_append (pv 2) (pa_cons (pe_ix ix_tup (pe_tup (pa_cons pe_str (pa_cons pe_str (pa_cons pe_str (pa_cons pe_str (pa_cons pe_str (pa_cons pe_str (pa_cons pe_str (pa_cons pe_str (pa_cons pe_str (pa_cons pe_str (pa_cons pe_str pa_nil)))))))))))) (C8.pe_c c__law_next hr (by decide) (by rfl) (pa_cons (pv 1) (pa_cons pe_int pa_nil))) (fun _ _ => rfl)) pa_nil)))))))
  (pss_one (ps_ret (pe_slice sl_str (pe_op op_mulS (pe_bm PySem.F.plainAttrs_str PySem.F.slot_str_join PySem.F.type_str_join mt_join pe_str (pa_cons (pv 2) pa_nil)) (pe_ix ix_tup (pe_tup (pa_cons pe_int (pa_cons pe_int (pa_cons pe_int (pa_cons pe_int (pa_cons pe_int (pa_cons pe_int (pa_cons pe_int (pa_cons pe_int pa_nil))))))))) (C8.pe_c c__law_next hr (by decide) (by rfl) (pa_cons (pv 1) (pa_cons pe_int pa_nil))) (fun _ _ => rfl))) po_none (po_some pe_int)))))), r__law_text h⟩)
abbrev s__law_ref : Stmt := topS 22
theorem sc__law_ref : FnScope ["letters", "people", "stream"] ["letters", "people", "stream"] (C8.fnScope s__law_ref) := C8.fnScope_by (by decide +kernel)
theorem c__law_ref {f : Addr} {fd : FuncData} (F : C8.Def K mg "_law_ref" s__law_ref f fd) (b : Binds K fd ["letters", "people", "stream"] [])
  (LC_Letter : IsC_Letter K C_Letter) (c__law_next : C8.Cal P w K mg base 1 "_law_next" (spNext K) []) (c_Letter_ref : Wp.Prp P w K mg base 1 C_Letter "ref" (spRefP K C_Letter)) (n_len : mg "len" = none) :
  C8.Cal P w K mg base 3 "_law_ref" (spLRef K C_Letter) [] :=
  C8.cal0 F b .nil sc__law_ref (fun vs H Q E h => l__law_ref h) (fun cdv A outer s H vs Q E hr h => ⟨t__law_ref K C_Letter,
  (pss_cons (ps_if (PW.pt (pw_and (pt_cmpR op_gt (pe_callB call_len_seq (by rfl) n_len (by decide +kernel) (pa_cons (pv 0) pa_nil)) pe_int (nomark _)) (pw_and1 (pt_cmpR op_gt (C8.pe_c c__law_next hr (by decide) (by rfl) (pa_cons (pv 2) (pa_cons pe_int pa_nil))) pe_int (nomark _))))) (pss_one (ps_ret (Wp.pe_pp c_Letter_ref hr (by decide) (pe_ix ix_list (pv 0) (C8.pe_c c__law_next hr (by decide) (by rfl) (pa_cons (pv 2) (pa_cons (pe_callB call_len_seq (by rfl) n_len (by decide +kernel) (pa_cons (pv 0) pa_nil)) pa_nil))) (fun _ _ => rfl)) rfl))) pss_nil)
  (pss_one (ps_ret (pe_tup (pa_cons (pe_ix ix_list (pv 1) (C8.pe_c c__law_next hr (by decide) (by rfl) (pa_cons (pv 2) (pa_cons (pe_callB call_len_seq (by rfl) n_len (by decide +kernel) (pa_cons (pv 1) pa_nil)) pa_nil))) (fun _ _ => rfl)) (pa_cons (pe_op op_add pe_int (C8.pe_c c__law_next hr (by decide) (by rfl) (pa_cons (pv 2) (pa_cons pe_int pa_nil)))) pa_nil)))))), r__law_ref LC_Letter h⟩)
abbrev s__law_model : Stmt := topS 25
theorem sc__law_model : FnScope ["letters", "items", "model", "letter", "kind", "parent"] ["letters"] (C8.fnScope s__law_model) := C8.fnScope_by (by decide +kernel)
theorem c__law_model {f : Addr} {fd : FuncData} (F : C8.Def K mg "_law_model" s__law_model f fd) (b : Binds K fd ["letters"] [])
  (LC_Letter : IsC_Letter K C_Letter) (c_Letter_ref : Wp.Prp P w K mg base 1 C_Letter "ref" (spRefP K C_Letter)) (c__law_change : C8.Cal P w K mg base 1 "_law_change" (spLChange K C_Letter) []) :
  C8.Cal P w K mg base 3 "_law_model" (spModel K C_Letter) [] :=
  C8.cal0 F b .nil sc__law_model (fun vs H Q E h => l__law_model h) (fun cdv A outer s H vs Q E hr h => ⟨t__law_model K C_Letter,
  (pss_cons (ps_set (i := 1) sc__law_model.nd rfl (Or.inl rfl) pe_dnewT)
  (pss_cons (ps_set (i := 2) sc__law_model.nd rfl (Or.inl rfl) (pe_disp (pps_cons pe_str pe_str (pps_cons pe_str pe_non (pps_cons pe_str (pv 1) (pps_cons pe_str (pe_lst pa_nil) pps_nil)))) (by rfl) (by rfl) (fun z => by cases z) (by decide)))
  (pss_cons (ps_for PassesOwn.never rfl (pi_list (pv 0)) (pg_name (i := 3) sc__law_model.nd rfl (Or.inl rfl)) (pss_cons (ps_set (i := 4) sc__law_model.nd rfl (Or.inl rfl) (pe_ix ix_tup (pe_fld (pv 3) rfl) pe_int (fun _ _ => rfl)))
  (pss_cons (ps_if (pt_cmpR op_eq (pv 4) pe_str (nomark _)) (pss_one (ps_dput (Wp.hu1 hr) (pv 2) pe_str (pe_fld (pv 3) rfl) rfl)) pss_nil)
  (pss_cons (ps_if (pt_cmpR op_in_seq (pv 4) (pe_tup (pa_cons pe_str (pa_cons pe_str pa_nil))) (by rfl)) (pss_one (ps_dput (Wp.hu1 hr) (pv 2) pe_str (pe_ix ix_tup (pe_fld (pv 3) rfl) pe_int (fun _ _ => rfl)) rfl)) pss_nil)
  (pss_cons (ps_if (pt_cmpR op_in_seq (pv 4) (pe_tup (pa_cons pe_str (pa_cons pe_str (pa_cons pe_str pa_nil)))) (by rfl)) (pss_one (ps_expr (pe_bm PySem.F.plainAttrs_list PySem.F.slot_list_append PySem.F.type_list_append mt_append (pe_dget (Wp.hu1 hr) (pv 2) pe_str (fun _ _ => rfl)) (pa_cons (pe_tup (pa_cons (Wp.pe_pp c_Letter_ref hr (by decide) (pv 3) rfl) (pa_cons (pv 4) (pa_cons (pe_ix ix_tup (pe_fld (pv 3) rfl) pe_int (fun _ _ => rfl)) pa_nil)))) pa_nil)))) pss_nil)
  (pss_cons (ps_if (pt_cmpR op_eq (pv 4) pe_str (nomark _)) (pss_one (ps_dput (Wp.hu1 hr) (pv 1) (Wp.pe_pp c_Letter_ref hr (by decide) (pv 3) rfl) (pe_lst (pa_cons (pe_ix ix_tup (pe_fld (pv 3) rfl) pe_int (fun _ _ => rfl)) (pa_cons pe_non (pa_cons pe_int (pa_cons pe_bl (pa_cons pe_dnewK pa_nil)))))) rfl)) pss_nil)
  (pss_cons (ps_if (pt_cmpR op_eq (pv 4) pe_str (nomark _)) (pss_cons (ps_set (i := 5) sc__law_model.nd rfl (Or.inl rfl) (pe_ix ix_tup (pe_fld (pv 3) rfl) pe_int (fun _ _ => rfl)))
  (pss_cons (ps_if (pt_cmp (pc_dnotin (Wp.hu1 hr) (pv 5) (pv 1))) (pss_one (ps_set (i := 5) sc__law_model.nd rfl (Or.inl rfl) pe_non)) pss_nil)
  (pss_one (ps_dput (Wp.hu1 hr) (pv 1) (Wp.pe_pp c_Letter_ref hr (by decide) (pv 3) rfl) (pe_lst (pa_cons (pe_ix ix_tup (pe_fld (pv 3) rfl) pe_int (fun _ _ => rfl)) (pa_cons (pv 5) (pa_cons pe_int (pa_cons pe_bl (pa_cons pe_dnewK pa_nil)))))) rfl)))) pss_nil)
  (pss_one (ps_if (PW.pt (pw_and (pt_cmpR op_in_seq (pv 4) (pe_tup (pa_cons pe_str (pa_cons pe_str (pa_cons pe_str pa_nil)))) (by rfl)) (pw_and1 (pt_cmp (pc_din (Wp.hu1 hr) (pe_ix ix_tup (pe_fld (pv 3) rfl) pe_int (fun _ _ => rfl)) (pv 1)))))) (pss_one (ps_expr (C8.pe_c c__law_change hr (by decide) (by rfl) (pa_cons (pe_dget (Wp.hu1 hr) (pv 1) (pe_ix ix_tup (pe_fld (pv 3) rfl) pe_int (fun _ _ => rfl)) (fun _ _ => rfl)) (pa_cons (pv 3) pa_nil))))) pss_nil)))))))))
  (pss_one (ps_ret (pv 2)))))), r__law_model LC_Letter h⟩)
abbrev s__law_item : Stmt := topS 28
theorem sc__law_item : FnScope ["item", "ref", "due"] ["item", "ref", "due"] (C8.fnScope s__law_item) := C8.fnScope_by (by decide +kernel)
theorem c__law_item {f : Addr} {fd : FuncData} (F : C8.Def K mg "_law_item" s__law_item f fd) (b : Binds K fd ["item", "ref", "due"] [])
  (LC_Item : IsC_Item K C_Item) (c_Item_ref : Wp.Prp P w K mg base 1 C_Item "ref" (spItRef K C_Item)) (c__law_is : C8.Cal P w K mg base 1 "_law_is" (spIs K) []) (c__law_flag : C8.Cal P w K mg base 1 "_law_flag" (spFlag K) []) :
  C8.Cal P w K mg base 3 "_law_item" (spLItem K C_Item) [] :=
  C8.cal0 F b .nil sc__law_item (fun vs H Q E h => l__law_item h) (fun cdv A outer s H vs Q E hr h => ⟨t__law_item K C_Item,
  (pss_cons (ps_if (PW.pt (pw_or (pt_cmpR (op_neD hr.units) (Wp.pe_pp c_Item_ref hr (by decide) (pv 0) rfl) (pv 1) (nomark _)) (pw_or (pt_cmpR op_ne (pe_fld (pv 0) rfl) (pe_ix ix_tup (pv 1) pe_int (fun _ _ => rfl)) (nomark _)) (pw_or (pt_cmpR op_ne (pe_fld (pv 0) rfl) (pe_ix ix_list (pv 2) pe_int (fun _ _ => rfl)) (nomark _)) (pw_or1 (pt_cmpR (op_neD hr.units) (pe_fld (pv 0) rfl) (pe_ix ix_list (pv 2) pe_int (fun _ _ => rfl)) (nomark _))))))) (pss_one (ps_ret pe_bl)) pss_nil)
  (pss_one (ps_ret (pe_and (C8.pe_c c__law_is hr (by decide) (by rfl) (pa_cons (pe_fld (pv 0) rfl) (pa_cons (pe_ix ix_list (pv 2) pe_int (fun _ _ => rfl)) pa_nil))) (pe_one (C8.pe_c c__law_flag hr (by decide) (by rfl) (pa_cons (pe_fld (pv 0) rfl) (pa_cons (pe_ix ix_list (pv 2) pe_int (fun _ _ => rfl)) pa_nil)))))))), r__law_item LC_Item h⟩)
abbrev s_Board_show : Stmt := inC (topS 10) 6
theorem sc_Board_show : FnScope ["self", "letter", "kind"] ["self", "letter"] (C8.fnScope s_Board_show) := C8.fnScope_by (by decide +kernel)
theorem c_Board_show {f : Addr} {fd : FuncData} (me : Meth K C_Board "show" f) (F : C8.Fun K "show" "Board.show" s_Board_show f fd) (b : Binds K fd ["self", "letter"] [])
  (LC_Letter : IsC_Letter K C_Letter) (LC_Board : IsC_Board K C_Board) (LC_Item : IsC_Item K C_Item) (c_Board__put_item : C8.Met P w K mg base 3 C_Board "_put_item" (spBPut K C_Letter C_Item C_Board) []) (c_Board__change_item : C8.Met P w K mg base 2 C_Board "_change_item" (spBChange K C_Letter C_Item C_Board) []) (c_is_act : C8.Cal P w K mg base 1 "is_act" (spIsAct K) []) (c_Letter_ref : Wp.Prp P w K mg base 1 C_Letter "ref" (spRefP K C_Letter)) :
  C8.Met P w K mg base 4 C_Board "show" (spBShow K C_Letter C_Item C_Board) [] :=
  C8.met0 LC_Board.cl me F b sc_Board_show (fun vs H Q E h => l_Board_show h) (fun cdv A outer s H vs Q E hr h => ⟨t_Board_show K C_Letter C_Board C_Item,
  (pss_cons (ps_set (i := 2) sc_Board_show.nd rfl (Or.inl rfl) (pe_ix ix_tup (pe_fld (pv 1) rfl) pe_int (fun _ _ => rfl)))
  (pss_one (ps_if (pt_cmpR op_eq (pv 2) pe_str (nomark _)) (pss_cons (ps_fld (pv 0) (pe_ix ix_tup (pe_fld (pv 1) rfl) pe_int (fun _ _ => rfl)) rfl)
  (pss_one (ps_fld (pv 0) (pe_fld (pv 1) rfl) rfl))) (pss_one (ps_if (pt_cmpR op_eq (pv 2) pe_str (nomark _)) (pss_one (ps_fld (pv 0) (pe_ix ix_tup (pe_fld (pv 1) rfl) pe_int (fun _ _ => rfl)) rfl)) (pss_one (ps_if (pt_cmpR op_in_seq (pv 2) (pe_tup (pa_cons pe_str (pa_cons pe_str pa_nil))) (by rfl)) (pss_one (ps_expr (C8.pe_mt c_Board__put_item hr (by decide) (pv 0) (pa_cons (pv 1) pa_nil)))) (pss_one (ps_if (pt_cmpR op_in_seq (pv 2) (pe_tup (pa_cons pe_str (pa_cons pe_str (pa_cons pe_str pa_nil)))) (by rfl)) (pss_one (ps_expr (C8.pe_mt c_Board__change_item hr (by decide) (pv 0) (pa_cons (pv 1) pa_nil)))) (pss_one (ps_if (pt_val (C8.pe_c c_is_act hr (by decide) (by rfl) (pa_cons (pe_fld (pv 1) rfl) pa_nil))) (pss_one (ps_expr (pe_bm PySem.F.plainAttrs_list PySem.F.slot_list_append PySem.F.type_list_append mt_append (pe_fld (pv 0) rfl) (pa_cons (pe_tup (pa_cons (Wp.pe_pp c_Letter_ref hr (by decide) (pv 1) rfl) (pa_cons (pv 2) (pa_cons (pe_ix ix_tup (pe_fld (pv 1) rfl) pe_int (fun _ _ => rfl)) pa_nil)))) pa_nil)))) pss_nil))))))))))), r_Board_show LC_Letter LC_Board LC_Item h⟩)
abbrev s__law_body : Stmt := topS 23
theorem sc__law_body : FnScope ["letters", "people", "stream", "kind", "ref", "name", "act"] ["letters", "people", "stream"] (C8.fnScope s__law_body) := C8.fnScope_by (by decide +kernel)
theorem c__law_body {f : Addr} {fd : FuncData} (F : C8.Def K mg "_law_body" s__law_body f fd) (b : Binds K fd ["letters", "people", "stream"] [])
  (LC_Letter : IsC_Letter K C_Letter) (c__law_next : C8.Cal P w K mg base 1 "_law_next" (spNext K) []) (c__law_ref : C8.Cal P w K mg base 3 "_law_ref" (spLRef K C_Letter) []) (c__law_text : C8.Cal P w K mg base 3 "_law_text" (spLText K) []) (c__law_word : C8.Cal P w K mg base 2 "_law_word" (spLWord K) []) (n_len : mg "len" = none) :
  C8.Cal P w K mg base 4 "_law_body" (spLBody K C_Letter) [] :=
  C8.cal0 F b .nil sc__law_body (fun vs H Q E h => l__law_body h) (fun cdv A outer s H vs Q E hr h => ⟨t__law_body K C_Letter,
  (pss_cons (ps_set (i := 3) sc__law_body.nd rfl (Or.inl rfl) (C8.pe_c c__law_next hr (by decide) (by rfl) (pa_cons (pv 2) (pa_cons pe_int pa_nil))))
  (pss_cons (ps_set (i := 4) sc__law_body.nd rfl (Or.inl rfl) (C8.pe_c c__law_ref hr (by decide) (by rfl) (pa_cons (pv 0) (pa_cons (pv 1) (pa_cons (pv 2) pa_nil)))))
  (pss_cons (ps_if (pt_cmpR op_lt (pv 3) pe_int (nomark _)) (pss_one (ps_ret (pe_tup (pa_cons pe_str (pa_cons (C8.pe_c c__law_text hr (by decide) (by rfl) (pa_cons (pv 1) (pa_cons (pv 2) pa_nil))) pa_nil))))) pss_nil)
  (pss_cons (ps_if (pt_cmpR op_lt (pv 3) pe_int (nomark _)) (pss_one (ps_ret (pe_tup (pa_cons pe_str (pa_cons (pv 4) (pa_cons (C8.pe_c c__law_text hr (by decide) (by rfl) (pa_cons (pv 1) (pa_cons (pv 2) pa_nil))) pa_nil)))))) pss_nil)
  (pss_cons (ps_if (pt_cmpR op_lt (pv 3) pe_int (nomark _)) (pss_one (ps_ret (pe_tup (pa_cons pe_str (pa_cons (pv 4) (pa_cons (C8.pe_c c__law_text hr (by decide) (by rfl) (pa_cons (pv 1) (pa_cons (pv 2) pa_nil))) pa_nil)))))) pss_nil)
  (pss_cons (ps_if (pt_cmpR op_lt (pv 3) pe_int (nomark _)) (pss_one (ps_ret (pe_tup (pa_cons pe_str (pa_cons (pv 4) (pa_cons (pe_ix ix_tup (pe_tup (pa_cons pe_str (pa_cons pe_str (pa_cons pe_str (pa_cons pe_str pa_nil))))) (C8.pe_c c__law_next hr (by decide) (by rfl) (pa_cons (pv 2) (pa_cons pe_int pa_nil))) (fun _ _ => rfl)) pa_nil)))))) pss_nil)
  (pss_cons (ps_set (i := 5) sc__law_body.nd rfl (Or.inl rfl) (pe_ix ix_list (pv 1) (C8.pe_c c__law_next hr (by decide) (by rfl) (pa_cons (pv 2) (pa_cons (pe_callB call_len_seq (by rfl) n_len (by decide +kernel) (pa_cons (pv 1) pa_nil)) pa_nil))) (fun _ _ => rfl)))
  (pss_cons (ps_set (i := 6) sc__law_body.nd rfl (Or.inl rfl) (pe_tup (pa_cons (pe_ix ix_tup (pe_tup (pa_cons pe_str (pa_cons pe_str pa_nil))) (C8.pe_c c__law_next hr (by decide) (by rfl) (pa_cons (pv 2) (pa_cons pe_int pa_nil))) (fun _ _ => rfl)) (pa_cons (pv 5) pa_nil))))
  (pss_one (ps_ret (pe_ix ix_tup (pe_tup (pa_cons (pe_tup (pa_cons pe_str (pa_cons (pv 4) pa_nil))) (pa_cons (pe_tup (pa_cons pe_str (pa_cons (pe_op op_mulS (C8.pe_c c__law_word hr (by decide) (by rfl) (pa_cons (pv 2) pa_nil)) (C8.pe_c c__law_next hr (by decide) (by rfl) (pa_cons (pv 2) (pa_cons pe_int pa_nil)))) pa_nil))) (pa_cons (pe_tup (pa_cons pe_str (pa_cons (pv 5) pa_nil))) (pa_cons (pv 6) (pa_cons (pe_tup (pa_cons pe_str pa_nil)) pa_nil)))))) (pe_op op_sub (pv 3) pe_int) (fun _ _ => rfl)))))))))))), r__law_body LC_Letter h⟩)
abbrev s_board_of : Stmt := topS 11
theorem sc_board_of : FnScope ["letters", "board", "letter"] ["letters"] (C8.fnScope s_board_of) := C8.fnScope_by (by decide +kernel)
theorem c_board_of {f : Addr} {fd : FuncData} (F : C8.Def K mg "board_of" s_board_of f fd) (b : Binds K fd ["letters"] [])
  (LC_Board : IsC_Board K C_Board) (LC_Item : IsC_Item K C_Item) (LC_Letter : IsC_Letter K C_Letter) (c_Board___init__ : C8.Mak P w K mg base 1 "Board" C_Board (spBInit K C_Board) []) (c_Board_show : C8.Met P w K mg base 4 C_Board "show" (spBShow K C_Letter C_Item C_Board) []) :
  C8.Cal P w K mg base 5 "board_of" (spBoardOf K C_Letter C_Item C_Board) [] :=
  C8.cal0 F b .nil sc_board_of (fun vs H Q E h => l_board_of h) (fun cdv A outer s H vs Q E hr h => ⟨t_board_of K C_Board C_Item C_Letter,
  (pss_cons (ps_set (i := 1) sc_board_of.nd rfl (Or.inl rfl) (Wp.pe_mk0 c_Board___init__ hr (by decide) (by rfl)))
  (pss_cons (ps_for PassesOwn.never rfl (pi_list (pv 0)) (pg_name (i := 2) sc_board_of.nd rfl (Or.inl rfl)) (pss_one (ps_expr (C8.pe_mt c_Board_show hr (by decide) (pv 1) (pa_cons (pv 2) pa_nil)))))
  (pss_one (ps_ret (pv 1))))), r_board_of LC_Board LC_Item LC_Letter h⟩)
abbrev s__law_letters : Stmt := topS 24
theorem sc__law_letters : FnScope ["script", "people", "least", "letters", "counts", "k", "stream", "author", "name", "seen", "body"] ["script", "people", "least"] (C8.fnScope s__law_letters) := C8.fnScope_by (by decide +kernel)
theorem c__law_letters {f : Addr} {fd : FuncData} (F : C8.Def K mg "_law_letters" s__law_letters f fd) (b : Binds K fd ["script", "people", "least"] [])
  (LC_Letter : IsC_Letter K C_Letter) (c__law_stream : C8.Cal P w K mg base 1 "_law_stream" (spStream K) []) (c__law_next : C8.Cal P w K mg base 1 "_law_next" (spNext K) []) (c__law_body : C8.Cal P w K mg base 4 "_law_body" (spLBody K C_Letter) []) (c_Letter___init__ : C8.Mak P w K mg base 1 "Letter" C_Letter (spInit K C_Letter) []) (n_range : mg "range" = none) (n_min : mg "min" = none) (n_len : mg "len" = none) (n_tuple : mg "tuple" = none) (n_sorted : mg "sorted" = none) :
  C8.Cal P w K mg base 5 "_law_letters" (spLetters K C_Letter) [] :=
  C8.cal0 F b .nil sc__law_letters (fun vs H Q E h => l__law_letters h) (fun cdv A outer s H vs Q E hr h => ⟨t__law_letters K C_Letter,
  (pss_cons (ps_set (i := 3) sc__law_letters.nd rfl (Or.inl rfl) (pe_lst pa_nil))
  (pss_cons (ps_set (i := 4) sc__law_letters.nd rfl (Or.inr rfl) pe_dnewK)
  (pss_cons (ps_for PassesOwn.never rfl (pi_range2 (by rfl) n_range (pa_cons (pv 2) (pa_cons (pe_callB (call_min2 rfl) (by rfl) n_min (by decide +kernel) (pa_cons (pe_callB call_len_seq (by rfl) n_len (by decide +kernel) (pa_cons (pv 0) pa_nil)) (pa_cons pe_int pa_nil))) pa_nil))) (pg_name (i := 5) sc__law_letters.nd rfl (Or.inl rfl)) (pss_cons (ps_set (i := 6) sc__law_letters.nd rfl (Or.inl rfl) (C8.pe_c c__law_stream hr (by decide) (by rfl) (pa_cons (pe_ix ix_list (pv 0) (pv 5) (fun _ _ => rfl)) (pa_cons (pv 5) pa_nil))))
  (pss_cons (ps_set (i := 7) sc__law_letters.nd rfl (Or.inl rfl) (pe_ix ix_list (pv 1) (C8.pe_c c__law_next hr (by decide) (by rfl) (pa_cons (pv 6) (pa_cons (pe_callB call_len_seq (by rfl) n_len (by decide +kernel) (pa_cons (pv 1) pa_nil)) pa_nil))) (fun _ _ => rfl)))
  (pss_cons (ps_dput (Wp.hu1 hr) (pv 4) (pv 7) (pe_op op_add (pe_dget2 (Wp.hu1 hr) (pv 4) (pv 7) pe_int ⟨rfl, rfl, rfl, rfl⟩) pe_int) rfl)
  (pss_cons (ps_set (i := 9) sc__law_letters.nd rfl (Or.inl rfl) (pe_callTy call_tuple_of (by rfl) n_tuple (by decide +kernel) (pa_cons (pe_lc (own := [("name", 8)]) (g := (gName 8)) (tt := tYes) (by rfl) sc__law_letters.nd (pi_list (pe_callB (call_sortedD rfl) (by rfl) n_sorted (by decide +kernel) (pa_cons (pv 4) pa_nil))) (blkOk_by (own := [("name", 8)]) (N := ["script", "people", "least", "letters", "counts", "k", "stream", "author", "name", "seen", "body"]) (sc := C8.fnScope s__law_letters) (by decide +kernel)) (fun _ _ _ _ _ => (pg_name (i := 8) sc__law_letters.nd rfl (Or.inl rfl))) (fun _ _ _ _ _ => pts_nil) (fun _ _ _ _ _ => (pe_tup (pa_cons (pv 8) (pa_cons (pe_dget (Wp.hu1 hr) (pv 4) (pv 8) (fun _ _ => rfl)) pa_nil))))) pa_nil)))
  (pss_cons (ps_set (i := 10) sc__law_letters.nd rfl (Or.inl rfl) (C8.pe_c c__law_body hr (by decide) (by rfl) (pa_cons (pv 3) (pa_cons (pv 1) (pa_cons (pv 6) pa_nil)))))
  (pss_one (ps_expr (pe_bm PySem.F.plainAttrs_list PySem.F.slot_list_append PySem.F.type_list_append mt_append (pv 3) (pa_cons (C8.pe_mk c_Letter___init__ hr (by decide) (by rfl) (pa_cons (pv 7) (pa_cons (pe_dget (Wp.hu1 hr) (pv 4) (pv 7) (fun _ _ => rfl)) (pa_cons (pe_op op_add (pv 5) pe_int) (pa_cons (pv 9) (pa_cons (pv 10) pa_nil)))))) pa_nil))))))))))
  (pss_one (ps_ret (pv 3)))))), r__law_letters LC_Letter h⟩)
abbrev s_law : Stmt := topS 29
theorem sc_law : FnScope ["script", "cell", "stream", "people", "letters", "founder", "title", "at", "given", "board", "model", "items", "letter", "item", "ref", "other"] ["script"] (C8.fnScope s_law) := C8.fnScope_by (by decide +kernel)
theorem f_law {f : Addr} {fd : FuncData} (F : C8.Fun K "law" "law" s_law f fd)
  (LC_Letter : IsC_Letter K C_Letter) (LC_Board : IsC_Board K C_Board) (LC_Item : IsC_Item K C_Item) (c__law_stream : C8.Cal P w K mg base 1 "_law_stream" (spStream K) []) (c__law_people : C8.Cal P w K mg base 2 "_law_people" (spPeople K) []) (c__law_letters : C8.Cal P w K mg base 5 "_law_letters" (spLetters K C_Letter) []) (c__law_next : C8.Cal P w K mg base 1 "_law_next" (spNext K) []) (c_Letter___init__ : C8.Mak P w K mg base 1 "Letter" C_Letter (spInit K C_Letter) []) (c_board_of : C8.Cal P w K mg base 5 "board_of" (spBoardOf K C_Letter C_Item C_Board) []) (c__law_model : C8.Cal P w K mg base 3 "_law_model" (spModel K C_Letter) []) (c_Letter_ref : Wp.Prp P w K mg base 1 C_Letter "ref" (spRefP K C_Letter)) (c__law_is : C8.Cal P w K mg base 1 "_law_is" (spIs K) []) (c_Board___len__ : C8.Met P w K mg base 1 C_Board "__len__" (spBLen K C_Item C_Board) []) (c_Board___iter__ : Wp.MetN P w K mg base 1 C_Board "__iter__" (spBIter K C_Board)) (c_Item_ref : Wp.Prp P w K mg base 1 C_Item "ref" (spItRef K C_Item)) (c__law_item : C8.Cal P w K mg base 3 "_law_item" (spLItem K C_Item) []) (c__law_flag : C8.Cal P w K mg base 1 "_law_flag" (spFlag K) []) (c_Board___contains__ : C8.Met P w K mg base 1 C_Board "__contains__" (spBHas K C_Item C_Board) []) (c_Board_item : Wp.XMet P w K mg base 1 C_Board "item" (spBItemX K C_Item C_Board C_Unknown)) (c__law_unknown : C8.Cal P w K mg base 2 "_law_unknown" (spBUnk K C_Item C_Board) []) (n_len : mg "len" = none) (n_list : mg "list" = none) (XF : ExFacts K C_RoomError C_Unknown) (m_RoomError : mg "RoomError" = some (.ref C_RoomError)) (m_Unknown : mg "Unknown" = some (.ref C_Unknown)) :
  FnOk P w K mg base C8.CX0 6 f fd ["script"] (spLaw K) :=
  C8.fn0 F sc_law (fun vs H Q E h => l_law h) (fun cdv A outer s H vs Q E hr h => ⟨t_law K C_Letter C_Board C_Item C_RoomError C_Unknown s.heap.objs.size,
  (pss_cons (ps_set (i := 1) sc_law.nd rfl (Or.inl rfl) pe_int)
  (pss_cons (ps_if (pt_cmpR op_gt (pe_callB call_len_seq (by rfl) n_len (by decide +kernel) (pa_cons (pv 0) pa_nil)) pe_int (nomark _)) (pss_one (ps_set (i := 1) sc_law.nd rfl (Or.inl rfl) (pe_ix ix_list (pv 0) pe_int (fun _ _ => rfl)))) pss_nil)
  (pss_cons (ps_set (i := 2) sc_law.nd rfl (Or.inl rfl) (C8.pe_c c__law_stream hr (by decide) (by rfl) (pa_cons (pv 1) (pa_cons pe_int pa_nil))))
  (pss_cons (ps_set (i := 3) sc_law.nd rfl (Or.inl rfl) (C8.pe_c c__law_people hr (by decide) (by rfl) (pa_cons (pv 2) (pa_cons pe_int pa_nil))))
  (pss_cons (ps_set (i := 4) sc_law.nd rfl (Or.inl rfl) (C8.pe_c c__law_letters hr (by decide) (by rfl) (pa_cons (pv 0) (pa_cons (pv 3) (pa_cons pe_int pa_nil)))))
  (pss_cons (ps_for PassesOwn.never rfl (pi_list (pe_lst (pa_cons pe_str (pa_cons pe_str pa_nil)))) (pg_name (i := 5) sc_law.nd rfl (Or.inl rfl)) (pss_one (ps_if (pt_cmpR op_eq (C8.pe_c c__law_next hr (by decide) (by rfl) (pa_cons (pv 2) (pa_cons pe_int pa_nil))) pe_int (nomark _)) (pss_cons (ps_set (i := 6) sc_law.nd rfl (Or.inl rfl) (pe_ix ix_tup (pe_tup (pa_cons pe_str (pa_cons (pe_op op_add_str pe_str (pv 5)) pa_nil))) (C8.pe_c c__law_next hr (by decide) (by rfl) (pa_cons (pv 2) (pa_cons pe_int pa_nil))) (fun _ _ => rfl)))
  (pss_cons (ps_set (i := 7) sc_law.nd rfl (Or.inl rfl) (pe_op op_mul (C8.pe_c c__law_next hr (by decide) (by rfl) (pa_cons (pv 2) (pa_cons (pe_op op_add (pe_callB call_len_seq (by rfl) n_len (by decide +kernel) (pa_cons (pv 4) pa_nil)) pe_int) pa_nil))) (C8.pe_c c__law_next hr (by decide) (by rfl) (pa_cons (pv 2) (pa_cons pe_int pa_nil)))))
  (pss_one (ps_expr (pe_bm PySem.F.plainAttrs_list PySem.F.slot_list_insert PySem.F.type_list_insert mt_insert (pv 4) (pa_cons (pv 7) (pa_cons (C8.pe_mk c_Letter___init__ hr (by decide) (by rfl) (pa_cons (pv 5) (pa_cons pe_int (pa_cons pe_int (pa_cons (pe_tup (pa_cons (pe_tup (pa_cons (pv 5) (pa_cons pe_int pa_nil))) pa_nil)) (pa_cons (pe_tup (pa_cons pe_str (pa_cons (pv 6) (pa_cons (pe_tup (pa_cons pe_str pa_nil)) pa_nil)))) pa_nil)))))) pa_nil))))))) pss_nil)))
  (pss_cons (ps_set (i := 8) sc_law.nd rfl (Or.inl rfl) (pe_callTy call_list_of (by rfl) n_list (by decide +kernel) (pa_cons (pv 4) pa_nil)))
  (pss_cons (ps_set (i := 9) sc_law.nd rfl (Or.inl rfl) (C8.pe_c c_board_of hr (by decide) (by rfl) (pa_cons (pv 8) pa_nil)))
  (pss_cons (ps_set (i := 10) sc_law.nd rfl (Or.inl rfl) (C8.pe_c c__law_model hr (by decide) (by rfl) (pa_cons (pv 4) pa_nil)))
  (pss_cons (ps_set (i := 11) sc_law.nd rfl (Or.inl rfl) (pe_dget (Wp.hu1 hr) (pv 10) pe_str (fun _ _ => rfl)))
  (pss_cons (ps_if (PW.pt (pw_or (pt_cmpR (op_neD hr.units) (pe_lc (own := [("letter", 12)]) (g := (gName 12)) (tt := tYes) (by rfl) sc_law.nd (pi_list (pv 8)) (blkOk_by (own := [("letter", 12)]) (N := ["script", "cell", "stream", "people", "letters", "founder", "title", "at", "given", "board", "model", "items", "letter", "item", "ref", "other"]) (sc := C8.fnScope s_law) (by decide +kernel)) (fun _ _ _ _ _ => (pg_name (i := 12) sc_law.nd rfl (Or.inl rfl))) (fun _ _ _ _ _ => pts_nil) (fun _ _ _ _ _ => (Wp.pe_pp c_Letter_ref hr (by decide) (pv 12) rfl))) (pe_lc (own := [("letter", 12)]) (g := (gName 12)) (tt := tYes) (by rfl) sc_law.nd (pi_list (pv 4)) (blkOk_by (own := [("letter", 12)]) (N := ["script", "cell", "stream", "people", "letters", "founder", "title", "at", "given", "board", "model", "items", "letter", "item", "ref", "other"]) (sc := C8.fnScope s_law) (by decide +kernel)) (fun _ _ _ _ _ => (pg_name (i := 12) sc_law.nd rfl (Or.inl rfl))) (fun _ _ _ _ _ => pts_nil) (fun _ _ _ _ _ => (Wp.pe_pp c_Letter_ref hr (by decide) (pv 12) rfl))) (nomark _)) (pw_or (pt_cmpR op_ne (pe_fld (pv 9) rfl) (pe_dget (Wp.hu1 hr) (pv 10) pe_str (fun _ _ => rfl)) (nomark _)) (pw_or1 (pt_cmpR (op_neD hr.units) (pe_fld (pv 9) rfl) (pe_dget (Wp.hu1 hr) (pv 10) pe_str (fun _ _ => rfl)) (nomark _)))))) (pss_one (ps_ret pe_bl)) pss_nil)
  (pss_cons (ps_if (PW.pt (pw_or (pt_not (pt_val (C8.pe_c c__law_is hr (by decide) (by rfl) (pa_cons (pe_callB (Wp.cr_lenOwn c_Board___len__ hr (by decide)) (by rfl) n_len (by decide +kernel) (pa_cons (pv 9) pa_nil)) (pa_cons (pe_callB call_len_dT (by rfl) n_len (by decide +kernel) (pa_cons (pv 11) pa_nil)) pa_nil))))) (pw_or1 (pt_cmpR (op_neD hr.units) (pe_lock (pe_lc (own := [("item", 13)]) (g := (gName 13)) (tt := tYes) (by rfl) sc_law.nd (Wp.pi_ownV c_Board___iter__ hr (by decide) (pv 9)) (blkOk_by (own := [("item", 13)]) (N := ["script", "cell", "stream", "people", "letters", "founder", "title", "at", "given", "board", "model", "items", "letter", "item", "ref", "other"]) (sc := C8.fnScope s_law) (by decide +kernel)) (fun _ _ _ _ _ => (pg_name (i := 13) sc_law.nd rfl (Or.inl rfl))) (fun _ _ _ _ _ => pts_nil) (fun _ _ _ _ _ => (Wp.pe_pp c_Item_ref hr (by decide) (pv 13) rfl)))) (pe_lock (pe_lc (own := [("ref", 14)]) (g := (gName 14)) (tt := tYes) (by rfl) sc_law.nd (pi_keys (pv 11)) (blkOk_by (own := [("ref", 14)]) (N := ["script", "cell", "stream", "people", "letters", "founder", "title", "at", "given", "board", "model", "items", "letter", "item", "ref", "other"]) (sc := C8.fnScope s_law) (by decide +kernel)) (fun _ _ _ _ _ => (pg_name (i := 14) sc_law.nd rfl (Or.inl rfl))) (fun _ _ _ _ _ => pts_nil) (fun _ _ _ _ _ => (pv 14)))) (nomark _))))) (pss_one (ps_ret pe_bl)) pss_nil)
  (pss_cons (ps_lock (ps_for PassesOwn.never rfl (Wp.pi_ownV c_Board___iter__ hr (by decide) (pv 9)) (pg_name (i := 13) sc_law.nd rfl (Or.inl rfl)) (pss_one (ps_if (PW.pt (pw_or (pt_not (pt_val (C8.pe_c c__law_item hr (by decide) (by rfl) (pa_cons (pv 13) (pa_cons (Wp.pe_pp c_Item_ref hr (by decide) (pv 13) rfl) (pa_cons (pe_dget (Wp.hu1 hr) (pv 11) (Wp.pe_pp c_Item_ref hr (by decide) (pv 13) rfl) (fun _ _ => rfl)) pa_nil)))))) (pw_or1 (pt_cmpR op_ne (pe_callB call_len_seq (by rfl) n_len (by decide +kernel) (pa_cons (pe_lc (own := [("other", 15)]) (g := (gName 15)) (tt := tYes) (by rfl) sc_law.nd (Wp.pi_ownV c_Board___iter__ hr (by decide) (pv 9)) (blkOk_by (own := [("other", 15)]) (N := ["script", "cell", "stream", "people", "letters", "founder", "title", "at", "given", "board", "model", "items", "letter", "item", "ref", "other"]) (sc := C8.fnScope s_law) (by decide +kernel)) (fun _ _ _ _ _ => (pg_name (i := 15) sc_law.nd rfl (Or.inl rfl))) (fun _ _ _ _ _ => pts_nil) (fun _ _ _ _ _ => (pv 15))) pa_nil)) (pe_callB call_len_dT (by rfl) n_len (by decide +kernel) (pa_cons (pv 11) pa_nil)) (nomark _))))) (pss_one (ps_ret pe_bl)) pss_nil))))
  (pss_cons (ps_for PassesOwn.never rfl (pi_list (pv 4)) (pg_name (i := 12) sc_law.nd rfl (Or.inl rfl)) (pss_cons (ps_set (i := 14) sc_law.nd rfl (Or.inl rfl) (Wp.pe_pp c_Letter_ref hr (by decide) (pv 12) rfl))
  (pss_cons (ps_if (pt_not (pt_val (C8.pe_c c__law_flag hr (by decide) (by rfl) (pa_cons (pe_cmpR (Wp.op_inOwn c_Board___contains__ hr (by decide)) (pv 14) (pv 9) (by rfl)) (pa_cons (pe_cmp (pc_din (Wp.hu1 hr) (pv 14) (pv 11))) pa_nil))))) (pss_one (ps_ret pe_bl)) pss_nil)
  (pss_cons (ps_if (PW.pt (pw_and (pt_cmp (pc_din (Wp.hu1 hr) (pv 14) (pv 11))) (pw_and1 (pt_not (pt_val (C8.pe_c c__law_item hr (by decide) (by rfl) (pa_cons (Wp.pe_mx c_Board_item hr (by decide) (pv 9) (pa_cons (pv 14) pa_nil)) (pa_cons (pv 14) (pa_cons (pe_dget (Wp.hu1 hr) (pv 11) (pv 14) (fun _ _ => rfl)) pa_nil))))))))) (pss_one (ps_ret pe_bl)) pss_nil)
  (pss_one (ps_if (PW.pt (pw_and (pt_cmp (pc_dnotin (Wp.hu1 hr) (pv 14) (pv 11))) (pw_and1 (pt_not (pt_val (C8.pe_c c__law_unknown hr (by decide) (by rfl) (pa_cons (pv 9) (pa_cons (pv 14) pa_nil)))))))) (pss_one (ps_ret pe_bl)) pss_nil))))))
  (pss_one (ps_ret (pe_and (C8.pe_c c__law_unknown hr (by decide) (by rfl) (pa_cons (pv 9) (pa_cons (pe_tup (pa_cons pe_str (pa_cons pe_int pa_nil))) pa_nil))) (pe_one (C8.pe_c c__law_flag hr (by decide) (by rfl) (pa_cons (pe_cmpR (Wp.op_inOwn c_Board___contains__ hr (by decide)) (pe_tup (pa_cons pe_str (pa_cons pe_int pa_nil))) (pv 9) (by rfl)) (pa_cons pe_bl pa_nil))))))))))))))))))))), r_law LC_Letter LC_Board LC_Item XF h⟩)
end
theorem all_mk {l : PySem.W.OpenLaw} {w : World} {K : PySem.W.Frag} {h : Heap} {mg : Str → Option Value} {fa f0 f1 f2 f3 f4 f5 f6 f7 f8 f9 f10 f11 f12 f13 f14 f15 f16 f17 f18 f19 f20 f21 f22 f23 f24 f25 f26 f27 f28 f29 f30 f31 f32 f33 C_Item C_Board C_Letter C_RoomError C_Unknown p4 p14 : Addr} (X : K.In h) (G : h.Ns mainGlobals mg) (hfa : mg "law" = some (.ref fa))
    {od0 an0 od1 an1 od2 an2 od3 an3 od4 an4 od5 an5 od6 an6 od7 an7 od8 an8 od9 an9 od10 an10 od11 an11 od12 an12 od13 an13 od14 an14 od15 an15 od16 an16 od17 an17 od18 an18 od19 an19 od20 an20 od21 an21 od22 an22 od23 an23 od24 an24 od25 an25 od26 an26 od27 an27 od28 an28 od29 an29 od30 an30 od31 an31 od32 an32 od33 an33 : Option Addr} {sl0 sl1 sl2 sl3 sl4 sl5 sl6 sl7 sl8 sl9 sl10 sl11 sl12 sl13 sl14 sl15 sl16 sl17 sl18 sl19 sl20 sl21 sl22 sl23 sl24 sl25 sl26 sl27 sl28 sl29 sl30 sl31 sl32 sl33 : Array (Option Value)} {oc0 kV0 dc0 pm0 cd0 ct0 oc1 kV1 dc1 pm1 cd1 ct1 oc2 kV2 dc2 pm2 cd2 ct2 oc3 kV3 dc3 pm3 cd3 ct3 oc4 kV4 dc4 pm4 cd4 ct4 oc5 kV5 dc5 pm5 cd5 ct5 oc6 kV6 dc6 pm6 cd6 ct6 oc7 kV7 dc7 pm7 cd7 ct7 oc8 kV8 dc8 pm8 cd8 ct8 oc9 kV9 dc9 pm9 cd9 ct9 oc10 kV10 dc10 pm10 cd10 ct10 oc11 kV11 dc11 pm11 cd11 ct11 oc12 kV12 dc12 pm12 cd12 ct12 oc13 kV13 dc13 pm13 cd13 ct13 oc14 kV14 dc14 pm14 cd14 ct14 oc15 kV15 dc15 pm15 cd15 ct15 oc16 kV16 dc16 pm16 cd16 ct16 oc17 kV17 dc17 pm17 cd17 ct17 oc18 kV18 dc18 pm18 cd18 ct18 oc19 kV19 dc19 pm19 cd19 ct19 oc20 kV20 dc20 pm20 cd20 ct20 oc21 kV21 dc21 pm21 cd21 ct21 oc22 kV22 dc22 pm22 cd22 ct22 oc23 kV23 dc23 pm23 cd23 ct23 oc24 kV24 dc24 pm24 cd24 ct24 oc25 kV25 dc25 pm25 cd25 ct25 oc26 kV26 dc26 pm26 cd26 ct26 oc27 kV27 dc27 pm27 cd27 ct27 oc28 kV28 dc28 pm28 cd28 ct28 oc29 kV29 dc29 pm29 cd29 ct29 oc30 kV30 dc30 pm30 cd30 ct30 oc31 kV31 dc31 pm31 cd31 ct31 oc32 kV32 dc32 pm32 cd32 ct32 oc33 kV33 dc33 pm33 cd33 ct33 : Value} {rest4 rest14 : List Value}
    (aC_Item : PySem.W.nsIn K mainGlobals "Item" = some (some (.ref C_Item))) (pg_Item : PySem.W.plainGet K C_Item Str.empty = true) (hd_Item : PySem.W.hasDictIn K C_Item = true) (po_Item : PySem.W.plainOver K C_Item = true) (sa_Item : PySem.W.findIn K (.ref C_Item) "__setattr__" = some (some (.builtin "object.__setattr__"))) (mk_Item : PySem.W.makesIn K C_Item = true) (kc_Item : PySem.W.keepIn K (.ref C_Item) = true)
    (nf_Item_author : PySem.W.findIn K (.ref C_Item) "author" = some none)
    (nf_Item_text : PySem.W.findIn K (.ref C_Item) "text" = some none)
    (nf_Item_parent : PySem.W.findIn K (.ref C_Item) "parent" = some none)
    (nf_Item_edits : PySem.W.findIn K (.ref C_Item) "edits" = some none)
    (nf_Item_recalled : PySem.W.findIn K (.ref C_Item) "recalled" = some none)
    (nf_Item_ref : PySem.W.findIn K (.ref C_Item) "_ref" = some none)
    (nf_Item_names : PySem.W.findIn K (.ref C_Item) "_names" = some none)
    (aC_Board : PySem.W.nsIn K mainGlobals "Board" = some (some (.ref C_Board))) (pg_Board : PySem.W.plainGet K C_Board Str.empty = true) (hd_Board : PySem.W.hasDictIn K C_Board = true) (po_Board : PySem.W.plainOver K C_Board = true) (sa_Board : PySem.W.findIn K (.ref C_Board) "__setattr__" = some (some (.builtin "object.__setattr__"))) (mk_Board : PySem.W.makesIn K C_Board = true) (kc_Board : PySem.W.keepIn K (.ref C_Board) = true)
    (nf_Board_title : PySem.W.findIn K (.ref C_Board) "title" = some none)
    (nf_Board_founder : PySem.W.findIn K (.ref C_Board) "founder" = some none)
    (nf_Board_items : PySem.W.findIn K (.ref C_Board) "_items" = some none)
    (nf_Board_notices : PySem.W.findIn K (.ref C_Board) "_notices" = some none)
    (aC_Letter : PySem.W.nsIn K mainGlobals "Letter" = some (some (.ref C_Letter))) (pg_Letter : PySem.W.plainGet K C_Letter Str.empty = true) (hd_Letter : PySem.W.hasDictIn K C_Letter = true) (po_Letter : PySem.W.plainOver K C_Letter = true) (sa_Letter : PySem.W.findIn K (.ref C_Letter) "__setattr__" = some (some (.builtin "object.__setattr__"))) (mk_Letter : PySem.W.makesIn K C_Letter = true) (kc_Letter : PySem.W.keepIn K (.ref C_Letter) = true)
    (nf_Letter_author : PySem.W.findIn K (.ref C_Letter) "author" = some none)
    (nf_Letter_number : PySem.W.findIn K (.ref C_Letter) "number" = some none)
    (nf_Letter_stamp : PySem.W.findIn K (.ref C_Letter) "stamp" = some none)
    (nf_Letter_seen : PySem.W.findIn K (.ref C_Letter) "seen" = some none)
    (nf_Letter_body : PySem.W.findIn K (.ref C_Letter) "body" = some none)
    (nf_Letter_counts : PySem.W.findIn K (.ref C_Letter) "_counts" = some none)
    (a0 : PySem.W.nsIn K mainGlobals "is_act" = some (some (.ref f0))) (l0 : K.lookup f0 = some ⟨oc0, od0, .func (PySem.W.fnOf "is_act" "is_act" (C8.fnArgs s_is_act) (C8.fnBody s_is_act) (C8.fnScope s_is_act) .none kV0 dc0 pm0 an0 cd0 ct0), sl0⟩) (c0 : PySem.W.codeIn K cd0 "is_act" = true) (k0 : PySem.W.keepIn K (.ref f0) = true)
    (a1 : PySem.W.nsIn K mainGlobals "target" = some (some (.ref f1))) (l1 : K.lookup f1 = some ⟨oc1, od1, .func (PySem.W.fnOf "target" "target" (C8.fnArgs s_target) (C8.fnBody s_target) (C8.fnScope s_target) .none kV1 dc1 pm1 an1 cd1 ct1), sl1⟩) (c1 : PySem.W.codeIn K cd1 "target" = true) (k1 : PySem.W.keepIn K (.ref f1) = true)
    (a2 : PySem.W.nsIn K mainGlobals "text_of" = some (some (.ref f2))) (l2 : K.lookup f2 = some ⟨oc2, od2, .func (PySem.W.fnOf "text_of" "text_of" (C8.fnArgs s_text_of) (C8.fnBody s_text_of) (C8.fnScope s_text_of) .none kV2 dc2 pm2 an2 cd2 ct2), sl2⟩) (c2 : PySem.W.codeIn K cd2 "text_of" = true) (k2 : PySem.W.keepIn K (.ref f2) = true)
    (a3 : PySem.W.findIn K (.ref C_Item) "__init__" = some (some (.ref f3))) (i3 : PySem.W.isFn K (.ref f3) = true) (l3 : K.lookup f3 = some ⟨oc3, od3, .func (PySem.W.fnOf "__init__" "Item.__init__" (C8.fnArgs s_Item___init__) (C8.fnBody s_Item___init__) (C8.fnScope s_Item___init__) .none kV3 dc3 pm3 an3 cd3 ct3), sl3⟩) (c3 : PySem.W.codeIn K cd3 "Item.__init__" = true) (k3 : PySem.W.keepIn K (.ref f3) = true)
    (a4 : PySem.W.findIn K (.ref C_Item) "ref" = some (some (.ref p4))) (g4 : PySem.W.specialIn K (.ref p4) "__get__" = some (some (.builtin "property.__get__"))) (t4_ : PySem.W.takesIn K (.ref p4) = some true) (r4 : PySem.W.recIn K p4 "property" = some (.ref f4 :: rest4)) (l4 : K.lookup f4 = some ⟨oc4, od4, .func (PySem.W.fnOf "ref" "Item.ref" (C8.fnArgs s_Item_ref) (C8.fnBody s_Item_ref) (C8.fnScope s_Item_ref) .none kV4 dc4 pm4 an4 cd4 ct4), sl4⟩) (c4 : PySem.W.codeIn K cd4 "Item.ref" = true)
    (a5 : PySem.W.findIn K (.ref C_Item) "edit" = some (some (.ref f5))) (i5 : PySem.W.isFn K (.ref f5) = true) (l5 : K.lookup f5 = some ⟨oc5, od5, .func (PySem.W.fnOf "edit" "Item.edit" (C8.fnArgs s_Item_edit) (C8.fnBody s_Item_edit) (C8.fnScope s_Item_edit) .none kV5 dc5 pm5 an5 cd5 ct5), sl5⟩) (c5 : PySem.W.codeIn K cd5 "Item.edit" = true) (k5 : PySem.W.keepIn K (.ref f5) = true)
    (a6 : PySem.W.findIn K (.ref C_Item) "recall" = some (some (.ref f6))) (i6 : PySem.W.isFn K (.ref f6) = true) (l6 : K.lookup f6 = some ⟨oc6, od6, .func (PySem.W.fnOf "recall" "Item.recall" (C8.fnArgs s_Item_recall) (C8.fnBody s_Item_recall) (C8.fnScope s_Item_recall) .none kV6 dc6 pm6 an6 cd6 ct6), sl6⟩) (c6 : PySem.W.codeIn K cd6 "Item.recall" = true) (k6 : PySem.W.keepIn K (.ref f6) = true)
    (a7 : PySem.W.findIn K (.ref C_Item) "mark" = some (some (.ref f7))) (i7 : PySem.W.isFn K (.ref f7) = true) (l7 : K.lookup f7 = some ⟨oc7, od7, .func (PySem.W.fnOf "mark" "Item.mark" (C8.fnArgs s_Item_mark) (C8.fnBody s_Item_mark) (C8.fnScope s_Item_mark) .none kV7 dc7 pm7 an7 cd7 ct7), sl7⟩) (c7 : PySem.W.codeIn K cd7 "Item.mark" = true) (k7 : PySem.W.keepIn K (.ref f7) = true)
    (a8 : PySem.W.findIn K (.ref C_Board) "__init__" = some (some (.ref f8))) (i8 : PySem.W.isFn K (.ref f8) = true) (l8 : K.lookup f8 = some ⟨oc8, od8, .func (PySem.W.fnOf "__init__" "Board.__init__" (C8.fnArgs s_Board___init__) (C8.fnBody s_Board___init__) (C8.fnScope s_Board___init__) .none kV8 dc8 pm8 an8 cd8 ct8), sl8⟩) (c8 : PySem.W.codeIn K cd8 "Board.__init__" = true) (k8 : PySem.W.keepIn K (.ref f8) = true)
    (a9 : PySem.W.findIn K (.ref C_Board) "__len__" = some (some (.ref f9))) (i9 : PySem.W.isFn K (.ref f9) = true) (l9 : K.lookup f9 = some ⟨oc9, od9, .func (PySem.W.fnOf "__len__" "Board.__len__" (C8.fnArgs s_Board___len__) (C8.fnBody s_Board___len__) (C8.fnScope s_Board___len__) .none kV9 dc9 pm9 an9 cd9 ct9), sl9⟩) (c9 : PySem.W.codeIn K cd9 "Board.__len__" = true) (k9 : PySem.W.keepIn K (.ref f9) = true)
    (a10 : PySem.W.findIn K (.ref C_Board) "__iter__" = some (some (.ref f10))) (i10 : PySem.W.isFn K (.ref f10) = true) (l10 : K.lookup f10 = some ⟨oc10, od10, .func (PySem.W.fnOf "__iter__" "Board.__iter__" (C8.fnArgs s_Board___iter__) (C8.fnBody s_Board___iter__) (C8.fnScope s_Board___iter__) .none kV10 dc10 pm10 an10 cd10 ct10), sl10⟩) (c10 : PySem.W.codeIn K cd10 "Board.__iter__" = true) (k10 : PySem.W.keepIn K (.ref f10) = true)
    (a11 : PySem.W.findIn K (.ref C_Board) "__contains__" = some (some (.ref f11))) (i11 : PySem.W.isFn K (.ref f11) = true) (l11 : K.lookup f11 = some ⟨oc11, od11, .func (PySem.W.fnOf "__contains__" "Board.__contains__" (C8.fnArgs s_Board___contains__) (C8.fnBody s_Board___contains__) (C8.fnScope s_Board___contains__) .none kV11 dc11 pm11 an11 cd11 ct11), sl11⟩) (c11 : PySem.W.codeIn K cd11 "Board.__contains__" = true) (k11 : PySem.W.keepIn K (.ref f11) = true)
    (a12 : PySem.W.findIn K (.ref C_Board) "item" = some (some (.ref f12))) (i12 : PySem.W.isFn K (.ref f12) = true) (l12 : K.lookup f12 = some ⟨oc12, od12, .func (PySem.W.fnOf "item" "Board.item" (C8.fnArgs s_Board_item) (C8.fnBody s_Board_item) (C8.fnScope s_Board_item) .none kV12 dc12 pm12 an12 cd12 ct12), sl12⟩) (c12 : PySem.W.codeIn K cd12 "Board.item" = true) (k12 : PySem.W.keepIn K (.ref f12) = true)
    (a13 : PySem.W.findIn K (.ref C_Letter) "__init__" = some (some (.ref f13))) (i13 : PySem.W.isFn K (.ref f13) = true) (l13 : K.lookup f13 = some ⟨oc13, od13, .func (PySem.W.fnOf "__init__" "Letter.__init__" (C8.fnArgs s_Letter___init__) (C8.fnBody s_Letter___init__) (C8.fnScope s_Letter___init__) .none kV13 dc13 pm13 an13 cd13 ct13), sl13⟩) (c13 : PySem.W.codeIn K cd13 "Letter.__init__" = true) (k13 : PySem.W.keepIn K (.ref f13) = true)
    (a14 : PySem.W.findIn K (.ref C_Letter) "ref" = some (some (.ref p14))) (g14 : PySem.W.specialIn K (.ref p14) "__get__" = some (some (.builtin "property.__get__"))) (t14_ : PySem.W.takesIn K (.ref p14) = some true) (r14 : PySem.W.recIn K p14 "property" = some (.ref f14 :: rest14)) (l14 : K.lookup f14 = some ⟨oc14, od14, .func (PySem.W.fnOf "ref" "Letter.ref" (C8.fnArgs s_Letter_ref) (C8.fnBody s_Letter_ref) (C8.fnScope s_Letter_ref) .none kV14 dc14 pm14 an14 cd14 ct14), sl14⟩) (c14 : PySem.W.codeIn K cd14 "Letter.ref" = true)
    (a15 : PySem.W.nsIn K mainGlobals "_law_stream" = some (some (.ref f15))) (l15 : K.lookup f15 = some ⟨oc15, od15, .func (PySem.W.fnOf "_law_stream" "_law_stream" (C8.fnArgs s__law_stream) (C8.fnBody s__law_stream) (C8.fnScope s__law_stream) .none kV15 dc15 pm15 an15 cd15 ct15), sl15⟩) (c15 : PySem.W.codeIn K cd15 "_law_stream" = true) (k15 : PySem.W.keepIn K (.ref f15) = true)
    (a16 : PySem.W.nsIn K mainGlobals "_law_next" = some (some (.ref f16))) (l16 : K.lookup f16 = some ⟨oc16, od16, .func (PySem.W.fnOf "_law_next" "_law_next" (C8.fnArgs s__law_next) (C8.fnBody s__law_next) (C8.fnScope s__law_next) .none kV16 dc16 pm16 an16 cd16 ct16), sl16⟩) (c16 : PySem.W.codeIn K cd16 "_law_next" = true) (k16 : PySem.W.keepIn K (.ref f16) = true)
    (a17 : PySem.W.nsIn K mainGlobals "_law_is" = some (some (.ref f17))) (l17 : K.lookup f17 = some ⟨oc17, od17, .func (PySem.W.fnOf "_law_is" "_law_is" (C8.fnArgs s__law_is) (C8.fnBody s__law_is) (C8.fnScope s__law_is) .none kV17 dc17 pm17 an17 cd17 ct17), sl17⟩) (c17 : PySem.W.codeIn K cd17 "_law_is" = true) (k17 : PySem.W.keepIn K (.ref f17) = true)
    (a18 : PySem.W.nsIn K mainGlobals "_law_flag" = some (some (.ref f18))) (l18 : K.lookup f18 = some ⟨oc18, od18, .func (PySem.W.fnOf "_law_flag" "_law_flag" (C8.fnArgs s__law_flag) (C8.fnBody s__law_flag) (C8.fnScope s__law_flag) .none kV18 dc18 pm18 an18 cd18 ct18), sl18⟩) (c18 : PySem.W.codeIn K cd18 "_law_flag" = true) (k18 : PySem.W.keepIn K (.ref f18) = true)
    (a19 : PySem.W.nsIn K mainGlobals "_law_change" = some (some (.ref f19))) (l19 : K.lookup f19 = some ⟨oc19, od19, .func (PySem.W.fnOf "_law_change" "_law_change" (C8.fnArgs s__law_change) (C8.fnBody s__law_change) (C8.fnScope s__law_change) .none kV19 dc19 pm19 an19 cd19 ct19), sl19⟩) (c19 : PySem.W.codeIn K cd19 "_law_change" = true) (k19 : PySem.W.keepIn K (.ref f19) = true)
    (a20 : PySem.W.findIn K (.ref C_Board) "_change_item" = some (some (.ref f20))) (i20 : PySem.W.isFn K (.ref f20) = true) (l20 : K.lookup f20 = some ⟨oc20, od20, .func (PySem.W.fnOf "_change_item" "Board._change_item" (C8.fnArgs s_Board__change_item) (C8.fnBody s_Board__change_item) (C8.fnScope s_Board__change_item) .none kV20 dc20 pm20 an20 cd20 ct20), sl20⟩) (c20 : PySem.W.codeIn K cd20 "Board._change_item" = true) (k20 : PySem.W.keepIn K (.ref f20) = true)
    (a21 : PySem.W.nsIn K mainGlobals "_law_people" = some (some (.ref f21))) (l21 : K.lookup f21 = some ⟨oc21, od21, .func (PySem.W.fnOf "_law_people" "_law_people" (C8.fnArgs s__law_people) (C8.fnBody s__law_people) (C8.fnScope s__law_people) .none kV21 dc21 pm21 an21 cd21 ct21), sl21⟩) (c21 : PySem.W.codeIn K cd21 "_law_people" = true) (k21 : PySem.W.keepIn K (.ref f21) = true)
    (a22 : PySem.W.nsIn K mainGlobals "_law_word" = some (some (.ref f22))) (l22 : K.lookup f22 = some ⟨oc22, od22, .func (PySem.W.fnOf "_law_word" "_law_word" (C8.fnArgs s__law_word) (C8.fnBody s__law_word) (C8.fnScope s__law_word) .none kV22 dc22 pm22 an22 cd22 ct22), sl22⟩) (c22 : PySem.W.codeIn K cd22 "_law_word" = true) (k22 : PySem.W.keepIn K (.ref f22) = true)
    (a23 : PySem.W.nsIn K mainGlobals "_law_unknown" = some (some (.ref f23))) (l23 : K.lookup f23 = some ⟨oc23, od23, .func (PySem.W.fnOf "_law_unknown" "_law_unknown" (C8.fnArgs s__law_unknown) (C8.fnBody s__law_unknown) (C8.fnScope s__law_unknown) .none kV23 dc23 pm23 an23 cd23 ct23), sl23⟩) (c23 : PySem.W.codeIn K cd23 "_law_unknown" = true) (k23 : PySem.W.keepIn K (.ref f23) = true)
    (a24 : PySem.W.findIn K (.ref C_Board) "_put_item" = some (some (.ref f24))) (i24 : PySem.W.isFn K (.ref f24) = true) (l24 : K.lookup f24 = some ⟨oc24, od24, .func (PySem.W.fnOf "_put_item" "Board._put_item" (C8.fnArgs s_Board__put_item) (C8.fnBody s_Board__put_item) (C8.fnScope s_Board__put_item) .none kV24 dc24 pm24 an24 cd24 ct24), sl24⟩) (c24 : PySem.W.codeIn K cd24 "Board._put_item" = true) (k24 : PySem.W.keepIn K (.ref f24) = true)
    (a25 : PySem.W.nsIn K mainGlobals "_law_text" = some (some (.ref f25))) (l25 : K.lookup f25 = some ⟨oc25, od25, .func (PySem.W.fnOf "_law_text" "_law_text" (C8.fnArgs s__law_text) (C8.fnBody s__law_text) (C8.fnScope s__law_text) .none kV25 dc25 pm25 an25 cd25 ct25), sl25⟩) (c25 : PySem.W.codeIn K cd25 "_law_text" = true) (k25 : PySem.W.keepIn K (.ref f25) = true)
    (a26 : PySem.W.nsIn K mainGlobals "_law_ref" = some (some (.ref f26))) (l26 : K.lookup f26 = some ⟨oc26, od26, .func (PySem.W.fnOf "_law_ref" "_law_ref" (C8.fnArgs s__law_ref) (C8.fnBody s__law_ref) (C8.fnScope s__law_ref) .none kV26 dc26 pm26 an26 cd26 ct26), sl26⟩) (c26 : PySem.W.codeIn K cd26 "_law_ref" = true) (k26 : PySem.W.keepIn K (.ref f26) = true)
    (a27 : PySem.W.nsIn K mainGlobals "_law_model" = some (some (.ref f27))) (l27 : K.lookup f27 = some ⟨oc27, od27, .func (PySem.W.fnOf "_law_model" "_law_model" (C8.fnArgs s__law_model) (C8.fnBody s__law_model) (C8.fnScope s__law_model) .none kV27 dc27 pm27 an27 cd27 ct27), sl27⟩) (c27 : PySem.W.codeIn K cd27 "_law_model" = true) (k27 : PySem.W.keepIn K (.ref f27) = true)
    (a28 : PySem.W.nsIn K mainGlobals "_law_item" = some (some (.ref f28))) (l28 : K.lookup f28 = some ⟨oc28, od28, .func (PySem.W.fnOf "_law_item" "_law_item" (C8.fnArgs s__law_item) (C8.fnBody s__law_item) (C8.fnScope s__law_item) .none kV28 dc28 pm28 an28 cd28 ct28), sl28⟩) (c28 : PySem.W.codeIn K cd28 "_law_item" = true) (k28 : PySem.W.keepIn K (.ref f28) = true)
    (a29 : PySem.W.findIn K (.ref C_Board) "show" = some (some (.ref f29))) (i29 : PySem.W.isFn K (.ref f29) = true) (l29 : K.lookup f29 = some ⟨oc29, od29, .func (PySem.W.fnOf "show" "Board.show" (C8.fnArgs s_Board_show) (C8.fnBody s_Board_show) (C8.fnScope s_Board_show) .none kV29 dc29 pm29 an29 cd29 ct29), sl29⟩) (c29 : PySem.W.codeIn K cd29 "Board.show" = true) (k29 : PySem.W.keepIn K (.ref f29) = true)
    (a30 : PySem.W.nsIn K mainGlobals "_law_body" = some (some (.ref f30))) (l30 : K.lookup f30 = some ⟨oc30, od30, .func (PySem.W.fnOf "_law_body" "_law_body" (C8.fnArgs s__law_body) (C8.fnBody s__law_body) (C8.fnScope s__law_body) .none kV30 dc30 pm30 an30 cd30 ct30), sl30⟩) (c30 : PySem.W.codeIn K cd30 "_law_body" = true) (k30 : PySem.W.keepIn K (.ref f30) = true)
    (a31 : PySem.W.nsIn K mainGlobals "board_of" = some (some (.ref f31))) (l31 : K.lookup f31 = some ⟨oc31, od31, .func (PySem.W.fnOf "board_of" "board_of" (C8.fnArgs s_board_of) (C8.fnBody s_board_of) (C8.fnScope s_board_of) .none kV31 dc31 pm31 an31 cd31 ct31), sl31⟩) (c31 : PySem.W.codeIn K cd31 "board_of" = true) (k31 : PySem.W.keepIn K (.ref f31) = true)
    (a32 : PySem.W.nsIn K mainGlobals "_law_letters" = some (some (.ref f32))) (l32 : K.lookup f32 = some ⟨oc32, od32, .func (PySem.W.fnOf "_law_letters" "_law_letters" (C8.fnArgs s__law_letters) (C8.fnBody s__law_letters) (C8.fnScope s__law_letters) .none kV32 dc32 pm32 an32 cd32 ct32), sl32⟩) (c32 : PySem.W.codeIn K cd32 "_law_letters" = true) (k32 : PySem.W.keepIn K (.ref f32) = true)
    (a33 : PySem.W.nsIn K mainGlobals "law" = some (some (.ref f33))) (l33 : K.lookup f33 = some ⟨oc33, od33, .func (PySem.W.fnOf "law" "law" (C8.fnArgs s_law) (C8.fnBody s_law) (C8.fnScope s_law) .none kV33 dc33 pm33 an33 cd33 ct33), sl33⟩) (c33 : PySem.W.codeIn K cd33 "law" = true) (k33 : PySem.W.keepIn K (.ref f33) = true)
    (z0 : PySem.W.nsIn K mainGlobals "len" = some none)
    (z1 : PySem.W.nsIn K mainGlobals "iter" = some none)
    (z2 : PySem.W.nsIn K mainGlobals "int" = some none)
    (z3 : PySem.W.nsIn K mainGlobals "isinstance" = some none)
    (z4 : PySem.W.nsIn K mainGlobals "bool" = some none)
    (z5 : PySem.W.nsIn K mainGlobals "range" = some none)
    (z6 : PySem.W.nsIn K mainGlobals "ValueError" = some none)
    (z7 : PySem.W.nsIn K mainGlobals "min" = some none)
    (z8 : PySem.W.nsIn K mainGlobals "tuple" = some none)
    (z9 : PySem.W.nsIn K mainGlobals "sorted" = some none)
    (z10 : PySem.W.nsIn K mainGlobals "list" = some none)
    (aX_RoomError : PySem.W.nsIn K mainGlobals "RoomError" = some (some (.ref C_RoomError)))
    (aX_Unknown : PySem.W.nsIn K mainGlobals "Unknown" = some (some (.ref C_Unknown)))
    (x1 : PySem.W.excIn K C_Unknown [.type "ValueError", .type "Exception", .type "BaseException", .type "object"] "ValueError.__new__" = true)
    (x2 : PySem.W.keepIn K (.ref C_Unknown) = true)
    (x3 : PySem.W.subIn K (.ref C_Unknown) (.type "BaseException") = some true)
    (x4 : PySem.W.typeIn K (.ref C_Unknown) = some (.type "type"))
    (x5 : PySem.W.findIn K (.ref C_Unknown) "__getattribute__" = some (some (.builtin "BaseException.__getattribute__")))
    (x6 : PySem.W.findIn K (.ref C_Unknown) "__getattr__" = some none)
    (x7 : PySem.W.hasDictIn K C_Unknown = true)
    (x8 : PySem.W.findIn K (.ref C_Unknown) "__class__" = some (some (.builtin "object.__class__")))
    (x9 : PySem.W.specialIn K (.builtin "object.__class__") "__get__" = some (some (.builtin "getset_descriptor.__get__")))
    (x10 : PySem.W.takesIn K (.builtin "object.__class__") = some true)
    (x11 : PySem.W.mroIn K C_Unknown (.type "object") = some true)
    (x12 : PySem.W.subIn K (.ref C_Unknown) (.ref C_RoomError) = some true)
    (x13 : PySem.W.isClsIn K C_RoomError = true)
    (x14 : PySem.W.typeIn K (.ref C_RoomError) = some (.type "type"))
    (x16 : PySem.W.subIn K (.ref C_Unknown) (.ref C_Unknown) = some true)
    (x17 : PySem.W.isClsIn K C_Unknown = true)
    (x19 : PySem.W.subIn K (.ref C_Unknown) (.type "ValueError") = some true)
    : ∃ fd : FuncData, (∀ (s : Shared) (v : Value), BindsTo s fd ⟨[v], []⟩ [("script", v)]) ∧ ∀ base : Heap, K.In base → base.Ns mainGlobals mg → FnOk l.prog w K mg base C8.CX0 6 fa fd ["script"] (spLaw K) := by
  have e := hfa.symm.trans (PySem.W.mg_of X G a33)
  cases e
  have n_len : mg "len" = none := PySem.W.mg_none_of X G z0
  have n_iter : mg "iter" = none := PySem.W.mg_none_of X G z1
  have n_int : mg "int" = none := PySem.W.mg_none_of X G z2
  have n_isinstance : mg "isinstance" = none := PySem.W.mg_none_of X G z3
  have n_bool : mg "bool" = none := PySem.W.mg_none_of X G z4
  have n_range : mg "range" = none := PySem.W.mg_none_of X G z5
  have n_ValueError : mg "ValueError" = none := PySem.W.mg_none_of X G z6
  have n_min : mg "min" = none := PySem.W.mg_none_of X G z7
  have n_tuple : mg "tuple" = none := PySem.W.mg_none_of X G z8
  have n_sorted : mg "sorted" = none := PySem.W.mg_none_of X G z9
  have n_list : mg "list" = none := PySem.W.mg_none_of X G z10
  have m_RoomError := PySem.W.mg_of X G aX_RoomError
  have m_Unknown := PySem.W.mg_of X G aX_Unknown
  have XF : ExFacts K C_RoomError C_Unknown := ⟨⟨x1, x2, x3, x4⟩, ⟨x5, x6, x3, x7, x8, x9, x10, x11⟩, exm_two x16 x17 x4 x3, kit_up x12 x13 x14, kit_val x19⟩
  have LC_Item : IsC_Item K C_Item := ⟨⟨pg_Item, hd_Item, po_Item, sa_Item⟩, nf_Item_author, nf_Item_text, nf_Item_parent, nf_Item_edits, nf_Item_recalled, nf_Item_ref, nf_Item_names⟩
  have LC_Board : IsC_Board K C_Board := ⟨⟨pg_Board, hd_Board, po_Board, sa_Board⟩, nf_Board_title, nf_Board_founder, nf_Board_items, nf_Board_notices⟩
  have LC_Letter : IsC_Letter K C_Letter := ⟨⟨pg_Letter, hd_Letter, po_Letter, sa_Letter⟩, nf_Letter_author, nf_Letter_number, nf_Letter_stamp, nf_Letter_seen, nf_Letter_body, nf_Letter_counts⟩
  have F0 : C8.Fun K "is_act" "is_act" s_is_act _ _ := ⟨⟨_, _, _, _, _, _, _, _, _, _, rfl, l0, c0⟩⟩
  have F1 : C8.Fun K "target" "target" s_target _ _ := ⟨⟨_, _, _, _, _, _, _, _, _, _, rfl, l1, c1⟩⟩
  have F2 : C8.Fun K "text_of" "text_of" s_text_of _ _ := ⟨⟨_, _, _, _, _, _, _, _, _, _, rfl, l2, c2⟩⟩
  have F3 : C8.Fun K "__init__" "Item.__init__" s_Item___init__ _ _ := ⟨⟨_, _, _, _, _, _, _, _, _, _, rfl, l3, c3⟩⟩
  have F4 : C8.Fun K "ref" "Item.ref" s_Item_ref _ _ := ⟨⟨_, _, _, _, _, _, _, _, _, _, rfl, l4, c4⟩⟩
  have F5 : C8.Fun K "edit" "Item.edit" s_Item_edit _ _ := ⟨⟨_, _, _, _, _, _, _, _, _, _, rfl, l5, c5⟩⟩
  have F6 : C8.Fun K "recall" "Item.recall" s_Item_recall _ _ := ⟨⟨_, _, _, _, _, _, _, _, _, _, rfl, l6, c6⟩⟩
  have F7 : C8.Fun K "mark" "Item.mark" s_Item_mark _ _ := ⟨⟨_, _, _, _, _, _, _, _, _, _, rfl, l7, c7⟩⟩
  have F8 : C8.Fun K "__init__" "Board.__init__" s_Board___init__ _ _ := ⟨⟨_, _, _, _, _, _, _, _, _, _, rfl, l8, c8⟩⟩
  have F9 : C8.Fun K "__len__" "Board.__len__" s_Board___len__ _ _ := ⟨⟨_, _, _, _, _, _, _, _, _, _, rfl, l9, c9⟩⟩
  have F10 : C8.Fun K "__iter__" "Board.__iter__" s_Board___iter__ _ _ := ⟨⟨_, _, _, _, _, _, _, _, _, _, rfl, l10, c10⟩⟩
  have F11 : C8.Fun K "__contains__" "Board.__contains__" s_Board___contains__ _ _ := ⟨⟨_, _, _, _, _, _, _, _, _, _, rfl, l11, c11⟩⟩
  have F12 : C8.Fun K "item" "Board.item" s_Board_item _ _ := ⟨⟨_, _, _, _, _, _, _, _, _, _, rfl, l12, c12⟩⟩
  have F13 : C8.Fun K "__init__" "Letter.__init__" s_Letter___init__ _ _ := ⟨⟨_, _, _, _, _, _, _, _, _, _, rfl, l13, c13⟩⟩
  have F14 : C8.Fun K "ref" "Letter.ref" s_Letter_ref _ _ := ⟨⟨_, _, _, _, _, _, _, _, _, _, rfl, l14, c14⟩⟩
  have F15 : C8.Fun K "_law_stream" "_law_stream" s__law_stream _ _ := ⟨⟨_, _, _, _, _, _, _, _, _, _, rfl, l15, c15⟩⟩
  have F16 : C8.Fun K "_law_next" "_law_next" s__law_next _ _ := ⟨⟨_, _, _, _, _, _, _, _, _, _, rfl, l16, c16⟩⟩
  have F17 : C8.Fun K "_law_is" "_law_is" s__law_is _ _ := ⟨⟨_, _, _, _, _, _, _, _, _, _, rfl, l17, c17⟩⟩
  have F18 : C8.Fun K "_law_flag" "_law_flag" s__law_flag _ _ := ⟨⟨_, _, _, _, _, _, _, _, _, _, rfl, l18, c18⟩⟩
  have F19 : C8.Fun K "_law_change" "_law_change" s__law_change _ _ := ⟨⟨_, _, _, _, _, _, _, _, _, _, rfl, l19, c19⟩⟩
  have F20 : C8.Fun K "_change_item" "Board._change_item" s_Board__change_item _ _ := ⟨⟨_, _, _, _, _, _, _, _, _, _, rfl, l20, c20⟩⟩
  have F21 : C8.Fun K "_law_people" "_law_people" s__law_people _ _ := ⟨⟨_, _, _, _, _, _, _, _, _, _, rfl, l21, c21⟩⟩
  have F22 : C8.Fun K "_law_word" "_law_word" s__law_word _ _ := ⟨⟨_, _, _, _, _, _, _, _, _, _, rfl, l22, c22⟩⟩
  have F23 : C8.Fun K "_law_unknown" "_law_unknown" s__law_unknown _ _ := ⟨⟨_, _, _, _, _, _, _, _, _, _, rfl, l23, c23⟩⟩
  have F24 : C8.Fun K "_put_item" "Board._put_item" s_Board__put_item _ _ := ⟨⟨_, _, _, _, _, _, _, _, _, _, rfl, l24, c24⟩⟩
  have F25 : C8.Fun K "_law_text" "_law_text" s__law_text _ _ := ⟨⟨_, _, _, _, _, _, _, _, _, _, rfl, l25, c25⟩⟩
  have F26 : C8.Fun K "_law_ref" "_law_ref" s__law_ref _ _ := ⟨⟨_, _, _, _, _, _, _, _, _, _, rfl, l26, c26⟩⟩
  have F27 : C8.Fun K "_law_model" "_law_model" s__law_model _ _ := ⟨⟨_, _, _, _, _, _, _, _, _, _, rfl, l27, c27⟩⟩
  have F28 : C8.Fun K "_law_item" "_law_item" s__law_item _ _ := ⟨⟨_, _, _, _, _, _, _, _, _, _, rfl, l28, c28⟩⟩
  have F29 : C8.Fun K "show" "Board.show" s_Board_show _ _ := ⟨⟨_, _, _, _, _, _, _, _, _, _, rfl, l29, c29⟩⟩
  have F30 : C8.Fun K "_law_body" "_law_body" s__law_body _ _ := ⟨⟨_, _, _, _, _, _, _, _, _, _, rfl, l30, c30⟩⟩
  have F31 : C8.Fun K "board_of" "board_of" s_board_of _ _ := ⟨⟨_, _, _, _, _, _, _, _, _, _, rfl, l31, c31⟩⟩
  have F32 : C8.Fun K "_law_letters" "_law_letters" s__law_letters _ _ := ⟨⟨_, _, _, _, _, _, _, _, _, _, rfl, l32, c32⟩⟩
  have F33 : C8.Fun K "law" "law" s_law _ _ := ⟨⟨_, _, _, _, _, _, _, _, _, _, rfl, l33, c33⟩⟩
  refine ⟨PySem.W.fnOf "law" "law" (C8.fnArgs s_law) (C8.fnBody s_law) (C8.fnScope s_law) .none kV33 dc33 pm33 an33 cd33 ct33, fun s v => .of_eq rfl, fun base _ _ => ?_⟩
  have c_is_act := c_is_act (P := l.prog) (w := w) (base := base) ⟨F0, PySem.W.mg_of X G a0, k0⟩ (F0.binds rfl fun _ _ _ _ _ _ us hl => match us, hl with | [_], _ => rfl) 
  have c_target := c_target (P := l.prog) (w := w) (base := base) ⟨F1, PySem.W.mg_of X G a1, k1⟩ (F1.binds rfl fun _ _ _ _ _ _ us hl => match us, hl with | [_], _ => rfl) 
  have c_text_of := c_text_of (P := l.prog) (w := w) (base := base) ⟨F2, PySem.W.mg_of X G a2, k2⟩ (F2.binds rfl fun _ _ _ _ _ _ us hl => match us, hl with | [_], _ => rfl) 
  have c_Item___init__ := c_Item___init__ (P := l.prog) (w := w) (base := base) ⟨mk_Item, a3, i3, kc_Item⟩ (PySem.W.mg_of X G aC_Item) F3 (F3.binds rfl fun _ _ _ _ _ _ us hl => match us, hl with | [_, _, _, _], _ => rfl) LC_Item
  have c_Item_ref := c_Item_ref (P := l.prog) (w := w) (mg := mg) (base := base) ⟨a4, g4, t4_, ⟨_, r4⟩⟩ F4 (F4.binds rfl fun _ _ _ _ _ _ us hl => match us, hl with | [_], _ => rfl) LC_Item
  have c_Item_edit := c_Item_edit (P := l.prog) (w := w) (mg := mg) (base := base) ⟨a5, i5, k5⟩ F5 (F5.binds rfl fun _ _ _ _ _ _ us hl => match us, hl with | [_, _], _ => rfl) LC_Item
  have c_Item_recall := c_Item_recall (P := l.prog) (w := w) (mg := mg) (base := base) ⟨a6, i6, k6⟩ F6 (F6.binds rfl fun _ _ _ _ _ _ us hl => match us, hl with | [_], _ => rfl) LC_Item
  have c_Item_mark := c_Item_mark (P := l.prog) (w := w) (mg := mg) (base := base) ⟨a7, i7, k7⟩ F7 (F7.binds rfl fun _ _ _ _ _ _ us hl => match us, hl with | [_, _, _], _ => rfl) LC_Item
  have c_Board___init__ := c_Board___init__ (P := l.prog) (w := w) (base := base) ⟨mk_Board, a8, i8, kc_Board⟩ (PySem.W.mg_of X G aC_Board) F8 (F8.binds rfl fun _ _ _ _ _ _ us hl => match us, hl with | [_], _ => rfl) LC_Board
  have c_Board___len__ := c_Board___len__ (P := l.prog) (w := w) (mg := mg) (base := base) ⟨a9, i9, k9⟩ F9 (F9.binds rfl fun _ _ _ _ _ _ us hl => match us, hl with | [_], _ => rfl) LC_Board LC_Item n_len
  have c_Board___iter__ := c_Board___iter__ (P := l.prog) (w := w) (mg := mg) (base := base) ⟨a10, i10, k10⟩ F10 (F10.binds rfl fun _ _ _ _ _ _ us hl => match us, hl with | [_], _ => rfl) LC_Board n_iter
  have c_Board___contains__ := c_Board___contains__ (P := l.prog) (w := w) (mg := mg) (base := base) ⟨a11, i11, k11⟩ F11 (F11.binds rfl fun _ _ _ _ _ _ us hl => match us, hl with | [_, _], _ => rfl) LC_Board LC_Item
  have c_Board_item := c_Board_item (P := l.prog) (w := w) (mg := mg) (base := base) ⟨a12, i12, k12⟩ F12 (F12.binds rfl fun _ _ _ _ _ _ us hl => match us, hl with | [_, _], _ => rfl) LC_Board LC_Item XF m_RoomError m_Unknown
  have c_Letter___init__ := c_Letter___init__ (P := l.prog) (w := w) (base := base) ⟨mk_Letter, a13, i13, kc_Letter⟩ (PySem.W.mg_of X G aC_Letter) F13 (F13.binds rfl fun _ _ _ _ _ _ us hl => match us, hl with | [_, _, _, _, _, _], _ => rfl) LC_Letter
  have c_Letter_ref := c_Letter_ref (P := l.prog) (w := w) (mg := mg) (base := base) ⟨a14, g14, t14_, ⟨_, r14⟩⟩ F14 (F14.binds rfl fun _ _ _ _ _ _ us hl => match us, hl with | [_], _ => rfl) LC_Letter
  have c__law_stream := c__law_stream (P := l.prog) (w := w) (base := base) ⟨F15, PySem.W.mg_of X G a15, k15⟩ (F15.binds rfl fun _ _ _ _ _ _ us hl => match us, hl with | [_, _], _ => rfl) n_int
  have c__law_next := c__law_next (P := l.prog) (w := w) (base := base) ⟨F16, PySem.W.mg_of X G a16, k16⟩ (F16.binds rfl fun _ _ _ _ _ _ us hl => match us, hl with | [_, _], _ => rfl) n_int
  have c__law_is := c__law_is (P := l.prog) (w := w) (base := base) ⟨F17, PySem.W.mg_of X G a17, k17⟩ (F17.binds rfl fun _ _ _ _ _ _ us hl => match us, hl with | [_, _], _ => rfl) n_isinstance n_int n_bool
  have c__law_flag := c__law_flag (P := l.prog) (w := w) (base := base) ⟨F18, PySem.W.mg_of X G a18, k18⟩ (F18.binds rfl fun _ _ _ _ _ _ us hl => match us, hl with | [_, _], _ => rfl) n_isinstance n_bool
  have c__law_change := c__law_change (P := l.prog) (w := w) (base := base) ⟨F19, PySem.W.mg_of X G a19, k19⟩ (F19.binds rfl fun _ _ _ _ _ _ us hl => match us, hl with | [_, _], _ => rfl) LC_Letter
  have c_Board__change_item := c_Board__change_item (P := l.prog) (w := w) (mg := mg) (base := base) ⟨a20, i20, k20⟩ F20 (F20.binds rfl fun _ _ _ _ _ _ us hl => match us, hl with | [_, _], _ => rfl) LC_Board LC_Letter LC_Item c_target c_Item_mark c_Item_edit c_Item_recall
  have c__law_people := c__law_people (P := l.prog) (w := w) (base := base) ⟨F21, PySem.W.mg_of X G a21, k21⟩ (F21.binds rfl fun _ _ _ _ _ _ us hl => match us, hl with | [_, _], _ => rfl) c__law_next n_range
  have c__law_word := c__law_word (P := l.prog) (w := w) (base := base) ⟨F22, PySem.W.mg_of X G a22, k22⟩ (F22.binds rfl fun _ _ _ _ _ _ us hl => match us, hl with | [_], _ => rfl) c__law_next n_range
  have c__law_unknown := c__law_unknown (P := l.prog) (w := w) (base := base) ⟨F23, PySem.W.mg_of X G a23, k23⟩ (F23.binds rfl fun _ _ _ _ _ _ us hl => match us, hl with | [_, _], _ => rfl) LC_Board LC_Item c_Board_item n_isinstance n_ValueError XF m_RoomError m_Unknown
  have c_Board__put_item := c_Board__put_item (P := l.prog) (w := w) (mg := mg) (base := base) ⟨a24, i24, k24⟩ F24 (F24.binds rfl fun _ _ _ _ _ _ us hl => match us, hl with | [_, _], _ => rfl) LC_Letter LC_Board LC_Item c_target c_Item___init__ c_Letter_ref c_text_of
  have c__law_text := c__law_text (P := l.prog) (w := w) (base := base) ⟨F25, PySem.W.mg_of X G a25, k25⟩ (F25.binds rfl fun _ _ _ _ _ _ us hl => match us, hl with | [_, _], _ => rfl) c__law_next c__law_word n_range n_len
  have c__law_ref := c__law_ref (P := l.prog) (w := w) (base := base) ⟨F26, PySem.W.mg_of X G a26, k26⟩ (F26.binds rfl fun _ _ _ _ _ _ us hl => match us, hl with | [_, _, _], _ => rfl) LC_Letter c__law_next c_Letter_ref n_len
  have c__law_model := c__law_model (P := l.prog) (w := w) (base := base) ⟨F27, PySem.W.mg_of X G a27, k27⟩ (F27.binds rfl fun _ _ _ _ _ _ us hl => match us, hl with | [_], _ => rfl) LC_Letter c_Letter_ref c__law_change
  have c__law_item := c__law_item (P := l.prog) (w := w) (base := base) ⟨F28, PySem.W.mg_of X G a28, k28⟩ (F28.binds rfl fun _ _ _ _ _ _ us hl => match us, hl with | [_, _, _], _ => rfl) LC_Item c_Item_ref c__law_is c__law_flag
  have c_Board_show := c_Board_show (P := l.prog) (w := w) (mg := mg) (base := base) ⟨a29, i29, k29⟩ F29 (F29.binds rfl fun _ _ _ _ _ _ us hl => match us, hl with | [_, _], _ => rfl) LC_Letter LC_Board LC_Item c_Board__put_item c_Board__change_item c_is_act c_Letter_ref
  have c__law_body := c__law_body (P := l.prog) (w := w) (base := base) ⟨F30, PySem.W.mg_of X G a30, k30⟩ (F30.binds rfl fun _ _ _ _ _ _ us hl => match us, hl with | [_, _, _], _ => rfl) LC_Letter c__law_next c__law_ref c__law_text c__law_word n_len
  have c_board_of := c_board_of (P := l.prog) (w := w) (base := base) ⟨F31, PySem.W.mg_of X G a31, k31⟩ (F31.binds rfl fun _ _ _ _ _ _ us hl => match us, hl with | [_], _ => rfl) LC_Board LC_Item LC_Letter c_Board___init__ c_Board_show
  have c__law_letters := c__law_letters (P := l.prog) (w := w) (base := base) ⟨F32, PySem.W.mg_of X G a32, k32⟩ (F32.binds rfl fun _ _ _ _ _ _ us hl => match us, hl with | [_, _, _], _ => rfl) LC_Letter c__law_stream c__law_next c__law_body c_Letter___init__ n_range n_min n_len n_tuple n_sorted
  exact f_law F33 LC_Letter LC_Board LC_Item c__law_stream c__law_people c__law_letters c__law_next c_Letter___init__ c_board_of c__law_model c_Letter_ref c__law_is c_Board___len__ c_Board___iter__ c_Item_ref c__law_item c__law_flag c_Board___contains__ c_Board_item c__law_unknown n_len n_list XF m_RoomError m_Unknown
end T
open PySem PySem.W PyProof.Rows
set_option maxHeartbeats 0 in
theorem PySem.Challenge.cw_lettersonce_k52_items_of_a_board_holds : PySem.Challenge.rw_lettersonce_k52_items_of_a_board.Holds := by
  w_on; o_law; k_head; (case hw => w_witness2)
  k_fill
  refine L2.walk_of (l := PySem.Challenge.rw_lettersonce_k52_items_of_a_board) (n := 63) (k := 6) (x := "script") (CX := fun _ => C8.CX0) (sp := fun w => T.spLaw _) rfl (by decide) rfl ⟨rfl, by decide, by decide⟩ (fun w h Y => PySem.W.kIn_of Y) ?F (fun _ _ a ns hl _ hS => ⟨a, ns, rfl, hS, hl, fun _ => rfl⟩) (fun _ _ _ _ _ h => h)
  case F =>
    intro w mg fa h KX G hmg
    refine' T.all_mk KX G hmg ?aC_Item ?pg_Item ?hd_Item ?po_Item ?sa_Item ?mk_Item ?kc_Item ?nf_Item_author ?nf_Item_text ?nf_Item_parent ?nf_Item_edits ?nf_Item_recalled ?nf_Item_ref ?nf_Item_names ?aC_Board ?pg_Board ?hd_Board ?po_Board ?sa_Board ?mk_Board ?kc_Board ?nf_Board_title ?nf_Board_founder ?nf_Board_items ?nf_Board_notices ?aC_Letter ?pg_Letter ?hd_Letter ?po_Letter ?sa_Letter ?mk_Letter ?kc_Letter ?nf_Letter_author ?nf_Letter_number ?nf_Letter_stamp ?nf_Letter_seen ?nf_Letter_body ?nf_Letter_counts ?a0 ?l0 ?c0 ?k0 ?a1 ?l1 ?c1 ?k1 ?a2 ?l2 ?c2 ?k2 ?a3 ?i3 ?l3 ?c3 ?k3 ?a4 ?g4 ?t4_ ?r4 ?l4 ?c4 ?a5 ?i5 ?l5 ?c5 ?k5 ?a6 ?i6 ?l6 ?c6 ?k6 ?a7 ?i7 ?l7 ?c7 ?k7 ?a8 ?i8 ?l8 ?c8 ?k8 ?a9 ?i9 ?l9 ?c9 ?k9 ?a10 ?i10 ?l10 ?c10 ?k10 ?a11 ?i11 ?l11 ?c11 ?k11 ?a12 ?i12 ?l12 ?c12 ?k12 ?a13 ?i13 ?l13 ?c13 ?k13 ?a14 ?g14 ?t14_ ?r14 ?l14 ?c14 ?a15 ?l15 ?c15 ?k15 ?a16 ?l16 ?c16 ?k16 ?a17 ?l17 ?c17 ?k17 ?a18 ?l18 ?c18 ?k18 ?a19 ?l19 ?c19 ?k19 ?a20 ?i20 ?l20 ?c20 ?k20 ?a21 ?l21 ?c21 ?k21 ?a22 ?l22 ?c22 ?k22 ?a23 ?l23 ?c23 ?k23 ?a24 ?i24 ?l24 ?c24 ?k24 ?a25 ?l25 ?c25 ?k25 ?a26 ?l26 ?c26 ?k26 ?a27 ?l27 ?c27 ?k27 ?a28 ?l28 ?c28 ?k28 ?a29 ?i29 ?l29 ?c29 ?k29 ?a30 ?l30 ?c30 ?k30 ?a31 ?l31 ?c31 ?k31 ?a32 ?l32 ?c32 ?k32 ?a33 ?l33 ?c33 ?k33 ?z0 ?z1 ?z2 ?z3 ?z4 ?z5 ?z6 ?z7 ?z8 ?z9 ?z10 ?aX_RoomError ?aX_Unknown ?x1 ?x2 ?x3 ?x4 ?x5 ?x6 ?x7 ?x8 ?x9 ?x10 ?x11 ?x12 ?x13 ?x14 ?x16 ?x17 ?x19
    (case aC_Item => k_is); (case pg_Item => k_is); (case hd_Item => k_is); (case po_Item => k_is); (case sa_Item => k_is); (case mk_Item => k_is); (case kc_Item => k_is); (case nf_Item_author => k_is); (case nf_Item_text => k_is); (case nf_Item_parent => k_is); (case nf_Item_edits => k_is); (case nf_Item_recalled => k_is); (case nf_Item_ref => k_is); (case nf_Item_names => k_is); (case aC_Board => k_is); (case pg_Board => k_is); (case hd_Board => k_is); (case po_Board => k_is); (case sa_Board => k_is); (case mk_Board => k_is); (case kc_Board => k_is); (case nf_Board_title => k_is); (case nf_Board_founder => k_is); (case nf_Board_items => k_is); (case nf_Board_notices => k_is); (case aC_Letter => k_is); (case pg_Letter => k_is); (case hd_Letter => k_is); (case po_Letter => k_is); (case sa_Letter => k_is); (case mk_Letter => k_is); (case kc_Letter => k_is); (case nf_Letter_author => k_is); (case nf_Letter_number => k_is); (case nf_Letter_stamp => k_is); (case nf_Letter_seen => k_is); (case nf_Letter_body => k_is); (case nf_Letter_counts => k_is); (case a0 => k_is); (case l0 => k_is); (case c0 => k_is); (case k0 => k_is); (case a1 => k_is); (case l1 => k_is); (case c1 => k_is); (case k1 => k_is); (case a2 => k_is); (case l2 => k_is); (case c2 => k_is); (case k2 => k_is); (case a3 => k_is); (case i3 => k_is); (case l3 => k_is); (case c3 => k_is); (case k3 => k_is); (case a4 => k_is); (case g4 => k_is); (case t4_ => k_is); (case r4 => k_is); (case l4 => k_is); (case c4 => k_is); (case a5 => k_is); (case i5 => k_is); (case l5 => k_is); (case c5 => k_is); (case k5 => k_is); (case a6 => k_is); (case i6 => k_is); (case l6 => k_is); (case c6 => k_is); (case k6 => k_is); (case a7 => k_is); (case i7 => k_is); (case l7 => k_is); (case c7 => k_is); (case k7 => k_is); (case a8 => k_is); (case i8 => k_is); (case l8 => k_is); (case c8 => k_is); (case k8 => k_is); (case a9 => k_is); (case i9 => k_is); (case l9 => k_is); (case c9 => k_is); (case k9 => k_is); (case a10 => k_is); (case i10 => k_is); (case l10 => k_is); (case c10 => k_is); (case k10 => k_is); (case a11 => k_is); (case i11 => k_is); (case l11 => k_is); (case c11 => k_is); (case k11 => k_is); (case a12 => k_is); (case i12 => k_is); (case l12 => k_is); (case c12 => k_is); (case k12 => k_is); (case a13 => k_is); (case i13 => k_is); (case l13 => k_is); (case c13 => k_is); (case k13 => k_is); (case a14 => k_is); (case g14 => k_is); (case t14_ => k_is); (case r14 => k_is); (case l14 => k_is); (case c14 => k_is); (case a15 => k_is); (case l15 => k_is); (case c15 => k_is); (case k15 => k_is); (case a16 => k_is); (case l16 => k_is); (case c16 => k_is); (case k16 => k_is); (case a17 => k_is); (case l17 => k_is); (case c17 => k_is); (case k17 => k_is); (case a18 => k_is); (case l18 => k_is); (case c18 => k_is); (case k18 => k_is); (case a19 => k_is); (case l19 => k_is); (case c19 => k_is); (case k19 => k_is); (case a20 => k_is); (case i20 => k_is); (case l20 => k_is); (case c20 => k_is); (case k20 => k_is); (case a21 => k_is); (case l21 => k_is); (case c21 => k_is); (case k21 => k_is); (case a22 => k_is); (case l22 => k_is); (case c22 => k_is); (case k22 => k_is); (case a23 => k_is); (case l23 => k_is); (case c23 => k_is); (case k23 => k_is); (case a24 => k_is); (case i24 => k_is); (case l24 => k_is); (case c24 => k_is); (case k24 => k_is); (case a25 => k_is); (case l25 => k_is); (case c25 => k_is); (case k25 => k_is); (case a26 => k_is); (case l26 => k_is); (case c26 => k_is); (case k26 => k_is); (case a27 => k_is); (case l27 => k_is); (case c27 => k_is); (case k27 => k_is); (case a28 => k_is); (case l28 => k_is); (case c28 => k_is); (case k28 => k_is); (case a29 => k_is); (case i29 => k_is); (case l29 => k_is); (case c29 => k_is); (case k29 => k_is); (case a30 => k_is); (case l30 => k_is); (case c30 => k_is); (case k30 => k_is); (case a31 => k_is); (case l31 => k_is); (case c31 => k_is); (case k31 => k_is); (case a32 => k_is); (case l32 => k_is); (case c32 => k_is); (case k32 => k_is); (case a33 => k_is); (case l33 => k_is); (case c33 => k_is); (case k33 => k_is); (case z0 => k_is); (case z1 => k_is); (case z2 => k_is); (case z3 => k_is); (case z4 => k_is); (case z5 => k_is); (case z6 => k_is); (case z7 => k_is); (case z8 => k_is); (case z9 => k_is); (case z10 => k_is); (case aX_RoomError => k_is); (case aX_Unknown => k_is); (case x1 => k_exc); (case x2 => first | rfl | k_is); (case x3 => first | rfl | k_is); (case x4 => first | rfl | k_is); (case x5 => first | rfl | k_is); (case x6 => first | rfl | k_is); (case x7 => first | rfl | k_is); (case x8 => first | rfl | k_is); (case x9 => first | rfl | k_is); (case x10 => first | rfl | k_is); (case x11 => first | rfl | k_is); (case x12 => first | rfl | k_is); (case x13 => first | rfl | k_is); (case x14 => first | rfl | k_is); (case x16 => first | rfl | k_is); (case x17 => first | rfl | k_is); (case x19 => first | rfl | k_is)
