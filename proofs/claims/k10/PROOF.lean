import PyProof.Rows.All
import Wide.All
import OpenK.AllK
import Wide.FinOn
import HandS.ForMost
import HandS.Wide
import HandS.IsInst
import HandS.TupAny
import HandS.Deep
import HandS.Conv
import HandS.Steps
import KE.KDictKeyed
import KE.KDictDisplayH
import KE.KeyNested
import HandS.Walk
import KE.KRevSl
import HandS.Zip
import KE.GoesMore
import KE.GoesEnum
import PyProof.ListRange
import PyProof.LongRange
import HandS.Small
import HandS.SortInts
import KE.SortData
import KE.DataMinMax
import KE.KDictSum
import HandS.Flow
import HandS.More
import HandS.DictComp
import HandS.DictTup
import PyProof.EqAt
import HandS.SetFor
import PySem.Challenge.RW_palmhall_k10_the_board
set_option Elab.async false
set_option linter.all false
set_option maxRecDepth 100000
set_option maxHeartbeats 4000001
namespace Z
open PySem PySem.Spec L2

/-! ### a heap told by two parts: F stays as it is, A is ours to change -/
structure Wd (F A H : Hp) : Prop where
  f : Same F H
  a : Same A H
  d : ∀ x o, A x = some o → F x = none
abbrev PV := V → Hp → Hp → Prop
def Ce (P : PV) (Q : VK) : Prop := ∀ v F A H, Wd F A H → P v F A → Q v H
def Wp (t : Hp → VK → Prop) (F A : Hp) (P : PV) : Prop := ∀ H, Wd F A H → ∀ Q : VK, Ce P Q → t H Q
def WpT (t : Hp → (Bool → Hp → Prop) → Prop) (F A : Hp) (P : Bool → Hp → Hp → Prop) : Prop := ∀ H, Wd F A H → ∀ Q : Bool → Hp → Prop, (∀ b F A H, Wd F A H → P b F A → Q b H) → t H Q
def WpA (t : Hp → (List V → Hp → Prop) → Prop) (F A : Hp) (P : List V → Hp → Hp → Prop) : Prop := ∀ H, Wd F A H → ∀ Q : List V → Hp → Prop, (∀ vs F A H, Wd F A H → P vs F A → Q vs H) → t H Q
def WpO (t : Hp → (Option Int → Hp → Prop) → Prop) (F A : Hp) (P : Option Int → Hp → Hp → Prop) : Prop := ∀ H, Wd F A H → ∀ Q : Option Int → Hp → Prop, (∀ o F A H, Wd F A H → P o F A → Q o H) → t H Q
def WpG (t : Hp → (St → Hp → Prop) → Prop) (F A : Hp) (P : St → Hp → Hp → Prop) : Prop := ∀ H, Wd F A H → ∀ Q : St → Hp → Prop, (∀ σ F A H, Wd F A H → P σ F A → Q σ H) → t H Q
def WpS (t : Hp → (Hp → Prop) → Prop) (F A : Hp) (P : Hp → Hp → Prop) : Prop := ∀ H, Wd F A H → ∀ Q : Hp → Prop, (∀ F A H, Wd F A H → P F A → Q H) → t H Q
structure Ed where
  nx : St → Hp → Hp → Prop
  rt : PV
  bk : St → Hp → Hp → Prop := fun _ _ _ => False
  ct : St → Hp → Hp → Prop := fun _ _ _ => False
structure Lo (D : Ed) (C : Ends) : Prop where
  nx : ∀ σ F A H, Wd F A H → D.nx σ F A → C.nx σ H
  rt : Ce D.rt C.rt
  bk : ∀ σ F A H, Wd F A H → D.bk σ F A → C.bk σ H
  ct : ∀ σ F A H, Wd F A H → D.ct σ F A → C.ct σ H
def S (ts : TS) (D : Ed) (σ : St) (F A : Hp) : Prop := ∀ H, Wd F A H → ∀ C : Ends, Lo D C → ts C σ H
/-- a promise over the two parts -/
abbrev SA := List V → Hp → Hp → PV → Prop
def conc (sa : SA) : Sp := fun vs H Q _ => ∃ F A P, Wd F A H ∧ sa vs F A P ∧ Ce P Q

/-! ### what may be forgotten, what may be fixed -/
def Wk (F A F' A' : Hp) : Prop := ∀ H, Wd F A H → Wd F' A' H
def rm (A : Hp) (p : Addr) : Hp := fun a => if a = p then none else A a
theorem rm_same {A : Hp} {p : Addr} : rm A p p = none := by unfold rm; rw [if_pos rfl]
theorem rm_ne {A : Hp} {p a : Addr} (h : a ≠ p) : rm A p a = A a := by unfold rm; rw [if_neg h]
theorem Wk.refl {F A : Hp} : Wk F A F A := fun _ w => w
theorem Wk.trans {F A F1 A1 F2 A2 : Hp} (h : Wk F A F1 A1) (g : Wk F1 A1 F2 A2) : Wk F A F2 A2 := fun H w => g H (h H w)
theorem Wk.drop {F A F' A' : Hp} (h1 : Same F' F) (h2 : Same A' A) : Wk F A F' A' := fun H w => ⟨h1.trans w.f, h2.trans w.a, fun x o e => by
  have e1 := w.d x o (h2 x o e)
  exact h1.free e1⟩
theorem Wk.freeze {F A : Hp} {p : Addr} {o : HO} (h : A p = some o) : Wk F A (upd F p o) (rm A p) := fun H w => ⟨fun a u e => by
    by_cases hp : a = p
    · subst hp; rw [upd_same] at e; cases e; exact w.a _ _ h
    · rw [upd_ne hp] at e; exact w.f a u e, fun a u e => by
    by_cases hp : a = p
    · subst hp; rw [rm_same] at e; cases e
    · rw [rm_ne hp] at e; exact w.a a u e, fun a u e => by
    by_cases hp : a = p
    · subst hp; rw [rm_same] at e; cases e
    · rw [rm_ne hp] at e; rw [upd_ne hp]; exact w.d a u e⟩
theorem rm_upd {A : Hp} {p : Addr} {o : HO} (h : A p = none) : rm (upd A p o) p = A := by
  funext a
  by_cases hp : a = p
  · subst hp; rw [rm_same, h]
  · rw [rm_ne hp, upd_ne hp]
theorem Wk.fix {F A : Hp} {p : Addr} {o : HO} (h : A p = none) : Wk F (upd A p o) (upd F p o) A := by
  have := Wk.freeze (F := F) (A := upd A p o) (p := p) (o := o) upd_same
  rw [rm_upd h] at this
  exact this
theorem same_upd {F : Hp} {p : Addr} {o : HO} (h : F p = none) : Same F (upd F p o) := fun b x e => by
  rw [upd_ne (ne_of_none e h)]
  exact e
theorem same_set {F F' : Hp} {p : Addr} {o : HO} (s : Same F F') (h : F p = none) : Same F (upd F' p o) := fun b x e => by
  rw [upd_ne (ne_of_none e h)]
  exact s b x e
theorem same_rm {A : Hp} {p : Addr} : Same (rm A p) A := fun a o e => by
  by_cases hp : a = p
  · subst hp; rw [rm_same] at e; cases e
  · rw [rm_ne hp] at e; exact e

/-! ### new objects -/
section
variable {F A H : Hp} {p : Addr} {o : HO}
theorem Wd.fn (w : Wd F A H) (h : H p = none) : F p = none := w.f.free h
theorem Wd.an (w : Wd F A H) (h : H p = none) : A p = none := w.a.free h
theorem Wd.newF (w : Wd F A H) (h : H p = none) : Wd (upd F p o) A (upd H p o) := ⟨fun a u e => by
    by_cases hp : a = p
    · subst hp; rw [upd_same] at e ⊢; exact e
    · rw [upd_ne hp] at e ⊢; exact w.f a u e, fun a u e => by
    rw [upd_ne (ne_of_none e (w.an h))]; exact w.a a u e, fun a u e => by
    rw [upd_ne (ne_of_none e (w.an h))]; exact w.d a u e⟩
theorem Wd.newA (w : Wd F A H) (h : H p = none) : Wd F (upd A p o) (upd H p o) := ⟨fun a u e => by
    rw [upd_ne (ne_of_none e (w.fn h))]; exact w.f a u e, fun a u e => by
    by_cases hp : a = p
    · subst hp; rw [upd_same] at e ⊢; exact e
    · rw [upd_ne hp] at e ⊢; exact w.a a u e, fun a u e => by
    by_cases hp : a = p
    · subst hp; exact w.fn h
    · rw [upd_ne hp] at e; exact w.d a u e⟩
theorem Wd.put {o' : HO} (w : Wd F A H) (h : A p = some o') : Wd F (upd A p o) (upd H p o) := ⟨fun a u e => by
    have hp : a ≠ p := fun z => by subst z; rw [w.d a o' h] at e; cases e
    rw [upd_ne hp]; exact w.f a u e, fun a u e => by
    by_cases hp : a = p
    · subst hp; rw [upd_same] at e ⊢; exact e
    · rw [upd_ne hp] at e ⊢; exact w.a a u e, fun a u e => by
    by_cases hp : a = p
    · subst hp; exact w.d a o' h
    · rw [upd_ne hp] at e; exact w.d a u e⟩
end

/-! ### expressions -/
section
variable {F A : Hp} {σ : St} {P : PV} {ta tb tc te : TE} {i : Nat} {v x y : V} {r : R2}
theorem e_var (h : σ[i]? = some (some v)) (q : P v F A) : Wp (tVar i σ) F A P := fun H w _ c => ⟨v, h, c v F A H w q⟩
theorem e_c (q : P v F A) : Wp (tC v σ) F A P := fun H w _ c => c v F A H w q
theorem e_op (h : Wp (ta σ) F A fun x F1 A1 => Wp (tb σ) F1 A1 fun y F2 A2 => Wp (r x y) F2 A2 P) : Wp (tOp r ta tb σ) F A P := fun H w Q c =>
  h H w _ fun x F1 A1 H1 w1 h1 => h1 H1 w1 _ fun y F2 A2 H2 w2 h2 => h2 H2 w2 Q c
theorem e_un {r : V → Hp → VK → Prop} (h : Wp (ta σ) F A fun x F1 A1 => Wp (r x) F1 A1 P) : Wp (tUn r ta σ) F A P := fun H w Q c =>
  h H w _ fun x F1 A1 H1 w1 h1 => h1 H1 w1 Q c
theorem e_call {sa : SA} {dvs : List V} {X : XK} {t : TA} (h : WpA (t σ) F A fun vs F1 A1 => sa (vs ++ dvs) F1 A1 P) : Wp (tCall (conc sa) dvs X t σ) F A P := fun H w Q c =>
  h H w _ fun vs F1 A1 H1 w1 h1 => ⟨F1, A1, P, w1, h1, c⟩
theorem e_cb {r : List V → Hp → VK → Prop} {t : TA} (h : WpA (t σ) F A fun vs F1 A1 => Wp (r vs) F1 A1 P) : Wp (tCB r t σ) F A P := fun H w Q c =>
  h H w _ fun vs F1 A1 H1 w1 h1 => h1 H1 w1 Q c
theorem e_bm {K : PySem.W.Frag} {T : String} {r : V → List V → Hp → VK → Prop} {to : TE} {t : TA}
    (h : Wp (to σ) F A fun x F1 A1 => (∀ H, Wd F1 A1 H → tyV K T x H) ∧ WpA (t σ) F1 A1 fun vs F2 A2 => Wp (r x vs) F2 A2 P) : Wp (tBM K T r to t σ) F A P := fun H w Q c =>
  h H w _ fun x F1 A1 H1 w1 h1 => ⟨h1.1 H1 w1, h1.2 H1 w1 _ fun vs F2 A2 H2 w2 h2 => h2 H2 w2 Q c⟩
theorem e_bm0 {K : PySem.W.Frag} {T : String} {r : V → List V → Hp → VK → Prop} {to : TE}
    (h : Wp (to σ) F A fun x F1 A1 => (∀ H, Wd F1 A1 H → tyV K T x H) ∧ Wp (r x []) F1 A1 P) : Wp (tBM0 K T r to σ) F A P := fun H w Q c =>
  h H w _ fun x F1 A1 H1 w1 h1 => ⟨h1.1 H1 w1, h1.2 H1 w1 Q c⟩
theorem e_sl {r : V → Option Int → Option Int → Hp → VK → Prop} {tl th : TO} (h : Wp (te σ) F A fun x F1 A1 => WpO (tl σ) F1 A1 fun l F2 A2 => WpO (th σ) F2 A2 fun u F3 A3 => Wp (r x l u) F3 A3 P) : Wp (tSl r te tl th σ) F A P := fun H w Q c =>
  h H w _ fun x F1 A1 H1 w1 h1 => h1 H1 w1 _ fun l F2 A2 H2 w2 h2 => h2 H2 w2 _ fun u F3 A3 H3 w3 h3 => h3 H3 w3 Q c
theorem o_none {P : Option Int → Hp → Hp → Prop} (q : P none F A) : WpO (tNoPart σ) F A P := fun H w _ c => c none F A H w q
theorem o_some {P : Option Int → Hp → Hp → Prop} (h : Wp (te σ) F A fun x F1 A1 => ∃ i, x = .int i ∧ P (some i) F1 A1) : WpO (tPart te σ) F A P := fun H w Q c =>
  h H w _ fun x F1 A1 H1 w1 ⟨i, e, q⟩ => ⟨i, e, c (some i) F1 A1 H1 w1 q⟩
theorem a_nil {P : List V → Hp → Hp → Prop} (q : P [] F A) : WpA (tNil σ) F A P := fun H w _ c => c [] F A H w q
theorem a_cons {P : List V → Hp → Hp → Prop} {tr : TA} (h : Wp (ta σ) F A fun x F1 A1 => WpA (tr σ) F1 A1 fun xs F2 A2 => P (x :: xs) F2 A2) : WpA (tCons ta tr σ) F A P := fun H w Q c =>
  h H w _ fun x F1 A1 H1 w1 h1 => h1 H1 w1 _ fun xs F2 A2 H2 w2 h2 => c (x :: xs) F2 A2 H2 w2 h2
/-- (a, b): a new tuple stays as it is -/
theorem e_tup {t : TA} (h : WpA (t σ) F A fun xs F1 A1 => xs.length ≤ sizeLine ∧ ∀ p, F1 p = none → A1 p = none → P (.ref p) (upd F1 p (.tup xs)) A1) : Wp (tTup t σ) F A P := fun H w Q c =>
  h H w _ fun xs F1 A1 H1 w1 h1 => ⟨h1.1, fun p hp => c _ _ _ _ (w1.newF hp) (h1.2 p (w1.fn hp) (w1.an hp))⟩
/-- [a, b]: a new list is ours -/
theorem e_lst {t : TA} (h : WpA (t σ) F A fun xs F1 A1 => xs.length ≤ sizeLine ∧ ∀ p, F1 p = none → A1 p = none → P (.ref p) F1 (upd A1 p (.lst xs))) : Wp (tLst t σ) F A P := fun H w Q c =>
  h H w _ fun xs F1 A1 H1 w1 h1 => ⟨h1.1, fun p hp => c _ _ _ _ (w1.newA hp) (h1.2 p (w1.fn hp) (w1.an hp))⟩
theorem e_wk {t : Hp → VK → Prop} {F1 A1 : Hp} (k : Wk F A F1 A1) (h : Wp t F1 A1 P) : Wp t F A P := fun H w Q c => h H (k H w) Q c
theorem e_mono {t : Hp → VK → Prop} {P' : PV} (h : Wp t F A P') (q : ∀ v F A, P' v F A → P v F A) : Wp t F A P := fun H w Q c => h H w Q fun v F1 A1 H1 w1 h1 => c v F1 A1 H1 w1 (q v F1 A1 h1)
theorem e_chain {r' : R2} (h : Wp (ta σ) F A fun x F1 A1 => Wp (tb σ) F1 A1 fun y F2 A2 => Wp (r x y) F2 A2 fun z F3 A3 => ∃ k, z = .bl k ∧ (if k = true then Wp (tc σ) F3 A3 fun u F4 A4 => Wp (r' y u) F4 A4 P else P (.bl false) F3 A3)) :
    Wp (tChain r r' ta tb tc σ) F A P := fun H w Q c =>
  h H w _ fun x F1 A1 H1 w1 h1 => h1 H1 w1 _ fun y F2 A2 H2 w2 h2 => h2 H2 w2 _ fun z F3 A3 H3 w3 h3 => by
    obtain ⟨k, e, h3⟩ := h3
    refine ⟨k, e, ?_⟩
    cases k with
    | true => exact h3 H3 w3 _ fun u F4 A4 H4 w4 h4 => h4 H4 w4 Q c
    | false => exact c _ _ _ _ w3 h3
/-! ### values by truth -/
theorem e_andV (h : Wp (ta σ) F A fun x F1 A1 => ∃ c, x = .bl c ∧ (if c = true then Wp (tb σ) F1 A1 P else P (.bl false) F1 A1)) : Wp (tAndV ta tb σ) F A P := fun H w Q c =>
  h H w _ fun x F1 A1 H1 w1 h1 => by
    obtain ⟨k, e, h3⟩ := h1
    refine ⟨k, e, ?_⟩
    cases k with
    | true => exact h3 H1 w1 Q c
    | false => exact c _ _ _ _ w1 h3
theorem e_orV (h : Wp (ta σ) F A fun x F1 A1 => ∃ c, x = .bl c ∧ (if c = true then P (.bl true) F1 A1 else Wp (tb σ) F1 A1 P)) : Wp (tOrV ta tb σ) F A P := fun H w Q c =>
  h H w _ fun x F1 A1 H1 w1 h1 => by
    obtain ⟨k, e, h3⟩ := h1
    refine ⟨k, e, ?_⟩
    cases k with
    | true => exact c _ _ _ _ w1 h3
    | false => exact h3 H1 w1 Q c
theorem e_notV (h : Wp (ta σ) F A fun x F1 A1 => ∃ c, x = .bl c ∧ P (.bl (!c)) F1 A1) : Wp (tNotV ta σ) F A P := fun H w Q c =>
  h H w _ fun x F1 A1 H1 w1 ⟨k, e, q⟩ => ⟨k, e, c _ _ _ _ w1 q⟩
theorem e_if {t : TT} (h : WpT (t σ) F A fun b F1 A1 => if b = true then Wp (ta σ) F1 A1 P else Wp (tb σ) F1 A1 P) : Wp (tIf t ta tb σ) F A P := fun H w Q c =>
  h H w _ fun b F1 A1 H1 w1 h1 => by
    cases b with
    | true => exact h1 H1 w1 Q c
    | false => exact h1 H1 w1 Q c
/-! ### tests -/
variable {PT : Bool → Hp → Hp → Prop} {t u : TT}
theorem t_test (h : Wp (te σ) F A fun x F1 A1 => ∃ c, x = .bl c ∧ PT c F1 A1) : WpT (tTest te σ) F A PT := fun H w Q c =>
  h H w _ fun x F1 A1 H1 w1 ⟨k, e, q⟩ => ⟨k, e, c _ _ _ _ w1 q⟩
theorem t_B (h : Wp (te σ) F A fun x F1 A1 => ∃ c, x = .bl c ∧ PT c F1 A1) : WpT (tB te σ) F A PT := fun H w Q c =>
  h H w _ fun x F1 A1 H1 w1 ⟨k, e, q⟩ => ⟨k, e, c _ _ _ _ w1 q⟩
theorem t_and (h : WpT (t σ) F A fun b F1 A1 => if b = true then WpT (u σ) F1 A1 PT else PT false F1 A1) : WpT (tAnd t u σ) F A PT := fun H w Q c =>
  h H w _ fun b F1 A1 H1 w1 h1 => by
    cases b with
    | true => exact h1 H1 w1 Q c
    | false => exact c _ _ _ _ w1 h1
theorem t_or (h : WpT (t σ) F A fun b F1 A1 => if b = true then PT true F1 A1 else WpT (u σ) F1 A1 PT) : WpT (tOr t u σ) F A PT := fun H w Q c =>
  h H w _ fun b F1 A1 H1 w1 h1 => by
    cases b with
    | true => exact c _ _ _ _ w1 h1
    | false => exact h1 H1 w1 Q c
theorem t_not (h : WpT (t σ) F A fun b F1 A1 => PT (!b) F1 A1) : WpT (tNot t σ) F A PT := fun H w Q c =>
  h H w _ fun b F1 A1 H1 w1 h1 => c _ _ _ _ w1 h1
theorem t_yes (q : PT true F A) : WpT (tYes σ) F A PT := fun H w Q c => c _ _ _ _ w q
end

/-! ### statements -/
section
variable {F A : Hp} {σ : St} {D : Ed} {te : TE} {t u ts : TS} {i : Nat}
theorem s_seq (h : S t { D with nx := fun σ F A => S u D σ F A } σ F A) : S (tSeq t u) D σ F A := fun H w C c =>
  h H w _ ⟨fun σ F A H w q => q H w C c, c.rt, c.bk, c.ct⟩
theorem s_next (h : D.nx σ F A) : S tNext D σ F A := fun H w C c => c.nx _ _ _ _ w h
theorem s_brk (h : D.bk σ F A) : S tBreak D σ F A := fun H w C c => c.bk _ _ _ _ w h
theorem s_cont (h : D.ct σ F A) : S tCont D σ F A := fun H w C c => c.ct _ _ _ _ w h
theorem s_drop (h : Wp (te σ) F A fun _ F1 A1 => D.nx σ F1 A1) : S (tDrop te) D σ F A := fun H w C c =>
  h H w _ fun v F1 A1 H1 w1 q => c.nx _ _ _ _ w1 q
theorem s_ret (h : Wp (te σ) F A D.rt) : S (tRet te) D σ F A := fun H w C c => h H w _ c.rt
theorem s_retN (h : D.rt .non F A) : S tRetN D σ F A := fun H w C c => c.rt _ _ _ _ w h
theorem s_if {c : TT} (h : WpT (c σ) F A fun b F1 A1 => if b = true then S t D σ F1 A1 else S u D σ F1 A1) : S (tIfS c t u) D σ F A := fun H w C cc =>
  h H w _ fun b F1 A1 H1 w1 h1 => by
    cases b with
    | true => exact h1 H1 w1 C cc
    | false => exact h1 H1 w1 C cc
theorem s_set (h : Wp (te σ) F A fun v F1 A1 => D.nx (σ.set i (some v)) F1 A1) : S (tAsg te (gName i)) D σ F A := fun H w C c =>
  h H w _ fun v F1 A1 H1 w1 q => c.nx _ _ _ _ w1 q
theorem s_asg {g : TG} (h : Wp (te σ) F A fun v F1 A1 => WpG (g v σ) F1 A1 D.nx) : S (tAsg te g) D σ F A := fun H w C c =>
  h H w _ fun v F1 A1 H1 w1 q => q H1 w1 _ c.nx
theorem s_wk {F1 A1 : Hp} (k : Wk F A F1 A1) (h : S ts D σ F1 A1) : S ts D σ F A := fun H w C c => h H (k H w) C c
theorem s_par {i j : Nat} {ta : TA} (h : WpA (ta σ) F A fun vs F1 A1 => ∃ v w, vs = [v, w] ∧ D.nx ((σ.set i (some v)).set j (some w)) F1 A1) : S (tPar i j ta) D σ F A := fun H w C c =>
  h H w _ fun vs F1 A1 H1 w1 ⟨v, x, e, q⟩ => ⟨v, x, e, c.nx _ _ _ _ w1 q⟩
theorem s_aug {ti : TIp} (h : ∃ x, σ[i]? = some (some x) ∧ Wp (te σ) F A fun y F1 A1 => Wp (ti x y) F1 A1 fun z F2 A2 => D.nx (σ.set i (some z)) F2 A2) : S (tAug i te ti) D σ F A := fun H w C c => by
  obtain ⟨x, e, h⟩ := h
  exact ⟨x, e, h H w _ fun y F1 A1 H1 w1 h1 => h1 H1 w1 _ fun z F2 A2 H2 w2 q => c.nx _ _ _ _ w2 q⟩
/-! ### targets -/
variable {PG : St → Hp → Hp → Prop} {v : V}
theorem g_name (q : PG (σ.set i (some v)) F A) : WpG (gName i v σ) F A PG := fun H w Q c => c _ _ _ _ w q
theorem g_tup {K : PySem.W.Frag} {n : Nat} {gs : TGs} (h : ∃ a xs, v = .ref a ∧ SqT K F a xs ∧ xs.length = n ∧ WpG (gs xs σ) F A PG) : WpG (gTup K n gs v σ) F A PG := fun H w Q c => by
  obtain ⟨a, xs, e, hs, hl, q⟩ := h
  refine ⟨a, xs, e, ?_, hl, q H w Q c⟩
  rcases hs with (h | ⟨o, h⟩) | h
  · exact .inl (.inl (w.f _ _ h))
  · exact .inl (.inr ⟨o, w.f _ _ h⟩)
  · exact .inr h
theorem g_nil (q : PG σ F A) : WpG (gNil [] σ) F A PG := fun H w Q c => ⟨rfl, c _ _ _ _ w q⟩
theorem g_cons {x : V} {xs : List V} {g : TG} {gs : TGs} (h : WpG (g x σ) F A fun σ1 F1 A1 => WpG (gs xs σ1) F1 A1 PG) : WpG (gCons g gs (x :: xs) σ) F A PG := fun H w Q c =>
  ⟨x, xs, rfl, h H w _ fun σ1 F1 A1 H1 w1 h1 => h1 H1 w1 Q c⟩
theorem g_sub {to ti : TE} {tt : TSet} (h : Wp (to σ) F A fun o F1 A1 => Wp (ti σ) F1 A1 fun i F2 A2 => WpS (tt o i v) F2 A2 fun F3 A3 => PG σ F3 A3) : WpG (gSub to ti tt v σ) F A PG := fun H w Q c =>
  h H w _ fun o F1 A1 H1 w1 h1 => h1 H1 w1 _ fun i F2 A2 H2 w2 h2 => h2 H2 w2 _ fun F3 A3 H3 w3 q => c _ _ _ _ w3 q
end

/-! ### a def's body -/
def endOf (P : PV) : Ed := { nx := fun _ F A => ∃ F' A', Wk F A F' A' ∧ P .non F' A', rt := fun v F A => ∃ F' A', Wk F A F' A' ∧ P v F' A' }
theorem body {ts : TS} {σ : St} {F A H : Hp} {P : PV} {Q : VK} (w : Wd F A H) (c : Ce P Q) (h : S ts (endOf P) σ F A) : ts { nx := fun _ H' => Q .non H', rt := Q } σ H :=
  h H w _ ⟨fun σ F A H w ⟨F', A', k, q⟩ => c _ _ _ _ (k H w) q, fun v F A H w ⟨F', A', k, q⟩ => c _ _ _ _ (k H w) q, fun _ _ _ _ _ h => h.elim, fun _ _ _ _ _ h => h.elim⟩

/-! ### sequences in either part -/
def Sl (K : PySem.W.Frag) (F A : Hp) (a : Addr) (xs : List V) : Prop := SqL K F a xs ∨ A a = some (.lst xs)
theorem sq_mono {K : PySem.W.Frag} {F F' : Hp} {a : Addr} {xs : List V} (s : Same F F') (h : SqL K F a xs) : SqL K F' a xs := s.seq h
theorem st_mono {K : PySem.W.Frag} {F F' : Hp} {a : Addr} {xs : List V} (s : Same F F') (h : SqT K F a xs) : SqT K F' a xs := by
  rcases h with (h | ⟨o, h⟩) | h
  · exact .inl (.inl (s _ _ h))
  · exact .inl (.inr ⟨o, s _ _ h⟩)
  · exact .inr h
theorem Sl.at {K : PySem.W.Frag} {F A H : Hp} {a : Addr} {xs : List V} (h : Sl K F A a xs) (w : Wd F A H) : SqL K H a xs := by
  rcases h with h | h
  · exact sq_mono w.f h
  · exact .inl (.inl (w.a _ _ h))
mutual
theorem dp_mono {K : PySem.W.Frag} {F F' : Hp} (s : Same F F') : ∀ {v : V} {d : PyData}, Dp K F v d → Dp K F' v d
  | _, _, .non => .non
  | _, _, .bl b => .bl b
  | _, _, .int i => .int i
  | _, _, .str x => .str x
  | _, _, .lst h hs => .lst (sq_mono s h) (dps_mono s hs)
  | _, _, .tup h hs => .tup (st_mono s h) (dps_mono s hs)
theorem dps_mono {K : PySem.W.Frag} {F F' : Hp} (s : Same F F') : ∀ {vs : List V} {ds : List PyData}, DpAll K F vs ds → DpAll K F' vs ds
  | _, _, .nil => .nil
  | _, _, .cons h hs => .cons (dp_mono s h) (dps_mono s hs)
end
theorem dps_len {K : PySem.W.Frag} {F : Hp} : ∀ {vs : List V} {ds : List PyData}, DpAll K F vs ds → vs.length = ds.length
  | _, _, .nil => rfl
  | _, _, .cons _ hs => by simp [dps_len hs]
theorem dps_get {K : PySem.W.Frag} {F : Hp} : ∀ {vs : List V} {ds : List PyData} {i : Nat} {d : PyData}, DpAll K F vs ds → ds[i]? = some d → ∃ v, vs[i]? = some v ∧ Dp K F v d
  | _, _, _, _, .nil, e => by simp at e
  | _, _, 0, _, .cons h _, e => by simp at e; subst e; exact ⟨_, rfl, h⟩
  | _, _, i + 1, d, .cons _ hs, e => by simpa using dps_get (i := i) hs (by simpa using e)
theorem dps_at {K : PySem.W.Frag} {F : Hp} : ∀ {vs : List V} {ds : List PyData} {i : Nat} {v : V}, DpAll K F vs ds → vs[i]? = some v → ∃ d, ds[i]? = some d ∧ Dp K F v d
  | _, _, _, _, .nil, e => by simp at e
  | _, _, 0, _, .cons h _, e => by simp at e; subst e; exact ⟨_, rfl, h⟩
  | _, _, i + 1, d, .cons _ hs, e => by simpa using dps_at (i := i) hs (by simpa using e)
theorem dps_app {K : PySem.W.Frag} {F : Hp} : ∀ {vs ws : List V} {ds es : List PyData}, DpAll K F vs ds → DpAll K F ws es → DpAll K F (vs ++ ws) (ds ++ es)
  | _, _, _, _, .nil, h => h
  | _, _, _, _, .cons h hs, g => .cons h (dps_app hs g)
theorem dps_take {K : PySem.W.Frag} {F : Hp} : ∀ {vs : List V} {ds : List PyData} (n : Nat), DpAll K F vs ds → DpAll K F (vs.take n) (ds.take n)
  | _, _, 0, _ => .nil
  | _, _, _ + 1, .nil => .nil
  | _, _, n + 1, .cons h hs => .cons h (dps_take n hs)
theorem dps_drop {K : PySem.W.Frag} {F : Hp} : ∀ {vs : List V} {ds : List PyData} (n : Nat), DpAll K F vs ds → DpAll K F (vs.drop n) (ds.drop n)
  | _, _, 0, h => h
  | _, _, _ + 1, .nil => .nil
  | _, _, n + 1, .cons _ hs => dps_drop n hs
/-! inversions -/
section
variable {K : PySem.W.Frag} {F : Hp} {v : V}
theorem dp_int {i : Int} (h : Dp K F v (.int i)) : v = .int i := by cases h; rfl
theorem dp_bl {b : Bool} (h : Dp K F v (.bool b)) : v = .bl b := by cases h; rfl
theorem dp_str {x : Str} (h : Dp K F v (.str x)) : v = .str x := by cases h; rfl
theorem dp_non (h : Dp K F v .none) : v = .non := by cases h; rfl
theorem dp_tup {ds : List PyData} (h : Dp K F v (.tuple ds)) : ∃ a xs, v = .ref a ∧ SqT K F a xs ∧ DpAll K F xs ds := by cases h with | tup h hs => exact ⟨_, _, rfl, h, hs⟩
theorem dp_lst {ds : List PyData} (h : Dp K F v (.list ds)) : ∃ a xs, v = .ref a ∧ SqL K F a xs ∧ DpAll K F xs ds := by cases h with | lst h hs => exact ⟨_, _, rfl, h, hs⟩
theorem dps_nil {vs : List V} (h : DpAll K F vs []) : vs = [] := by cases h; rfl
theorem dps_cons {vs : List V} {d : PyData} {ds : List PyData} (h : DpAll K F vs (d :: ds)) : ∃ x xs, vs = x :: xs ∧ Dp K F x d ∧ DpAll K F xs ds := by cases h with | cons h hs => exact ⟨_, _, rfl, h, hs⟩
end
end Z
namespace Z
open PySem PySem.Spec L2

/-! ### both parts as one -/
def jn (F A : Hp) : Hp := fun a => match F a with | some o => some o | none => A a
theorem jn_f {F A : Hp} : Same F (jn F A) := fun a o e => by unfold jn; rw [e]
theorem jn_a {F A : Hp} {p : Addr} {o : HO} (hf : F p = none) (h : A p = some o) : jn F A p = some o := by unfold jn; rw [hf]; exact h
theorem Wd.j {F A H : Hp} (w : Wd F A H) : Same (jn F A) H := fun a o e => by
  unfold jn at e
  cases q : F a with
  | none => rw [q] at e; exact w.a _ _ e
  | some u => rw [q] at e; cases e; exact w.f _ _ q

/-! ### operators that serve several kinds -/
section
variable {X : Cx} {f : Value → Value → Sem Value}
theorem opr_or {r s : R2} (h1 : OpR X f r) (h2 : OpR X f s) : OpR X f (fun x y H Q => r x y H Q ∨ s x y H Q) := fun pins s σ H x y v u Q I rx ry h =>
  h.elim (fun h => h1 pins s σ H x y v u Q I rx ry h) (fun h => h2 pins s σ H x y v u Q I rx ry h)
theorem cr_or {g : Value} {r s : List V → Hp → VK → Prop} (h1 : CallR X g r) (h2 : CallR X g s) : CallR X g (fun xs H Q => r xs H Q ∨ s xs H Q) := fun pins s σ H xs us Q I rv h =>
  h.elim (fun h => h1 pins s σ H xs us Q I rv h) (fun h => h2 pins s σ H xs us Q I rv h)
theorem slr_or {r s : V → Option Int → Option Int → Hp → VK → Prop} (h1 : SlR X r) (h2 : SlR X s) : SlR X (fun x lo hi H Q => r x lo hi H Q ∨ s x lo hi H Q) := fun pins s σ H x v vl vu lo hi sl Q I rx hs pl pu h =>
  h.elim (fun h => h1 pins s σ H x v vl vu lo hi sl Q I rx hs pl pu h) (fun h => h2 pins s σ H x v vl vu lo hi sl Q I rx hs pl pu h)
end
def rAddI : R2 := rI0 fun i j => .int (i + j)
def rAddS : R2 := fun x y H Q => ∃ i j, x = .str i ∧ y = .str j ∧ i.length + j.length ≤ sizeLine ∧ Q (.str (i ++ j)) H
def uAdd (K : PySem.W.Frag) : R2 := fun x y H Q => rAddI x y H Q ∨ rAddS x y H Q ∨ rCat x y H Q ∨ rCatA K x y H Q
theorem oAdd {X : Cx} : OpR X (binaryOp .Add) (uAdd X.K) := opr_or op_add (opr_or op_add_str (opr_or op_cat op_catA))
def rSubI : R2 := rI0 fun i j => .int (i - j)
theorem oSub {X : Cx} : OpR X (binaryOp .Sub) rSubI := op_sub
def rMulI : R2 := rI CMulW fun i j => .int (i * j)
def uMul : R2 := fun x y H Q => rMulI x y H Q ∨ rRep x y H Q
theorem oMul {X : Cx} : OpR X (binaryOp .Mult) uMul := opr_or op_mulW op_rep
def rDivI : R2 := rI CDivW fun i j => .int (i / j)
theorem oDiv {X : Cx} : OpR X (binaryOp .FloorDiv) rDivI := op_fdivW
def rModI : R2 := rI (fun _ j => 0 < j) fun i j => .int (i % j)
theorem oMod {X : Cx} : OpR X (binaryOp .Mod) rModI := op_mod
def rPowI : R2 := rI CPow fun i j => .int (i ^ j.toNat)
theorem oPow {X : Cx} : OpR X (binaryOp .Pow) rPowI := op_pow
def uEq (K : PySem.W.Frag) : R2 := fun x y H Q => rEq x y H Q ∨ rEqD K x y H Q
theorem oEq {X : Cx} (hu : X.A.units + 64 < cLine) : OpR X (compareOp .Eq) (uEq X.K) := opr_or op_eq (op_eqD hu)
def uNe (K : PySem.W.Frag) : R2 := fun x y H Q => rNe x y H Q ∨ rNeD K x y H Q
theorem oNe {X : Cx} (hu : X.A.units + 64 < cLine) : OpR X (compareOp .NotEq) (uNe X.K) := opr_or op_ne (op_neD hu)
def uIn (K : PySem.W.Frag) : R2 := fun x y H Q => rIn K false x y H Q ∨ rInD K x y H Q
theorem oIn {X : Cx} (hu : X.A.units + 65 < cLine) : OpR X (compareOp .In) (uIn X.K) := opr_or op_in_seq (op_inD hu)
def uNotIn (K : PySem.W.Frag) : R2 := fun x y H Q => rIn K true x y H Q ∨ rNotInD K x y H Q
theorem oNotIn {X : Cx} (hu : X.A.units + 65 < cLine) : OpR X (compareOp .NotIn) (uNotIn X.K) := opr_or op_notIn_seq (op_notInD hu)
def rLtI : R2 := rI0 fun i j => .bl (decide (i < j))
def rLeI : R2 := rI0 fun i j => .bl (decide (i ≤ j))
def rGtI : R2 := rI0 fun i j => .bl (decide (j < i))
def rGeI : R2 := rI0 fun i j => .bl (decide (j ≤ i))
theorem oLt {X : Cx} : OpR X (compareOp .Lt) rLtI := op_lt
theorem oLe {X : Cx} : OpR X (compareOp .LtE) rLeI := op_le
theorem oGt {X : Cx} : OpR X (compareOp .Gt) rGtI := op_gt
theorem oGe {X : Cx} : OpR X (compareOp .GtE) rGeI := op_ge
theorem oIs {X : Cx} : OpR X (compareOp .Is) rIsN := op_isN
theorem oIsNot {X : Cx} : OpR X (compareOp .IsNot) rNotN := op_notN
def rNegI : V → Hp → VK → Prop := rU fun i => .int (-i)
theorem oNeg {X : Cx} : UnR X (unaryOp .USub) rNegI := un_neg
def uSl (K : PySem.W.Frag) : V → Option Int → Option Int → Hp → VK → Prop := fun x lo hi H Q => rSlL K x lo hi H Q ∨ rSlA K x lo hi H Q
theorem oSl {X : Cx} : SlR X (uSl X.K) := slr_or sl_list sl_tupA
theorem units_in {k : Nat} {A : Around} (r : Room k A) : A.units + 65 < cLine := by have := r.un; omega
/-! ### calls of built-ins -/
def rLenQ (K : PySem.W.Frag) : List V → Hp → VK → Prop := fun xs H Q => ∃ p ys, xs = [.ref p] ∧ (SqL K H p ys ∨ SqT K H p ys) ∧ Q (.int ys.length) H
theorem cLen {X : Cx} : CallR X (.builtin "len") (rLenQ X.K) := call_len_seq
def rMin2 : List V → Hp → VK → Prop := fun xs H Q => ∃ i j, xs = [.int i, .int j] ∧ Q (.int (if j < i then j else i)) H
def uMin (K : PySem.W.Frag) : List V → Hp → VK → Prop := fun xs H Q => rMin2 xs H Q ∨ rMin K xs H Q
theorem cMin {X : Cx} (hc : X.calm = true) : CallR X (.builtin "min") (uMin X.K) := cr_or (call_min2 hc) (cr_min hc)
/-- the greater of two numbers -/
def rTop2 (xs : List V) (H : Hp) (Q : VK) : Prop := ∃ i j, xs = [.int i, .int j] ∧
  Q (.int (if j > i then j else i)) H
def uMax (K : PySem.W.Frag) : List V → Hp → VK → Prop := fun xs H Q => rTop2 xs H Q ∨ rMax K xs H Q
theorem cMax {X : Cx} (hc : X.calm = true) : CallR X (.builtin "max") (uMax X.K) := cr_or (call_max2 hc) (cr_max hc)
theorem cSum {X : Cx} (hc : X.calm = true) : CallR X (.builtin "sum") (rSum X.K) := cr_sum hc
def rIntOf : List V → Hp → VK → Prop := fun xs H Q => (∃ i, xs = [.int i] ∧ Q (.int i) H) ∨ ∃ k, xs = [.bl k] ∧ Q (.int (if k then 1 else 0)) H
theorem cInt {X : Cx} : CallR X (.type "int") rIntOf := call_int1
def rListOf (K : PySem.W.Frag) : List V → Hp → VK → Prop := fun xs H Q => ∃ p ys, xs = [.ref p] ∧ (SqL K H p ys ∨ SqT K H p ys) ∧ ∀ l, H l = none → Q (.ref l) (upd H l (.lst ys))
theorem cList {X : Cx} : CallR X (.type "list") (rListOf X.K) := call_list_of
def rTupOf (K : PySem.W.Frag) : List V → Hp → VK → Prop := fun xs H Q => ∃ p ys, xs = [.ref p] ∧ ((SqL K H p ys ∧ ∀ l, H l = none → Q (.ref l) (upd H l (.tup ys))) ∨ (SqT K H p ys ∧ Q (.ref p) H))
theorem cTuple {X : Cx} : CallR X (.type "tuple") (rTupOf X.K) := call_tuple_of
theorem cIsi {X : Cx} : CallR X (.builtin "isinstance") (rIsi X.K) := call_isi

/-! ### what they give, over the two parts -/
section
variable {K : PySem.W.Frag} {F A : Hp} {P : PV} {i j : Int} {x y : V} {a b : Addr} {xs ys : List V} {d e : PyData} {ds es : List PyData}
theorem w_addI (q : P (.int (i + j)) F A) : Wp (uAdd K (.int i) (.int j)) F A P := fun H w _ c => .inl ⟨i, j, rfl, rfl, c _ _ _ _ w q⟩
theorem w_addS {s t : Str} (hl : s.length + t.length ≤ sizeLine) (q : P (.str (s ++ t)) F A) : Wp (uAdd K (.str s) (.str t)) F A P := fun H w _ c => .inr (.inl ⟨s, t, rfl, rfl, hl, c _ _ _ _ w q⟩)
theorem w_addL (h1 : jn F A a = some (.lst xs)) (h2 : jn F A b = some (.lst ys)) (hl : xs.length + ys.length ≤ sizeLine) (q : ∀ p, F p = none → A p = none → P (.ref p) F (upd A p (.lst (xs ++ ys)))) :
    Wp (uAdd K (.ref a) (.ref b)) F A P := fun H w _ c => .inr (.inr (.inl ⟨a, b, xs, ys, rfl, rfl, w.j _ _ h1, w.j _ _ h2, hl, fun p hp => c _ _ _ _ (w.newA hp) (q p (w.fn hp) (w.an hp))⟩))
theorem w_addT (h1 : Dp K F x (.tuple ds)) (h2 : Dp K F y (.tuple es)) (hl : ds.length + es.length ≤ sizeLine) (q : ∀ v F', Same F F' → (∀ p, A p ≠ none → F' p = none) → Dp K F' v (.tuple (ds ++ es)) → P v F' A) :
    Wp (uAdd K x y) F A P := fun H w _ c => by
  obtain ⟨a, xs, rfl, hx, dx⟩ := dp_tup h1
  obtain ⟨b, ys, rfl, hy, dy⟩ := dp_tup h2
  have l1 := dps_len dx
  have l2 := dps_len dy
  have dj : ∀ p, A p ≠ none → F p = none := fun p hp => by
    cases e : A p with
    | none => exact absurd e hp
    | some o => exact w.d p o e
  refine .inr (.inr (.inr ⟨a, b, xs, ys, rfl, rfl, st_mono w.f hx, st_mono w.f hy, by omega, fun e0 => ?_, fun e1 e2 => ?_, fun e1 e2 p hp => ?_⟩))
  · subst e0
    cases dx
    exact c _ _ _ _ w (q _ F (Same.refl F) dj h2)
  · subst e2
    cases dy
    rw [List.append_nil] at q
    exact c _ _ _ _ w (q _ F (Same.refl F) dj h1)
  · have s1 : Same F (upd F p (.tup (xs ++ ys))) := same_upd (w.fn hp)
    refine c _ _ _ _ (w.newF hp) (q _ _ s1 (fun r hr => ?_) (.tup (.inl (.inl upd_same)) (dps_app (dps_mono s1 dx) (dps_mono s1 dy))))
    have hne : r ≠ p := fun z => hr (by rw [z]; exact w.an hp)
    rw [upd_ne hne]
    exact dj r hr
theorem w_sub (q : P (.int (i - j)) F A) : Wp (rSubI (.int i) (.int j)) F A P := fun H w _ c => ⟨i, j, rfl, rfl, c _ _ _ _ w q⟩
theorem w_mul (h : CMulW i j) (q : P (.int (i * j)) F A) : Wp (uMul (.int i) (.int j)) F A P := fun H w _ c => .inl ⟨i, j, rfl, rfl, h, c _ _ _ _ w q⟩
theorem w_div (h : CDivW i j) (q : P (.int (i / j)) F A) : Wp (rDivI (.int i) (.int j)) F A P := fun H w _ c => ⟨i, j, rfl, rfl, h, c _ _ _ _ w q⟩
theorem w_mod (h : 0 < j) (q : P (.int (i % j)) F A) : Wp (rModI (.int i) (.int j)) F A P := fun H w _ c => ⟨i, j, rfl, rfl, h, c _ _ _ _ w q⟩
theorem w_pow (h : CPow i j) (q : P (.int (i ^ j.toNat)) F A) : Wp (rPowI (.int i) (.int j)) F A P := fun H w _ c => ⟨i, j, rfl, rfl, h, c _ _ _ _ w q⟩
theorem w_neg (q : P (.int (-i)) F A) : Wp (rNegI (.int i)) F A P := fun H w _ c => ⟨i, rfl, c _ _ _ _ w q⟩
theorem w_lt (q : P (.bl (decide (i < j))) F A) : Wp (rLtI (.int i) (.int j)) F A P := fun H w _ c => ⟨i, j, rfl, rfl, c _ _ _ _ w q⟩
theorem w_le (q : P (.bl (decide (i ≤ j))) F A) : Wp (rLeI (.int i) (.int j)) F A P := fun H w _ c => ⟨i, j, rfl, rfl, c _ _ _ _ w q⟩
theorem w_gt (q : P (.bl (decide (j < i))) F A) : Wp (rGtI (.int i) (.int j)) F A P := fun H w _ c => ⟨i, j, rfl, rfl, c _ _ _ _ w q⟩
theorem w_ge (q : P (.bl (decide (j ≤ i))) F A) : Wp (rGeI (.int i) (.int j)) F A P := fun H w _ c => ⟨i, j, rfl, rfl, c _ _ _ _ w q⟩
theorem w_eqV (h : scal x y = true) (q : P (.bl (decide (x = y))) F A) : Wp (uEq K x y) F A P := fun H w _ c => .inl ⟨h, c _ _ _ _ w q⟩
theorem w_neV (h : scal x y = true) (q : P (.bl (!decide (x = y))) F A) : Wp (uNe K x y) F A P := fun H w _ c => .inl ⟨h, c _ _ _ _ w q⟩
theorem w_eqD (h1 : Dp K (jn F A) x d) (h2 : Dp K (jn F A) y e) (s1 : SeqAt.shaped d = true) (s2 : SeqAt.shaped e = true) (q : P (.bl (PyData.eqv d e)) F A) : Wp (uEq K x y) F A P := fun H w _ c =>
  .inr ⟨d, e, dp_mono w.j h1, dp_mono w.j h2, s1, s2, c _ _ _ _ w q⟩
theorem w_neD (h1 : Dp K (jn F A) x d) (h2 : Dp K (jn F A) y e) (s1 : SeqAt.shaped d = true) (s2 : SeqAt.shaped e = true) (q : P (.bl (!PyData.eqv d e)) F A) : Wp (uNe K x y) F A P := fun H w _ c =>
  .inr ⟨d, e, dp_mono w.j h1, dp_mono w.j h2, s1, s2, c _ _ _ _ w q⟩
theorem w_inD (h1 : Dp K (jn F A) x d) (h2 : Dp K (jn F A) y (.list es)) (s1 : SeqAt.shaped d = true) (s2 : SeqAt.shaped (.list es) = true) (q : P (.bl (es.any fun z => PyData.eqv z d)) F A) : Wp (uIn K x y) F A P := fun H w _ c =>
  .inr ⟨d, es, dp_mono w.j h1, dp_mono w.j h2, s1, s2, c _ _ _ _ w q⟩
theorem w_notInD (h1 : Dp K (jn F A) x d) (h2 : Dp K (jn F A) y (.list es)) (s1 : SeqAt.shaped d = true) (s2 : SeqAt.shaped (.list es) = true) (q : P (.bl (!es.any fun z => PyData.eqv z d)) F A) : Wp (uNotIn K x y) F A P := fun H w _ c =>
  .inr ⟨d, es, dp_mono w.j h1, dp_mono w.j h2, s1, s2, c _ _ _ _ w q⟩
theorem w_inT (h : SqT K F b xs) (fx : flatV x = true) (fa : xs.all flatV = true) (q : P (.bl (inV x xs)) F A) : Wp (uIn K x (.ref b)) F A P := fun H w _ c =>
  .inl ⟨b, xs, rfl, .inr (st_mono w.f h), fx, fa, c _ _ _ _ w q⟩
theorem w_inL (h : Sl K F A b xs) (fx : flatV x = true) (fa : xs.all flatV = true) (q : P (.bl (inV x xs)) F A) : Wp (uIn K x (.ref b)) F A P := fun H w _ c =>
  .inl ⟨b, xs, rfl, .inl (h.at w), fx, fa, c _ _ _ _ w q⟩
theorem w_is (q : P (.bl (decide (x = .non))) F A) : Wp (rIsN x .non) F A P := fun H w _ c => ⟨rfl, c _ _ _ _ w q⟩
theorem w_isNot (q : P (.bl (!decide (x = .non))) F A) : Wp (rNotN x .non) F A P := fun H w _ c => ⟨rfl, c _ _ _ _ w q⟩
/-! items -/
theorem dps_atI : ∀ {xs : List V} {ds : List PyData} {i : Int} {d : PyData}, DpAll K F xs ds → atI ds i = some d → ∃ v, atI xs i = some v ∧ Dp K F v d := fun {xs ds i d} h e => by
  unfold atI at e ⊢
  rw [dps_len h]
  cases q : ixN ds.length i with
  | none => rw [q] at e; cases e
  | some k =>
    rw [q] at e
    exact dps_get h e
theorem w_ixT (h : Dp K F x (.tuple ds)) (hi : atI ds i = some d) (q : ∀ v, Dp K F v d → P v F A) : Wp (rIx K x (.int i)) F A P := fun H w _ c => by
  obtain ⟨a, xs, rfl, hx, dx⟩ := dp_tup h
  obtain ⟨v, hv, dv⟩ := dps_atI dx hi
  exact .inr (.inl ⟨a, xs, i, v, rfl, rfl, st_mono w.f hx, hv, c _ _ _ _ w (q v dv)⟩)
theorem w_ixL (h : Dp K F x (.list ds)) (hi : atI ds i = some d) (q : ∀ v, Dp K F v d → P v F A) : Wp (rIx K x (.int i)) F A P := fun H w _ c => by
  obtain ⟨a, xs, rfl, hx, dx⟩ := dp_lst h
  obtain ⟨v, hv, dv⟩ := dps_atI dx hi
  exact .inl ⟨a, xs, i, v, rfl, rfl, sq_mono w.f hx, hv, c _ _ _ _ w (q v dv)⟩
theorem w_ixA {v : V} (h : Sl K F A a xs) (hi : atI xs i = some v) (q : P v F A) : Wp (rIx K (.ref a) (.int i)) F A P := fun H w _ c =>
  .inl ⟨a, xs, i, v, rfl, rfl, h.at w, hi, c _ _ _ _ w q⟩
theorem w_ixV {v : V} (h : SqT K F a xs) (hi : atI xs i = some v) (q : P v F A) : Wp (rIx K (.ref a) (.int i)) F A P := fun H w _ c =>
  .inr (.inl ⟨a, xs, i, v, rfl, rfl, st_mono w.f h, hi, c _ _ _ _ w q⟩)
/-! slices -/
def cutD (xs : List PyData) (lo hi : Option Int) : List PyData := (xs.drop (HT.sIx xs.length 0 lo)).take (HT.sIx xs.length xs.length hi - HT.sIx xs.length 0 lo)
theorem dps_cut {lo hi : Option Int} (h : DpAll K F xs ds) : DpAll K F (cutV xs lo hi) (cutD ds lo hi) := by
  unfold cutV cutD
  rw [dps_len h]
  exact dps_take _ (dps_drop _ h)
theorem w_slT {lo hi : Option Int} (h : Dp K F x (.tuple ds)) (q : ∀ v F', Same F F' → (∀ p, A p ≠ none → F' p = none) → Dp K F' v (.tuple (cutD ds lo hi)) → P v F' A) : Wp (uSl K x lo hi) F A P := fun H w _ c => by
  obtain ⟨a, xs, rfl, hx, dx⟩ := dp_tup h
  have dj : ∀ p, A p ≠ none → F p = none := fun p hp => by
    cases e : A p with
    | none => exact absurd e hp
    | some o => exact w.d p o e
  refine .inr ⟨a, xs, rfl, st_mono w.f hx, fun hw => ?_, fun _ p hp => ?_⟩
  · have e : cutD ds lo hi = ds := by
      unfold cutD
      rw [dps_len dx] at hw
      rw [hw.1, hw.2]
      simp
    rw [e] at q
    exact c _ _ _ _ w (q _ F (Same.refl F) dj h)
  · have s1 : Same F (upd F p (.tup (cutV xs lo hi))) := same_upd (w.fn hp)
    refine c _ _ _ _ (w.newF hp) (q _ _ s1 (fun r hr => ?_) (.tup (.inl (.inl upd_same)) (dps_cut (dps_mono s1 dx))))
    have hne : r ≠ p := fun z => hr (by rw [z]; exact w.an hp)
    rw [upd_ne hne]
    exact dj r hr
theorem w_slL {lo hi : Option Int} (h : Sl K F A a xs) (q : ∀ p, F p = none → A p = none → P (.ref p) F (upd A p (.lst (cutV xs lo hi)))) : Wp (uSl K (.ref a) lo hi) F A P := fun H w _ c =>
  .inl ⟨a, xs, rfl, h.at w, fun p hp => c _ _ _ _ (w.newA hp) (q p (w.fn hp) (w.an hp))⟩
/-! calls -/
theorem w_len (h : Sl K F A a xs) (q : P (.int xs.length) F A) : Wp (rLenQ K [.ref a]) F A P := fun H w _ c => ⟨a, xs, rfl, .inl (h.at w), c _ _ _ _ w q⟩
theorem w_lenT (h : SqT K F a xs) (q : P (.int xs.length) F A) : Wp (rLenQ K [.ref a]) F A P := fun H w _ c => ⟨a, xs, rfl, .inr (st_mono w.f h), c _ _ _ _ w q⟩
theorem w_lenD (h : Dp K (jn F A) x d) (hd : d = .list ds ∨ d = .tuple ds) (q : P (.int ds.length) F A) : Wp (rLenQ K [x]) F A P := fun H w _ c => by
  rcases hd with rfl | rfl
  · obtain ⟨a, xs, rfl, hx, dx⟩ := dp_lst h
    exact ⟨a, xs, rfl, .inl (sq_mono w.j hx), by rw [dps_len dx]; exact c _ _ _ _ w q⟩
  · obtain ⟨a, xs, rfl, hx, dx⟩ := dp_tup h
    exact ⟨a, xs, rfl, .inr (st_mono w.j hx), by rw [dps_len dx]; exact c _ _ _ _ w q⟩
theorem w_min2 (q : P (.int (if j < i then j else i)) F A) : Wp (uMin K [.int i, .int j]) F A P := fun H w _ c => .inl ⟨i, j, rfl, c _ _ _ _ w q⟩
theorem w_max2 (q : P (.int (if j > i then j else i)) F A) : Wp (uMax K [.int i, .int j]) F A P := fun H w _ c => .inl ⟨i, j, rfl, c _ _ _ _ w q⟩
theorem w_intB {k : Bool} (q : P (.int (if k then 1 else 0)) F A) : Wp (rIntOf [.bl k]) F A P := fun H w _ c => .inr ⟨k, rfl, c _ _ _ _ w q⟩
theorem w_list (h : Sl K F A a xs) (q : ∀ p, F p = none → A p = none → P (.ref p) F (upd A p (.lst xs))) : Wp (rListOf K [.ref a]) F A P := fun H w _ c =>
  ⟨a, xs, rfl, .inl (h.at w), fun p hp => c _ _ _ _ (w.newA hp) (q p (w.fn hp) (w.an hp))⟩
theorem w_listT (h : SqT K F a xs) (q : ∀ p, F p = none → A p = none → P (.ref p) F (upd A p (.lst xs))) : Wp (rListOf K [.ref a]) F A P := fun H w _ c =>
  ⟨a, xs, rfl, .inr (st_mono w.f h), fun p hp => c _ _ _ _ (w.newA hp) (q p (w.fn hp) (w.an hp))⟩
theorem w_tupL (h : Sl K F A a xs) (q : ∀ p, F p = none → A p = none → P (.ref p) (upd F p (.tup xs)) A) : Wp (rTupOf K [.ref a]) F A P := fun H w _ c =>
  ⟨a, xs, rfl, .inl ⟨h.at w, fun p hp => c _ _ _ _ (w.newF hp) (q p (w.fn hp) (w.an hp))⟩⟩
/-! isinstance -/
def tyD : PyData → String
  | .tuple _ => "tuple"
  | .list _ => "list"
  | .int _ => "int"
  | .bool _ => "bool"
  | .str _ => "str"
  | .none => "NoneType"
  | .dict _ => "dict"
theorem dp_ty {H : Hp} (h : Dp K H x d) : TyX K H x (.type (tyD d)) := by
  cases h with
  | non => exact .base .non
  | bl b => exact .base (.bl b)
  | int i => exact .base (.int i)
  | str s => exact .base (.str s)
  | lst h _ =>
    rcases h with (h | ⟨o, h⟩) | ⟨o, its, n, h, c, _⟩
    · exact .base (.lst h)
    · exact .base (.frz h)
    · exact .kList h c
  | tup h _ =>
    rcases h with (h | ⟨o, h⟩) | ⟨o, its, n, h, c, _⟩
    · exact .base (.tup h)
    · exact .fTuple h
    · exact .kTuple h c
theorem w_isi {T : String} {k : Bool} (h : Dp K (jn F A) x d) (e : kitB (tyD d) T = some k) (q : P (.bl k) F A) : Wp (rIsi K [x, .ty T]) F A P := fun H w _ c =>
  ⟨x, .ty T, _, _, k, rfl, .ty T, dp_ty (dp_mono w.j h), kit_ty e, c _ _ _ _ w q⟩
/-! list methods -/
theorem w_append (h : A a = some (.lst xs)) (hl : xs.length < sizeLine) (q : P .non F (upd A a (.lst (xs ++ [y])))) : Wp (rAppend (.ref a) [y]) F A P := fun H w _ c =>
  ⟨a, xs, y, rfl, rfl, w.a _ _ h, hl, c _ _ _ _ (w.put h) q⟩
theorem w_set {k : Nat} (h : A a = some (.lst xs)) (hk : ixN xs.length i = some k) {PS : Hp → Hp → Prop} (q : PS F (upd A a (.lst (xs.set k y)))) : WpS (rSetL (.ref a) (.int i) y) F A PS := fun H w _ c =>
  ⟨a, xs, i, k, rfl, rfl, w.a _ _ h, hk, c _ _ _ (w.put h) q⟩
theorem ty_lst (h : Sl K F A a xs) : ∀ H, Wd F A H → tyV K "list" (.ref a) H := fun H w => .inl ⟨rfl, _, h.at w⟩
end
end Z
namespace Z
open PySem PySem.Spec L2

section
variable {F A : Hp} {σ : St} {D : Ed} {tb : TS}
/-- while, by a word and a number that falls -/
theorem s_while {c : TT} (I : Nat → St → Hp → Hp → Prop) (h0 : ∃ m, I m σ F A)
    (hs : ∀ m σ F A, I m σ F A → WpT (c σ) F A fun b F1 A1 => if b = true then S tb { D with nx := fun σ F A => ∃ m', m' < m ∧ I m' σ F A, ct := fun σ F A => ∃ m', m' < m ∧ I m' σ F A, bk := D.nx } σ F1 A1 else D.nx σ F1 A1) :
    S (tWhile c tb) D σ F A := fun H w C cc => by
  obtain ⟨m0, h0⟩ := h0
  refine ⟨fun m σ H => ∃ F A, Wd F A H ∧ I m σ F A, ⟨m0, F, A, w, h0⟩, ?_⟩
  rintro m σ H ⟨F, A, w, q⟩
  refine hs m σ F A q H w _ fun b F1 A1 H1 w1 h1 => ?_
  cases b with
  | true =>
    refine ⟨fun σ H => ∃ F A, Wd F A H ∧ ∃ m', m' < m ∧ I m' σ F A, fun σ' H' ⟨F, A, w, m', hm, q⟩ => ⟨m', hm, F, A, w, q⟩, ?_⟩
    exact h1 H1 w1 _ ⟨fun σ F A H w q => ⟨F, A, w, q⟩, cc.rt, fun σ F A H w q => cc.nx _ _ _ _ w q, fun σ F A H w q => ⟨F, A, w, q⟩⟩
  | false => exact cc.nx _ _ _ _ w1 h1
end
end Z
namespace M
open PySem PySem.Spec L2 Z PyProof.Rows

/-! ### dicts whose keys are tuples of numbers, texts, None, and such: told by their own object alone -/
abbrev NK := NestedKey
mutual
/-- the key that a thing is -/
def nkOf : PyData → Option NK
  | .none => some .none
  | .int i => some (.num i)
  | .str x => some (.text x)
  | .tuple ds => match nksOf ds with
    | some ks => some (.tup ks)
    | none => none
  | .bool _ => none
  | .list _ => none
  | .dict _ => none
def nksOf : List PyData → Option (List NK)
  | [] => some []
  | d :: ds => match nkOf d with
    | some k => match nksOf ds with
      | some ks => some (k :: ks)
      | none => none
    | none => none
end
/-- a tuple that may be a key -/
def tkOf : PyData → Option NK
  | .tuple ds => match nkOf (.tuple ds) with
    | some k => if k.depth ≤ 8 then some k else none
    | none => none
  | _ => none
theorem tkOf_eq {d : PyData} {k : NK} (h : tkOf d = some k) : ∃ ds, d = .tuple ds ∧ nkOf d = some k ∧ k.depth ≤ 8 := by
  unfold tkOf at h
  split at h
  · rename_i ds
    split at h
    · rename_i k' e
      split at h
      · rename_i hd
        cases h
        exact ⟨ds, rfl, e, hd⟩
      · cases h
    · cases h
  · cases h
section
variable {X : Cx} {pins : List (Addr × PySem.Obj)} {σ : L2.St} {H : Hp} {s : Shared}
mutual
theorem nk_is (I : Inv X pins σ H s) : ∀ (d : PyData) (k : NK) (v : V) (u : Value), nkOf d = some k → Dp X.K H v d → RelV v u → NestedIs s.heap k u
  | .none, k, v, u, e, h, r => by
    rw [nkOf] at e
    cases e; cases h
    rw [show u = Value.none from r]
    exact .none
  | .int i, k, v, u, e, h, r => by
    rw [nkOf] at e
    cases e; cases h
    obtain ⟨t, rfl⟩ := r
    exact .int i t
  | .str x, k, v, u, e, h, r => by
    rw [nkOf] at e
    cases e; cases h
    obtain ⟨t, rfl⟩ := r
    exact .text x t
  | .tuple ds, k, v, u, e, h, r => by
    rw [nkOf] at e
    split at e
    · rename_i ks g
      cases e
      cases h with
      | tup hs hd =>
        obtain ⟨its, r2, ⟨o, h1, h2, n, h3⟩, _⟩ := I.tuple hs
        rw [show u = Value.ref _ from r]
        exact .tup h1 h2 h3 (nks_is I ds ks _ _ g hd (by simpa using r2))
    · cases e
  | .bool b, k, v, u, e, h, r => by rw [nkOf] at e; cases e
  | .list b, k, v, u, e, h, r => by rw [nkOf] at e; cases e
  | .dict b, k, v, u, e, h, r => by rw [nkOf] at e; cases e
theorem nks_is (I : Inv X pins σ H s) : ∀ (ds : List PyData) (ks : List NK) (vs : List V) (us : List Value), nksOf ds = some ks → DpAll X.K H vs ds → Vals vs us → NestedAll s.heap ks us
  | [], ks, vs, us, e, h, r => by
    rw [nksOf] at e
    cases e; cases h; cases r
    exact .nil
  | d :: ds, ks, vs, us, e, h, r => by
    rw [nksOf] at e
    split at e
    · rename_i k g
      split at e
      · rename_i ks2 g2
        cases e
        cases h with
        | cons h hs => cases r with
          | cons r rs => exact .cons (nk_is I d k _ _ g h r) (nks_is I ds ks2 _ _ g2 hs rs)
      · cases e
    · cases e
end
end
/-- an entry: the key, where its tuple stands, the value -/
abbrev NE := NK × Addr × V
def RelE (p : NE) (q : NK × Addr × Value) : Prop := p.1 = q.1 ∧ p.2.1 = q.2.1 ∧ RelV p.2.2 q.2.2
def dnAt (w : World) (a : Addr) (xs : List NE) (h : Heap) : Prop := xs.length ≤ sizeLine ∧ (a == sysModules) = false ∧ ∃ vs : List (NK × Addr × Value), Paired RelE xs vs ∧ (vs.map (·.1)).Nodup ∧
  ∃ o es ep, h.get? a = some o ∧ o.ExactDict ∧ o.data = .dict es ep ∧ es.toList = vs.map fun y => (⟨y.1.hash w, .ref y.2.1, y.2.2⟩ : DictEntry)
def DN (w : World) (a : Addr) (xs : List NE) : HO := .ext (dnAt w a xs)
theorem dn_ok {P : Program} {w w' : World} {H : Hp} {h : Heap} {a : Addr} {xs : List NE} (q : dnAt w a xs h) : ObjOk P w' H h a (DN w a xs) := by
  refine ⟨q, ?_, fun h1 h2 q1 k => ?_⟩
  · obtain ⟨_, _, _, _, _, o, _, _, e, _⟩ := q
    exact ⟨o, e⟩
  · obtain ⟨z, m, vs, r, nd, o, es, ep, e, rest⟩ := q1
    exact ⟨z, m, vs, r, nd, o, es, ep, k o e, rest⟩
def valN (xs : List NE) (k : NK) : Option V := (xs.find? fun e => decide (e.1 = k)).map (·.2.2)
def putN (xs : List NE) (k : NK) (b : Addr) (v : V) : List NE :=
  if (xs.any fun e => decide (e.1 = k)) = true then xs.map (fun e => if e.1 = k then (e.1, e.2.1, v) else e) else xs ++ [(k, b, v)]
def delN (xs : List NE) (k : NK) : List NE := xs.filter fun e => decide (e.1 ≠ k)
/-- what is found agrees -/
def AtOk (o : Option V) (r : Option (Addr × Value)) : Prop := match o with
  | some v => ∃ p, r = some p ∧ RelV v p.2
  | none => r = none
theorem rele_val {k : NK} : ∀ {xs : List NE} {vs : List (NK × Addr × Value)}, Paired RelE xs vs → AtOk (valN xs k) (atKey vs k)
  | _, _, .nil => rfl
  | _, _, .cons (a := p) (b := q) (l₁ := xs) (l₂ := vs) h t => by
    have ih := rele_val (k := k) t
    by_cases z : p.1 = k
    · have e1 : valN (p :: xs) k = some p.2.2 := by simp [valN, z]
      have e2 : atKey (q :: vs) k = some q.2 := by simp [atKey, ← h.1, z]
      rw [e1]
      exact ⟨_, e2, h.2.2⟩
    · have e1 : valN (p :: xs) k = valN xs k := by simp [valN, z]
      have e2 : atKey (q :: vs) k = atKey vs k := by simp [atKey, ← h.1, z]
      rw [e1, e2]
      exact ih
theorem rele_any {k : NK} : ∀ {xs : List NE} {vs : List (NK × Addr × Value)}, Paired RelE xs vs → (xs.any fun e => decide (e.1 = k)) = (atKey vs k).isSome
  | _, _, .nil => rfl
  | _, _, .cons (a := p) (b := q) (l₁ := xs) (l₂ := vs) h t => by
    have ih := rele_any (k := k) t
    rw [List.any_cons, ih]
    by_cases z : p.1 = k
    · simp [atKey, ← h.1, z]
    · simp [atKey, ← h.1, z]
theorem rele_repl {k : NK} {v : V} {u : Value} (rv : RelV v u) : ∀ {xs : List NE} {vs : List (NK × Addr × Value)}, Paired RelE xs vs → Paired RelE (xs.map fun e => if e.1 = k then (e.1, e.2.1, v) else e) (vs.map (putAt k u))
  | _, _, .nil => .nil
  | _, _, .cons h t => by
    rw [List.map_cons, List.map_cons]
    refine .cons ?_ (rele_repl rv t)
    unfold putAt
    rw [← h.1]
    split
    · exact ⟨rfl, h.2.1, rv⟩
    · exact h
theorem rele_snoc {p : NE} {q : NK × Addr × Value} (h : RelE p q) : ∀ {xs : List NE} {vs : List (NK × Addr × Value)}, Paired RelE xs vs → Paired RelE (xs ++ [p]) (vs ++ [q])
  | _, _, .nil => .cons h .nil
  | _, _, .cons g t => .cons g (rele_snoc h t)
theorem rele_put {k : NK} {b : Addr} {v : V} {u : Value} (rv : RelV v u) {xs : List NE} {vs : List (NK × Addr × Value)} (h : Paired RelE xs vs) : Paired RelE (putN xs k b v) (storedH vs k b u) := by
  unfold putN storedH
  rw [rele_any h]
  split
  · exact rele_repl rv h
  · exact rele_snoc ⟨rfl, rfl, rv⟩ h
theorem rele_len : ∀ {xs : List NE} {vs : List (NK × Addr × Value)}, Paired RelE xs vs → xs.length = vs.length
  | _, _, .nil => rfl
  | _, _, .cons _ t => by simp [rele_len t]
theorem putN_len {xs : List NE} {k : NK} {b : Addr} {v : V} : (putN xs k b v).length ≤ xs.length + 1 := by
  unfold putN
  split <;> simp
theorem rele_keys : ∀ {xs : List NE} {vs : List (NK × Addr × Value)}, Paired RelE xs vs → ∀ q ∈ vs, ∃ p ∈ xs, p.1 = q.1 ∧ p.2.1 = q.2.1
  | _, _, .nil, q, hq => by cases hq
  | _, _, .cons (a := p) h t, q, hq => by
    rcases List.mem_cons.mp hq with rfl | hq
    · exact ⟨p, by simp, h.1, h.2.1⟩
    · obtain ⟨p2, h1, h2⟩ := rele_keys t q hq
      exact ⟨p2, by simp [h1], h2⟩
/-- where the keys stand -/
def KeysN (K : PySem.W.Frag) (H : Hp) (xs : List NE) : Prop := ∀ e ∈ xs, ∃ d, nkOf d = some e.1 ∧ e.1.depth ≤ 8 ∧ Dp K H (.ref e.2.1) d
section
variable {X : Cx} {pins : List (Addr × PySem.Obj)} {σ : L2.St} {H H' : Hp} {s : Shared} {a : Addr} {w : World} {xs : List NE} {A : Around} {E : Value → Shared → Prop} {y v : V} {u r : Value} {o : Option V}
theorem dn_rd (I : Inv X pins σ H s) (e : Rd H a (DN X.w a xs)) (hk : KeysN X.K H xs) : xs.length ≤ sizeLine ∧ (a == sysModules) = false ∧ ∃ vs, Paired RelE xs vs ∧ s.heap.DictOfH (nestedKind X.prog X.w) a vs := by
  obtain ⟨⟨z, m, vs, rel, nd, o, es, ep, e1, e2, e3, e4⟩, _, _⟩ := e.ok I.hok
  refine ⟨z, m, vs, rel, o, es, ep, e1, e2, e3, e4, fun q hq => ?_, nd⟩
  obtain ⟨p, hp, g1, g2⟩ := rele_keys rel q hq
  obtain ⟨d, g3, g4, g5⟩ := hk p hp
  rw [← g1, ← g2]
  exact ⟨nk_is I d _ _ _ g3 g5 rfl, g4⟩
/-- what the dict at a holds at y -/
def NGet (w : World) (K : PySem.W.Frag) (H : Hp) (a : Addr) (y : V) (o : Option V) : Prop := ∃ xs k b d, Rd H a (DN w a xs) ∧ KeysN K H xs ∧ y = .ref b ∧ Dp K H y d ∧ tkOf d = some k ∧ o = valN xs k
theorem nget_at (I : Inv X pins σ H s) (g : NGet X.w X.K H a y o) (ry : RelV y u) : ∃ vs k b, u = .ref b ∧ (a == sysModules) = false ∧ s.heap.DictOfH (nestedKind X.prog X.w) a vs ∧ (nestedKind X.prog X.w).is s.heap k b ∧
    AtOk o (atKey vs k) := by
  obtain ⟨xs, k, b, d, e, hk, rfl, hd, ek, rfl⟩ := g
  obtain ⟨z, m, vs, rel, dd⟩ := dn_rd I e hk
  obtain ⟨ds, _, e2, e3⟩ := tkOf_eq ek
  cases (id ry : u = Value.ref b)
  exact ⟨vs, k, b, rfl, m, dd, ⟨nk_is I d k _ _ e2 hd rfl, e3⟩, rele_val rel⟩
theorem n_room (hu : A.units + 64 < cLine) : (nestedKind X.prog X.w).room A.in1 := by
  show A.units + 1 + 8 < cLine
  omega
theorem n_getItem {Q : Value → Shared → Prop} (hu : A.units + 64 < cLine) (I : Inv X pins σ H s) (g : NGet X.w X.K H a y (some v)) (ry : RelV y u) (h : ∀ w' s', Inv X pins σ H s' → RelV v w' → Q w' s') : wpAny (model X.prog X.w) A (getItem (.ref a) u) Q E s := by
  obtain ⟨vs, k, b, rfl, m, dd, hk, p, e1, e2⟩ := nget_at I g ry
  exact wpAny_getItem_heap (n_room hu) hk dd e1 (h _ _ (I.tok _) e2)
theorem some_eq {vs : List (NK × Addr × Value)} {k : NK} (h : AtOk o (atKey vs k)) : (atKey vs k).isSome = o.isSome := by
  cases o with
  | none => rw [show atKey vs k = none from h]; rfl
  | some v => obtain ⟨p, e, _⟩ := h; rw [e]; rfl
theorem n_in {Q : Value → Shared → Prop} (hu : A.units + 64 < cLine) (I : Inv X pins σ H s) (g : NGet X.w X.K H a y o) (ry : RelV y u) (h : ∀ s', Inv X pins σ H s' → Q (.bool o.isSome) s') : wpAny (model X.prog X.w) A (compareOp .In u (.ref a)) Q E s := by
  obtain ⟨vs, k, b, rfl, m, dd, hk, e⟩ := nget_at I g ry
  exact wpAny_in_heap (n_room hu) hk m dd (by rw [some_eq e]; exact h _ (I.tok _))
theorem n_notIn {Q : Value → Shared → Prop} (hu : A.units + 64 < cLine) (I : Inv X pins σ H s) (g : NGet X.w X.K H a y o) (ry : RelV y u) (h : ∀ s', Inv X pins σ H s' → Q (.bool (!o.isSome)) s') : wpAny (model X.prog X.w) A (compareOp .NotIn u (.ref a)) Q E s := by
  obtain ⟨vs, k, b, rfl, m, dd, hk, e⟩ := nget_at I g ry
  refine notIn_keyed (kvs := pairsH vs) (n_room hu) hk m ⟨vs, dd, rfl⟩ ?_
  rw [valueAt_pairsH, Option.isSome_map, some_eq e]
  exact h _ (I.tok _)
theorem n_get2 {d : V} {Q : Value → Shared → Prop} (hu : A.units + 64 < cLine) (I : Inv X pins σ H s) (g : NGet X.w X.K H a y o) (ry : RelV y u) (rd : RelV d r) (h : ∀ w' s', Inv X pins σ H s' → RelV (o.getD d) w' → Q w' s') : wpAny (model X.prog X.w) A (call (.builtin "dict.get") [.ref a, u, r]) Q E s := by
  obtain ⟨vs, k, b, rfl, m, dd, hk, e⟩ := nget_at I g ry
  refine getOr_keyed (kvs := pairsH vs) (n_room hu) hk m ⟨vs, dd, rfl⟩ (h _ _ (I.tok _) ?_)
  rw [valueAt_pairsH]
  cases o with
  | none => rw [show atKey vs k = none from e]; exact rd
  | some v => obtain ⟨p, e1, e2⟩ := e; rw [e1]; exact e2
theorem n_get1 {Q : Value → Shared → Prop} (hu : A.units + 64 < cLine) (I : Inv X pins σ H s) (g : NGet X.w X.K H a y o) (ry : RelV y u) (h : ∀ w' s', Inv X pins σ H s' → RelV (o.getD .non) w' → Q w' s') : wpAny (model X.prog X.w) A (call (.builtin "dict.get") [.ref a, u]) Q E s := by
  obtain ⟨vs, k, b, rfl, m, dd, hk, e⟩ := nget_at I g ry
  refine get_keyed (kvs := pairsH vs) (n_room hu) hk m ⟨vs, dd, rfl⟩ (h _ _ (I.tok _) ?_)
  rw [valueAt_pairsH]
  cases o with
  | none => rw [show atKey vs k = none from e]; exact rfl
  | some v => obtain ⟨p, e1, e2⟩ := e; rw [e1]; exact e2
/-- the heap once y has got v -/
def NPut (w : World) (K : PySem.W.Frag) (H : Hp) (a : Addr) (y v : V) (H' : Hp) : Prop := ∃ xs k b d, H a = some (DN w a xs) ∧ KeysN K H xs ∧ y = .ref b ∧ Dp K H y d ∧ tkOf d = some k ∧ xs.length < sizeLine ∧ H' = upd H a (DN w a (putN xs k b v))
theorem dn_of {P : Program} {vs : List (NK × Addr × Value)} {h : Heap} (hl : xs.length ≤ sizeLine) (m : (a == sysModules) = false) (r : Paired RelE xs vs) (dd : h.DictOfH (nestedKind P w) a vs) : dnAt w a xs h := by
  obtain ⟨o, es, ep, e1, e2, e3, e4, _, e5⟩ := dd
  exact ⟨hl, m, vs, r, e5, o, es, ep, e1, e2, e3, e4⟩
theorem dict_there {P : Program} {vs : List (NK × Addr × Value)} {h : Heap} (dd : h.DictOfH (nestedKind P w) a vs) : ∃ q, h.get? a = some q := by
  obtain ⟨o, _, _, e, _⟩ := dd
  exact ⟨o, e⟩
theorem n_setItem {Q : Unit → Shared → Prop} (hu : A.units + 64 < cLine) (I : Inv X pins σ H s) (g : NPut X.w X.K H a y v H') (ry : RelV y u) (rv : RelV v r) (h : ∀ s', Inv X pins σ H' s' → Q () s') : wpAny (model X.prog X.w) A (setItem (.ref a) u r) Q E s := by
  obtain ⟨xs, k, b, d, e, hk, rfl, hd, ek, hl, rfl⟩ := g
  obtain ⟨z, m, vs, rel, dd⟩ := dn_rd I (.inl e) hk
  obtain ⟨ds, _, e2, e3⟩ := tkOf_eq ek
  cases (id ry : u = Value.ref b)
  have lv : vs.length ≤ sizeLine := by rw [← rele_len rel]; exact z
  refine wpAny_setItem_heap (hsz := lv) (n_room hu) ⟨nk_is I d k _ _ e2 hd rfl, e3⟩ dd fun h' dd' sb => h _ ?_
  exact d_write I (by rw [e]; exact True.intro) sb (dict_there dd') (dn_ok (dn_of (by have := putN_len (xs := xs) (k := k) (b := b) (v := v); omega) m (rele_put rv rel) dd'))
theorem n_dictSet {Q : Unit → Shared → Prop} (hu : A.units + 64 < cLine) (I : Inv X pins σ H s) (g : NPut X.w X.K H a y v H') (ry : RelV y u) (rv : RelV v r) (h : ∀ s', Inv X pins σ H' s' → Q () s') : wpAny (model X.prog X.w) A (dictSet a u r) Q E s := by
  obtain ⟨xs, k, b, d, e, hk, rfl, hd, ek, hl, rfl⟩ := g
  obtain ⟨z, m, vs, rel, dd⟩ := dn_rd I (.inl e) hk
  obtain ⟨ds, _, e2, e3⟩ := tkOf_eq ek
  cases (id ry : u = Value.ref b)
  have lv : vs.length ≤ sizeLine := by rw [← rele_len rel]; exact z
  have ro : (nestedKind X.prog X.w).room A := by
    show A.units + 8 < cLine
    omega
  refine wpAny_dictSet_heap (hsz := lv) ro ⟨nk_is I d k _ _ e2 hd rfl, e3⟩ dd fun h' dd' sb => h _ ?_
  exact d_write I (by rw [e]; exact True.intro) sb (dict_there dd') (dn_ok (dn_of (by have := putN_len (xs := xs) (k := k) (b := b) (v := v); omega) m (rele_put rv rel) dd'))
theorem nget_dict (I : Inv X pins σ H s) (e : Rd H a (DN w a xs)) : s.TypeIs (.ref a) "dict" ∧ (a == sysModules) = false ∧ ∀ b, Value.ref a = .ref b → ∃ ob, s.heap.get? b = some ob ∧ ob.dict = none := by
  obtain ⟨⟨_, m, _, _, _, ob, _, _, e1, e2, _⟩, _, _⟩ := e.ok I.hok
  refine ⟨⟨ob, e1, e2.1⟩, m, fun b q => ?_⟩
  cases q
  exact ⟨ob, e1, e2.2.1⟩
end
end M
namespace M
open PySem PySem.Spec L2 Z

/-! ### things by value: dat is shared and stays; lst, tup are owned by whoever holds them -/
abbrev D := PyData
inductive O where
  | dat (d : D)
  | lst (xs : List O)
  | tup (xs : List O)
  | dic (kvs : List (Key × D))
  | lck (kvs : List (Key × D))
  | dtt (w : PySem.World) (kvs : List (NK × D))
  | lkn (w : PySem.World) (kvs : List (NK × D))
mutual
def O.er : O → D
  | .dat d => d
  | .lst xs => .list (erL xs)
  | .tup xs => .tuple (erL xs)
  | .dic _ => .none
  | .lck _ => .none
  | .dtt _ _ => .none
  | .lkn _ _ => .none
def erL : List O → List D
  | [] => []
  | x :: xs => x.er :: erL xs
end
mutual
def O.pl : O → Bool
  | .dat _ => true
  | .lst xs => plL xs
  | .tup xs => plL xs
  | .dic _ => false
  | .lck _ => false
  | .dtt _ _ => false
  | .lkn _ _ => false
def plL : List O → Bool
  | [] => true
  | x :: xs => x.pl && plL xs
end
abbrev Env := List (Option O)

/-- the pairs of a dict: the same keys, and values that are data -/
inductive KD (K : PySem.W.Frag) (F : Hp) : List (Key × V) → List (Key × D) → Prop
  | nil : KD K F [] []
  | cons {k : Key} {v : V} {d : D} {xs : List (Key × V)} {kvs : List (Key × D)} : Dp K F v d → KD K F xs kvs → KD K F ((k, v) :: xs) ((k, d) :: kvs)
theorem KD.mono {K : PySem.W.Frag} {F F' : Hp} (s : Same F F') : ∀ {xs : List (Key × V)} {kvs : List (Key × D)}, KD K F xs kvs → KD K F' xs kvs
  | _, _, .nil => .nil
  | _, _, .cons h hs => .cons (dp_mono s h) (KD.mono s hs)
/-- the entries of a dict whose keys are tuples -/
inductive KDN (K : PySem.W.Frag) (F : Hp) : List NE → List (NK × D) → Prop
  | nil : KDN K F [] []
  | cons {k : NK} {b : Addr} {c : D} {v : V} {d : D} {xs : List NE} {kvs : List (NK × D)} : nkOf c = some k → k.depth ≤ 8 → Dp K F (.ref b) c → Dp K F v d → KDN K F xs kvs → KDN K F ((k, b, v) :: xs) ((k, d) :: kvs)
theorem KDN.mono {K : PySem.W.Frag} {F F' : Hp} (s : Same F F') : ∀ {xs : List NE} {kvs : List (NK × D)}, KDN K F xs kvs → KDN K F' xs kvs
  | _, _, .nil => .nil
  | _, _, .cons e z g h hs => .cons e z (dp_mono s g) (dp_mono s h) (KDN.mono s hs)
mutual
inductive Rp (K : PySem.W.Frag) (F A : Hp) : V → O → List Addr → Prop
  | dat {v : V} {d : D} : Dp K F v d → Rp K F A v (.dat d) []
  | lst {p : Addr} {vs : List V} {os : List O} {ps : List Addr} : A p = some (.lst vs) → RpAll K F A vs os ps → Rp K F A (.ref p) (.lst os) (p :: ps)
  | tup {p : Addr} {vs : List V} {os : List O} {ps : List Addr} : A p = some (.tup vs) → RpAll K F A vs os ps → Rp K F A (.ref p) (.tup os) (p :: ps)
  | dic {p : Addr} {xs : List (Key × V)} {kvs : List (Key × D)} : A p = some (.dK xs) → KD K F xs kvs → Rp K F A (.ref p) (.dic kvs) [p]
  | lck {p : Addr} {o : Obj} {xs : List (Key × V)} {kvs : List (Key × D)} : F p = some (.frz o (.dK xs)) → KD K F xs kvs → Rp K F A (.ref p) (.lck kvs) []
  | dtt {p : Addr} {w : PySem.World} {xs : List NE} {kvs : List (NK × D)} : A p = some (DN w p xs) → KDN K F xs kvs → Rp K F A (.ref p) (.dtt w kvs) [p]
  | lkn {p : Addr} {w : PySem.World} {o : Obj} {xs : List NE} {kvs : List (NK × D)} : F p = some (.frz o (DN w p xs)) → KDN K F xs kvs → Rp K F A (.ref p) (.lkn w kvs) []
inductive RpAll (K : PySem.W.Frag) (F A : Hp) : List V → List O → List Addr → Prop
  | nil : RpAll K F A [] [] []
  | cons {v : V} {vs : List V} {o : O} {os : List O} {ps qs : List Addr} : Rp K F A v o ps → RpAll K F A vs os qs → RpAll K F A (v :: vs) (o :: os) (ps ++ qs)
end
section
variable {K : PySem.W.Frag} {F A F' A' : Hp}
mutual
theorem Rp.mono (s : Same F F') : ∀ {v : V} {o : O} {ps : List Addr}, Rp K F A v o ps → (∀ x ∈ ps, ∀ u, A x = some u → A' x = some u) → Rp K F' A' v o ps
  | _, _, _, .dat h, _ => .dat (dp_mono s h)
  | _, _, _, .lst h hs, q => .lst (q _ (by simp) _ h) (RpAll.mono s hs fun x hx => q x (by simp [hx]))
  | _, _, _, .tup h hs, q => .tup (q _ (by simp) _ h) (RpAll.mono s hs fun x hx => q x (by simp [hx]))
  | _, _, _, .dic h hs, q => .dic (q _ (by simp) _ h) (hs.mono s)
  | _, _, _, .lck h hs, q => .lck (s _ _ h) (hs.mono s)
  | _, _, _, .dtt h hs, q => .dtt (q _ (by simp) _ h) (hs.mono s)
  | _, _, _, .lkn h hs, q => .lkn (s _ _ h) (hs.mono s)
theorem RpAll.mono (s : Same F F') : ∀ {v : List V} {o : List O} {ps : List Addr}, RpAll K F A v o ps → (∀ x ∈ ps, ∀ u, A x = some u → A' x = some u) → RpAll K F' A' v o ps
  | _, _, _, .nil, _ => .nil
  | _, _, _, .cons h hs, q => .cons (Rp.mono s h fun x hx => q x (by simp [hx])) (RpAll.mono s hs fun x hx => q x (by simp [hx]))
end
mutual
theorem Rp.in : ∀ {v : V} {o : O} {ps : List Addr}, Rp K F A v o ps → ∀ x ∈ ps, ∃ u, A x = some u
  | _, _, _, .dat h, _, hx => by cases hx
  | _, _, _, .lst h hs, x, hx => by
    rcases List.mem_cons.mp hx with rfl | hx
    · exact ⟨_, h⟩
    · exact RpAll.in hs x hx
  | _, _, _, .tup h hs, x, hx => by
    rcases List.mem_cons.mp hx with rfl | hx
    · exact ⟨_, h⟩
    · exact RpAll.in hs x hx
  | _, _, _, .dic h hs, x, hx => by
    cases List.mem_singleton.mp hx
    exact ⟨_, h⟩
  | _, _, _, .lck h hs, x, hx => by cases hx
  | _, _, _, .dtt h hs, x, hx => by
    cases List.mem_singleton.mp hx
    exact ⟨_, h⟩
  | _, _, _, .lkn h hs, x, hx => by cases hx
theorem RpAll.in : ∀ {v : List V} {o : List O} {ps : List Addr}, RpAll K F A v o ps → ∀ x ∈ ps, ∃ u, A x = some u
  | _, _, _, .nil, _, hx => by cases hx
  | _, _, _, .cons h hs, x, hx => by
    rcases List.mem_append.mp hx with hx | hx
    · exact Rp.in h x hx
    · exact RpAll.in hs x hx
end
/-- A's things at ps are laid to F -/
def frz (F A : Hp) (ps : List Addr) : Hp := fun x => if x ∈ ps then A x else F x
def less (A : Hp) (ps : List Addr) : Hp := fun x => if x ∈ ps then none else A x
theorem frz_in {ps : List Addr} {x : Addr} (h : x ∈ ps) : frz F A ps x = A x := by unfold frz; rw [if_pos h]
theorem frz_out {ps : List Addr} {x : Addr} (h : x ∉ ps) : frz F A ps x = F x := by unfold frz; rw [if_neg h]
theorem less_in {ps : List Addr} {x : Addr} (h : x ∈ ps) : less A ps x = none := by unfold less; rw [if_pos h]
theorem less_out {ps : List Addr} {x : Addr} (h : x ∉ ps) : less A ps x = A x := by unfold less; rw [if_neg h]
theorem frz_nil : frz F A [] = F := by funext x; exact frz_out (by simp)
theorem less_nil : less A [] = A := by funext x; exact less_out (by simp)

def InA (A : Hp) (ps : List Addr) : Prop := ∀ x ∈ ps, ∃ u, A x = some u
theorem same_frz {ps : List Addr} {H : Hp} (w : Wd F A H) (hp : InA A ps) : Same F (frz F A ps) := fun x o e => by
  by_cases h : x ∈ ps
  · obtain ⟨u, q⟩ := hp x h
    have := w.d x u q; rw [this] at e; cases e
  · rw [frz_out h]; exact e
theorem wd_frz {ps : List Addr} {H : Hp} (w : Wd F A H) (hp : InA A ps) : Wd (frz F A ps) (less A ps) H := ⟨fun x o e => by
    by_cases h : x ∈ ps
    · rw [frz_in h] at e; exact w.a _ _ e
    · rw [frz_out h] at e; exact w.f _ _ e, fun x o e => by
    by_cases h : x ∈ ps
    · rw [less_in h] at e; cases e
    · rw [less_out h] at e; exact w.a _ _ e, fun x o e => by
    by_cases h : x ∈ ps
    · rw [less_in h] at e; cases e
    · rw [less_out h] at e; rw [frz_out h]; exact w.d _ _ e⟩
mutual
theorem Rp.frz {qs : List Addr} (s : Same F F') (hq : ∀ x ∈ qs, ∀ u, A x = some u → F' x = some u) : ∀ {v : V} {o : O} {ps : List Addr}, Rp K F A v o ps → o.pl = true → (∀ x ∈ ps, x ∈ qs) → Dp K F' v o.er
  | _, _, _, .dat h, _, _ => dp_mono s h
  | _, _, _, .lst h hs, p, q => .lst (.inl (.inl (hq _ (q _ (by simp)) _ h))) (RpAll.frz s hq hs p fun x hx => q x (by simp [hx]))
  | _, _, _, .tup h hs, p, q => .tup (.inl (.inl (hq _ (q _ (by simp)) _ h))) (RpAll.frz s hq hs p fun x hx => q x (by simp [hx]))
  | _, _, _, .dic h hs, p, q => by cases p
  | _, _, _, .lck h hs, p, q => by cases p
  | _, _, _, .dtt h hs, p, q => by cases p
  | _, _, _, .lkn h hs, p, q => by cases p
theorem RpAll.frz {qs : List Addr} (s : Same F F') (hq : ∀ x ∈ qs, ∀ u, A x = some u → F' x = some u) : ∀ {v : List V} {o : List O} {ps : List Addr}, RpAll K F A v o ps → plL o = true → (∀ x ∈ ps, x ∈ qs) → DpAll K F' v (erL o)
  | _, _, _, .nil, _, _ => .nil
  | _, _, _, .cons h hs, p, q => .cons (Rp.frz s hq h (Bool.and_eq_true_iff.mp p).1 fun x hx => q x (by simp [hx])) (RpAll.frz s hq hs (Bool.and_eq_true_iff.mp p).2 fun x hx => q x (by simp [hx]))
end
/-- what is owned, read where it stands -/
theorem Rp.dp {H : Hp} {v : V} {o : O} {ps : List Addr} (w : Wd F A H) (h : Rp K F A v o ps) (p : o.pl = true) : Dp K (jn F A) v o.er :=
  Rp.frz (qs := ps) jn_f (fun x hx u e => jn_a (w.d x u e) e) h p fun x hx => hx
theorem RpAll.len : ∀ {vs : List V} {os : List O} {ps : List Addr}, RpAll K F A vs os ps → vs.length = os.length
  | _, _, _, .nil => rfl
  | _, _, _, .cons _ hs => by simp [hs.len]
theorem erL_map : ∀ (os : List O), erL os = os.map O.er
  | [] => rfl
  | x :: xs => by rw [erL, erL_map xs]; rfl
theorem erL_dat : ∀ (ds : List D), erL (ds.map O.dat) = ds
  | [] => rfl
  | x :: xs => by rw [List.map_cons, erL, erL_dat xs]; rfl
theorem plL_dat : ∀ (ds : List D), plL (ds.map O.dat) = true
  | [] => rfl
  | x :: xs => by rw [List.map_cons, plL, plL_dat xs]; rfl
theorem rpAll_dat : ∀ {vs : List V} {ds : List D}, DpAll K F vs ds → RpAll K F A vs (ds.map O.dat) []
  | _, _, .nil => .nil
  | _, _, .cons h hs => by
    have := RpAll.cons (A := A) (Rp.dat h) (rpAll_dat hs)
    simpa using this
theorem dpAll_of : ∀ {vs : List V} {ds : List D} {ps : List Addr}, RpAll K F A vs (ds.map O.dat) ps → DpAll K F vs ds ∧ ps = []
  | _, [], _, h => by cases h; exact ⟨.nil, rfl⟩
  | _, d :: ds, _, h => by
    cases h with
    | cons h hs =>
      cases h with
      | dat h =>
        obtain ⟨h1, h2⟩ := dpAll_of hs
        exact ⟨.cons h h1, by rw [h2]; rfl⟩

/-! ### the slots -/
inductive Rel (K : PySem.W.Frag) (F A : Hp) : Env → St → List Addr → Prop
  | nil : Rel K F A [] [] []
  | un {s : Option V} {ε : Env} {σ : St} {fp : List Addr} : Rel K F A ε σ fp → Rel K F A (none :: ε) (s :: σ) fp
  | va {v : V} {o : O} {ps : List Addr} {ε : Env} {σ : St} {fp : List Addr} : Rp K F A v o ps → Rel K F A ε σ fp → Rel K F A (some o :: ε) (some v :: σ) (ps ++ fp)
theorem Rel.mono (s : Same F F') : ∀ {ε : Env} {σ : St} {fp : List Addr}, Rel K F A ε σ fp → (∀ x ∈ fp, ∀ u, A x = some u → A' x = some u) → Rel K F' A' ε σ fp
  | _, _, _, .nil, _ => .nil
  | _, _, _, .un h, q => .un (h.mono s q)
  | _, _, _, .va h hs, q => .va (h.mono s fun x hx => q x (by simp [hx])) (hs.mono s fun x hx => q x (by simp [hx]))
theorem Rel.in : ∀ {ε : Env} {σ : St} {fp : List Addr}, Rel K F A ε σ fp → InA A fp
  | _, _, _, .nil, _, hx => by cases hx
  | _, _, _, .un h, x, hx => h.in x hx
  | _, _, _, .va h hs, x, hx => by
    rcases List.mem_append.mp hx with hx | hx
    · exact h.in x hx
    · exact hs.in x hx
theorem Rel.len : ∀ {ε : Env} {σ : St} {fp : List Addr}, Rel K F A ε σ fp → ε.length = σ.length
  | _, _, _, .nil => rfl
  | _, _, _, .un h => by simp [h.len]
  | _, _, _, .va h hs => by simp [hs.len]
/-- take the i-th out -/
theorem Rel.get : ∀ {ε : Env} {σ : St} {fp : List Addr} {i : Nat} {o : O}, Rel K F A ε σ fp → ε[i]? = some (some o) →
    ∃ v ps fp1, σ[i]? = some (some v) ∧ Rp K F A v o ps ∧ Rel K F A (ε.set i none) σ fp1 ∧ fp.Perm (ps ++ fp1)
  | _, _, _, _, _, .nil, e => by simp at e
  | _, _, _, 0, _, .un h, e => by simp at e
  | _, _, _, i + 1, _, .un h, e => by
    obtain ⟨v, ps, fp1, h1, h2, h3, h4⟩ := h.get (i := i) (by simpa using e)
    exact ⟨v, ps, fp1, by simpa using h1, h2, by simpa using h3.un, h4⟩
  | _, _, _, 0, _, .va h hs, e => by
    simp at e; subst e
    exact ⟨_, _, _, rfl, h, by simpa using hs.un, .refl _⟩
  | _, _, _, i + 1, _, .va (ps := qs) h hs, e => by
    obtain ⟨v, ps, fp1, h1, h2, h3, h4⟩ := hs.get (i := i) (by simpa using e)
    refine ⟨v, ps, qs ++ fp1, by simpa using h1, h2, by simpa using Rel.va h h3, ?_⟩
    refine (List.Perm.append_left qs h4).trans ?_
    rw [← List.append_assoc, ← List.append_assoc]
    exact List.Perm.append_right fp1 List.perm_append_comm
/-- forget the i-th -/
theorem Rel.clear {i : Nat} : ∀ {ε : Env} {σ : St} {fp : List Addr}, Rel K F A ε σ fp → ∃ fp1, Rel K F A (ε.set i none) σ fp1 ∧ fp1.Sublist fp := by
  induction i with
  | zero =>
    intro ε σ fp h
    cases h with
    | nil => exact ⟨[], .nil, .refl _⟩
    | un h => exact ⟨_, .un h, .refl _⟩
    | va h hs => exact ⟨_, .un hs, List.sublist_append_right _ _⟩
  | succ i ih =>
    intro ε σ fp h
    cases h with
    | nil => exact ⟨[], .nil, .refl _⟩
    | un h =>
      obtain ⟨fp1, h1, h2⟩ := ih h
      exact ⟨fp1, by simpa using h1.un, h2⟩
    | va h hs =>
      obtain ⟨fp1, h1, h2⟩ := ih hs
      exact ⟨_, by simpa using Rel.va h h1, List.Sublist.append (.refl _) h2⟩
/-- fill the i-th -/
theorem Rel.fill {i : Nat} {v : V} {o : O} {ps : List Addr} (hv : Rp K F A v o ps) : ∀ {ε : Env} {σ : St} {fp : List Addr}, Rel K F A ε σ fp → ε[i]? = some none → ∃ fp1, Rel K F A (ε.set i (some o)) (σ.set i (some v)) fp1 ∧ fp1.Perm (ps ++ fp) := by
  induction i with
  | zero =>
    intro ε σ fp h e
    cases h with
    | nil => simp at e
    | un h => exact ⟨_, .va hv h, .refl _⟩
    | va h hs => simp at e
  | succ i ih =>
    intro ε σ fp h e
    cases h with
    | nil => simp at e
    | un h =>
      obtain ⟨fp1, h1, h2⟩ := ih h (by simpa using e)
      exact ⟨fp1, by simpa using h1.un, h2⟩
    | va h hs =>
      rename_i qs _ _ fp0
      obtain ⟨fp1, h1, h2⟩ := ih hs (by simpa using e)
      refine ⟨_, by simpa using Rel.va h h1, ?_⟩
      refine (List.Perm.append_left qs h2).trans ?_
      rw [← List.append_assoc, ← List.append_assoc]
      exact List.Perm.append_right fp0 List.perm_append_comm
theorem set_self {σ : St} {i : Nat} {v : Option V} (h : σ[i]? = some v) : σ.set i v = σ := by
  apply List.ext_getElem?
  intro j
  by_cases hj : i = j
  · subst hj
    rw [h]
    have hl : i < σ.length := by
      rcases Nat.lt_or_ge i σ.length with q | q
      · exact q
      · rw [List.getElem?_eq_none q] at h; cases h
    simp [hl]
  · rw [List.getElem?_set_ne hj]
/-- put back what was taken out -/
theorem Rel.back {i : Nat} {v : V} {o : O} {ps : List Addr} {ε : Env} {σ : St} {fp : List Addr} (h : Rel K F A ε σ fp) (e : ε[i]? = some none) (hs : σ[i]? = some (some v)) (hv : Rp K F A v o ps) : ∃ fp1, Rel K F A (ε.set i (some o)) σ fp1 ∧ fp1.Perm (ps ++ fp) := by
  obtain ⟨fp1, h1, h2⟩ := h.fill hv e
  rw [set_self hs] at h1
  exact ⟨fp1, h1, h2⟩
/-- a slot that is told nothing of may hold anything -/
theorem Rel.free {i : Nat} {x : Option V} : ∀ {ε : Env} {σ : St} {fp : List Addr}, Rel K F A ε σ fp → ε[i]? = some none → Rel K F A ε (σ.set i x) fp := by
  induction i with
  | zero =>
    intro ε σ fp h e
    cases h with
    | nil => simp at e
    | un h => exact .un h
    | va h hs => simp at e
  | succ i ih =>
    intro ε σ fp h e
    cases h with
    | nil => simp at e
    | un h => exact (ih h (by simpa using e)).un
    | va h hs => exact Rel.va h (ih hs (by simpa using e))

/-! ### from one state to a later one -/
structure Step (fp fp' : List Addr) (F A F' A' : Hp) : Prop where
  s : Same F F'
  o : ∀ x u, x ∉ fp → A x = some u → A' x = some u
  f : ∀ x ∈ fp', x ∈ fp ∨ A x = none
theorem Step.refl {fp : List Addr} : Step fp fp F A F A := ⟨Same.refl _, fun _ _ _ h => h, fun _ h => .inl h⟩
theorem Step.trans {fp fp1 fp2 : List Addr} {F1 A1 F2 A2 : Hp} (a : Step fp fp1 F A F1 A1) (b : Step fp1 fp2 F1 A1 F2 A2) : Step fp fp2 F A F2 A2 := ⟨a.s.trans b.s, fun x u hx e => b.o x u (fun h => by
    rcases a.f x h with h | h
    · exact hx h
    · rw [e] at h; cases h) (a.o x u hx e), fun x h => by
    rcases b.f x h with h | h
    · exact a.f x h
    · by_cases hx : x ∈ fp
      · exact .inl hx
      · refine .inr ?_
        cases q : A x with
        | none => rfl
        | some u => rw [a.o x u hx q] at h; cases h⟩
theorem Step.sub {fp fp1 fp2 : List Addr} (a : Step fp fp1 F A F' A') (h : ∀ x ∈ fp2, x ∈ fp1) : Step fp fp2 F A F' A' := ⟨a.s, a.o, fun x hx => a.f x (h x hx)⟩
theorem Step.wide {fp fp0 fp1 : List Addr} (a : Step fp fp1 F A F' A') (h : ∀ x ∈ fp, x ∈ fp0) : Step fp0 fp1 F A F' A' := ⟨a.s, fun x u hx => a.o x u fun z => hx (h x z), fun x hx => (a.f x hx).elim (fun z => .inl (h x z)) .inr⟩
/-- a step that has nothing to do with qs leaves qs -/
theorem Step.apart {fp fp1 qs : List Addr} (a : Step fp fp1 F A F' A') (hq : InA A qs) (hn : (fp ++ qs).Nodup) (h1 : fp1.Nodup) : Step (fp ++ qs) (fp1 ++ qs) F A F' A' ∧ (fp1 ++ qs).Nodup := by
  have hd := List.nodup_append.mp hn
  refine ⟨⟨a.s, fun x u hx => a.o x u fun z => hx (by simp [z]), fun x hx => ?_⟩, ?_⟩
  · rcases List.mem_append.mp hx with hx | hx
    · rcases a.f x hx with h | h
      · exact .inl (by simp [h])
      · exact .inr h
    · exact .inl (by simp [hx])
  · refine List.nodup_append.mpr ⟨h1, hd.2.1, fun x hx y hy e => ?_⟩
    subst e
    obtain ⟨u, q⟩ := hq x hy
    rcases a.f x hx with h | h
    · exact hd.2.2 x h x hy rfl
    · rw [q] at h; cases h
theorem Step.keep {fp fp1 qs : List Addr} (a : Step fp fp1 F A F' A') (hn : (fp ++ qs).Nodup) : ∀ x ∈ qs, ∀ u, A x = some u → A' x = some u := fun x hx u e =>
  a.o x u (fun z => (List.nodup_append.mp hn).2.2 x z x hx rfl) e
theorem step_frz {ps fp : List Addr} {H : Hp} (w : Wd F A H) (hp : InA A ps) : Step (ps ++ fp) fp F A (frz F A ps) (less A ps) := ⟨same_frz w hp, fun x u hx e => by
  rw [less_out (fun z => hx (by simp [z]))]; exact e, fun x hx => .inl (by simp [hx])⟩
end
end M
namespace M
open PySem PySem.Spec L2 Z

/-! ### what an expression is worth: a thing, or what stands in a slot -/
inductive Rs where
  | val (o : O)
  | slot (i : Nat)
def slotAt (ε : Env) (i : Nat) : Option O := match ε[i]? with
  | some (some o) => some o
  | _ => none
theorem slotAt_eq {ε : Env} {i : Nat} {o : O} (h : slotAt ε i = some o) : ε[i]? = some (some o) := by
  unfold slotAt at h
  split at h
  · rename_i e; rw [e]; cases h; rfl
  · cases h
def Rs.get (ε : Env) : Rs → Option O
  | .val o => some o
  | .slot i => slotAt ε i
abbrev mB := Env → Option (Rs × Env)
def Res (K : PySem.W.Frag) (F A : Hp) (σ : St) (v : V) : Rs → List Addr → Prop
  | .val o, np => Rp K F A v o np
  | .slot i, np => np = [] ∧ σ[i]? = some (some v)
section
variable {K : PySem.W.Frag} {F A F' A' H : Hp} {ε ε' : Env} {σ : St} {fp fp' np : List Addr} {v : V} {r : Rs} {o : O}
theorem Res.in (h : Res K F A σ v r np) : InA A np := by
  cases r with
  | val o => exact Rp.in h
  | slot i => rw [h.1]; intro x hx; cases hx
theorem Res.step (h : Res K F A σ v r np) (s : Step fp fp' F A F' A') (hn : (fp ++ np).Nodup) : Res K F' A' σ v r np := by
  cases r with
  | val o => exact Rp.mono s.s h (s.keep hn)
  | slot i => exact h
theorem Res.rp (h : Res K F A σ v r np) (q : Rel K F A ε σ fp) (e : r.get ε = some o) : ∃ ps, Rp K F A v o ps := by
  cases r with
  | val o' => cases e; exact ⟨np, h⟩
  | slot i =>
    obtain ⟨v', ps, fp1, h1, h2, -, -⟩ := q.get (slotAt_eq e)
    rw [h.2] at h1
    cases h1
    exact ⟨ps, h2⟩
theorem Step.grow (s : Step [] np F A F' A') (hq : InA A fp) (h1 : fp.Nodup) (h2 : np.Nodup) : Step fp (fp ++ np) F A F' A' ∧ (fp ++ np).Nodup := by
  refine ⟨⟨s.s, fun x u _ => s.o x u (by simp), fun x hx => ?_⟩, List.nodup_append.mpr ⟨h1, h2, fun x hx y hy e => ?_⟩⟩
  · rcases List.mem_append.mp hx with hx | hx
    · exact .inl hx
    · exact .inr ((s.f x hx).elim (fun z => by cases z) id)
  · subst e
    obtain ⟨u, q⟩ := hq x hx
    rcases s.f x hy with z | z
    · cases z
    · rw [q] at z; cases z
theorem Rel.grow (h : Rel K F A ε σ fp) (s : Step [] np F A F' A') : Rel K F' A' ε σ fp := h.mono s.s fun x _ u e => s.o x u (by simp) e

/-- laid down for good -/
def frzR : Rs → Env → Option (D × Env)
  | .val o, ε => if o.pl = true then some (o.er, ε) else none
  | .slot i, ε => match slotAt ε i with
    | some o => if o.pl = true then some (o.er, ε.set i (some (.dat o.er))) else none
    | none => none
theorem frz_res {d : D} (w : Wd F A H) (hr : Rel K F A ε σ fp) (hn : (fp ++ np).Nodup) (h : Res K F A σ v r np) (e : frzR r ε = some (d, ε')) :
    ∃ F' A' fp', Wd F' A' H ∧ Step (fp ++ np) fp' F A F' A' ∧ fp'.Nodup ∧ Rel K F' A' ε' σ fp' ∧ Dp K F' v d := by
  have hd := List.nodup_append.mp hn
  cases r with
  | val o =>
    dsimp only [frzR] at e
    split at e
    · cases e
      rename_i hp
      have ha : InA A np := Rp.in h
      refine ⟨frz F A np, less A np, fp, wd_frz w ha, ?_, hd.1, hr.mono (same_frz w ha) fun x hx u e => ?_, Rp.frz (same_frz w ha) (fun x hx u e => by rw [frz_in hx]; exact e) h hp fun x hx => hx⟩
      · exact (step_frz w ha).wide fun x hx => by simp at hx ⊢; exact hx.symm
      · rw [less_out fun z => hd.2.2 x hx x z rfl]; exact e
    · cases e
  | slot i =>
    dsimp only [frzR] at e
    cases q : slotAt ε i with
    | none => rw [q] at e; cases e
    | some o =>
      rw [q] at e
      dsimp only at e
      split at e
      · cases e
        rename_i hp
        obtain ⟨v', ps, fp1, h1, h2, h3, h4⟩ := hr.get (slotAt_eq q)
        rw [h.2] at h1
        cases h1
        have ha : InA A ps := Rp.in h2
        have h5 : (ps ++ fp1).Nodup := h4.nodup_iff.mp hd.1
        have h6 := List.nodup_append.mp h5
        have hl : i < ε.length := by
          rcases Nat.lt_or_ge i ε.length with z | z
          · exact z
          · have := slotAt_eq q
            rw [List.getElem?_eq_none z] at this; cases this
        have h7 : Rel K (frz F A ps) (less A ps) (ε.set i none) σ fp1 := h3.mono (same_frz w ha) fun x hx u e => by
          rw [less_out fun z => h6.2.2 x z x hx rfl]; exact e
        have h8 : Dp K (frz F A ps) v o.er := Rp.frz (same_frz w ha) (fun x hx u e => by rw [frz_in hx]; exact e) h2 hp fun x hx => hx
        obtain ⟨fp2, h9, h10⟩ := h7.back (by simp [hl]) h.2 (Rp.dat h8)
        rw [List.set_set] at h9
        refine ⟨frz F A ps, less A ps, fp2, wd_frz w ha, ?_, ?_, h9, h8⟩
        · refine ((step_frz (fp := fp1) w ha).wide fun x hx => ?_).sub fun x hx => by simpa using h10.mem_iff.mp hx
          rw [h.1, List.append_nil]
          exact h4.mem_iff.mpr hx
        · exact h10.nodup_iff.mpr h6.2.1
      · cases e
theorem rel_set {i : Nat} (h : Rel K F A ε σ fp) (hv : Rp K F A v o np) (hn : (fp ++ np).Nodup) : ∃ fp', Rel K F A (ε.set i (some o)) (σ.set i (some v)) fp' ∧ fp'.Nodup ∧ ∀ x ∈ fp', x ∈ fp ++ np := by
  have hd := List.nodup_append.mp hn
  rcases Nat.lt_or_ge i ε.length with hl | hl
  · obtain ⟨fp1, h1, h2⟩ := h.clear (i := i)
    obtain ⟨fp2, h3, h4⟩ := h1.fill (i := i) hv (by simp [hl])
    rw [List.set_set] at h3
    refine ⟨fp2, h3, h4.nodup_iff.mpr (List.nodup_append.mpr ⟨hd.2.1, h2.nodup hd.1, fun x hx y hy e => ?_⟩), fun x hx => ?_⟩
    · subst e; exact hd.2.2 x (h2.subset hy) x hx rfl
    · rcases List.mem_append.mp (h4.mem_iff.mp hx) with z | z
      · exact List.mem_append.mpr (.inr z)
      · exact List.mem_append.mpr (.inl (h2.subset z))
  · rw [List.set_eq_of_length_le hl, List.set_eq_of_length_le (by rw [← h.len]; exact hl)]
    exact ⟨fp, h, hd.1, fun x hx => by simp [hx]⟩
end

/-! ### the judgements -/
section
variable (K : PySem.W.Frag)
def KB (fp : List Addr) (F A : Hp) (σ : St) (ε' : Env) (r : Rs) (P : PV) : Prop :=
  ∀ v F' A' fp' np, Step fp (fp' ++ np) F A F' A' → (fp' ++ np).Nodup → Rel K F' A' ε' σ fp' → Res K F' A' σ v r np → P v F' A'
def Sn (te : TE) (m : mB) : Prop := ∀ ε r ε' σ F A fp P, m ε = some (r, ε') → Rel K F A ε σ fp → fp.Nodup → KB K fp F A σ ε' r P → Wp (te σ) F A P
abbrev mT := Env → Option (Bool × Env)
def KTT (fp : List Addr) (F A : Hp) (σ : St) (ε' : Env) (b : Bool) (P : Bool → Hp → Hp → Prop) : Prop :=
  ∀ F' A' fp', Step fp fp' F A F' A' → fp'.Nodup → Rel K F' A' ε' σ fp' → P b F' A'
def SnT (t : TT) (m : mT) : Prop := ∀ ε b ε' σ F A fp P, m ε = some (b, ε') → Rel K F A ε σ fp → fp.Nodup → KTT K fp F A σ ε' b P → WpT (t σ) F A P
inductive ResAll (F A : Hp) (σ : St) : List V → List Rs → List Addr → Prop
  | nil : ResAll F A σ [] [] []
  | cons {v : V} {vs : List V} {r : Rs} {rs : List Rs} {np nq : List Addr} : Res K F A σ v r np → ResAll F A σ vs rs nq → ResAll F A σ (v :: vs) (r :: rs) (np ++ nq)
abbrev mA := Env → Option (List Rs × Env)
def KA (fp : List Addr) (F A : Hp) (σ : St) (ε' : Env) (rs : List Rs) (P : List V → Hp → Hp → Prop) : Prop :=
  ∀ vs F' A' fp' np, Step fp (fp' ++ np) F A F' A' → (fp' ++ np).Nodup → Rel K F' A' ε' σ fp' → ResAll K F' A' σ vs rs np → P vs F' A'
def SnA (t : TA) (m : mA) : Prop := ∀ ε rs ε' σ F A fp P, m ε = some (rs, ε') → Rel K F A ε σ fp → fp.Nodup → KA K fp F A σ ε' rs P → WpA (t σ) F A P
inductive Fl where
  | nx | bk | ct
  | ret (o : O)
abbrev mS := Env → Option (Fl × Env)
def FlOk (D : Ed) (f : Fl) (σ : St) (F A : Hp) (np : List Addr) : Prop := match f with
  | .nx => D.nx σ F A
  | .bk => D.bk σ F A
  | .ct => D.ct σ F A
  | .ret o => ∀ v, Rp K F A v o np → D.rt v F A
def Agr (W : List Nat) (σ σ' : St) : Prop := σ'.length = σ.length ∧ ∀ i, i ∉ W → σ'[i]? = σ[i]?
def KS (W : List Nat) (fp : List Addr) (F A : Hp) (σ : St) (ε' : Env) (f : Fl) (D : Ed) : Prop :=
  ∀ σ' F' A' fp' np, Step fp (fp' ++ np) F A F' A' → (fp' ++ np).Nodup → Rel K F' A' ε' σ' fp' → Agr W σ σ' → FlOk K D f σ' F' A' np
def SnS (W : List Nat) (ts : TS) (m : mS) : Prop := ∀ ε f ε' σ F A fp D, m ε = some (f, ε') → Rel K F A ε σ fp → fp.Nodup → KS K W fp F A σ ε' f D → S ts D σ F A
abbrev mG := O → Env → Option Env
def SnG (W : List Nat) (g : TG) (m : mG) : Prop := ∀ o ε ε' v σ F A fp np PG, m o ε = some ε' → Rel K F A ε σ fp → Rp K F A v o np → (fp ++ np).Nodup →
  (∀ σ' F' A' fp', Step (fp ++ np) fp' F A F' A' → fp'.Nodup → Rel K F' A' ε' σ' fp' → Agr W σ σ' → PG σ' F' A') → WpG (g v σ) F A PG
end
theorem Agr.refl {W : List Nat} {σ : St} : Agr W σ σ := ⟨rfl, fun _ _ => rfl⟩
theorem Agr.trans {W : List Nat} {σ σ1 σ2 : St} (a : Agr W σ σ1) (b : Agr W σ1 σ2) : Agr W σ σ2 := ⟨b.1.trans a.1, fun i h => (b.2 i h).trans (a.2 i h)⟩
theorem Agr.set {W : List Nat} {σ : St} {i : Nat} {x : Option V} (h : i ∈ W) : Agr W σ (σ.set i x) := ⟨List.length_set, fun j hj => List.getElem?_set_ne (fun e => hj (by rw [← e]; exact h))⟩

section
variable {K : PySem.W.Frag}
section
variable {F A F' A' H : Hp} {ε ε' : Env} {σ : St} {fp fp' np : List Addr}
theorem ResAll.in : ∀ {vs : List V} {rs : List Rs} {np : List Addr}, ResAll K F A σ vs rs np → InA A np
  | _, _, _, .nil, _, hx => by cases hx
  | _, _, _, .cons h hs, x, hx => by
    rcases List.mem_append.mp hx with hx | hx
    · exact Res.in h x hx
    · exact ResAll.in hs x hx
theorem ResAll.step (s : Step fp fp' F A F' A') : ∀ {vs : List V} {rs : List Rs} {np : List Addr}, ResAll K F A σ vs rs np → (fp ++ np).Nodup → ResAll K F' A' σ vs rs np
  | _, _, _, .nil, _ => .nil
  | _, _, _, .cons (np := np) (nq := nq) h hs, hn => by
    have h1 : (fp ++ np).Nodup := by
      rw [← List.append_assoc] at hn; exact (List.nodup_append.mp hn).1
    have h2 : (fp ++ nq).Nodup := by
      refine (List.Sublist.nodup ?_ hn)
      exact List.Sublist.append (.refl _) (List.sublist_append_right _ _)
    exact .cons (h.step s h1) (ResAll.step s hs h2)
end
end
end M
namespace M
open PySem PySem.Spec L2 Z
section
variable {K : PySem.W.Frag} {ta tb tc te : TE} {ma mb mc me : mB}

/-! ### names, constants -/
def mVar (i : Nat) : mB := fun ε => match slotAt ε i with
  | some (.dat d) => some (.val (.dat d), ε)
  | some _ => some (.slot i, ε)
  | none => none
theorem sn_var (i : Nat) : Sn K (tVar i) (mVar i) := fun ε r ε' σ F A fp P e q n k => by
  cases h : slotAt ε i with
  | none => simp only [mVar, h] at e; cases e
  | some o =>
    obtain ⟨v, ps, fp1, h1, h2, h3, h4⟩ := q.get (slotAt_eq h)
    cases o with
    | dat d =>
      simp only [mVar, h] at e
      cases e
      cases h2 with
      | dat h2 => exact e_var h1 (k v F A fp [] (by rw [List.append_nil]; exact .refl) (by rw [List.append_nil]; exact n) q (.dat h2))
    | lst xs =>
      simp only [mVar, h] at e
      cases e
      exact e_var h1 (k v F A fp [] (by rw [List.append_nil]; exact .refl) (by rw [List.append_nil]; exact n) q ⟨rfl, h1⟩)
    | tup xs =>
      simp only [mVar, h] at e
      cases e
      exact e_var h1 (k v F A fp [] (by rw [List.append_nil]; exact .refl) (by rw [List.append_nil]; exact n) q ⟨rfl, h1⟩)
    | dic kvs =>
      simp only [mVar, h] at e
      cases e
      exact e_var h1 (k v F A fp [] (by rw [List.append_nil]; exact .refl) (by rw [List.append_nil]; exact n) q ⟨rfl, h1⟩)
    | dtt w kvs =>
      simp only [mVar, h] at e
      cases e
      exact e_var h1 (k v F A fp [] (by rw [List.append_nil]; exact .refl) (by rw [List.append_nil]; exact n) q ⟨rfl, h1⟩)
    | lkn w kvs =>
      simp only [mVar, h] at e
      cases e
      exact e_var h1 (k v F A fp [] (by rw [List.append_nil]; exact .refl) (by rw [List.append_nil]; exact n) q ⟨rfl, h1⟩)
    | lck kvs =>
      simp only [mVar, h] at e
      cases e
      exact e_var h1 (k v F A fp [] (by rw [List.append_nil]; exact .refl) (by rw [List.append_nil]; exact n) q ⟨rfl, h1⟩)
def mC (d : D) : mB := fun ε => some (.val (.dat d), ε)
theorem sn_cst {v : V} {d : D} (h : ∀ F, Dp K F v d) : Sn K (tC v) (mC d) := fun ε r ε' σ F A fp P e q n k => by
  cases e
  exact e_c (k v F A fp [] (by rw [List.append_nil]; exact .refl) (by rw [List.append_nil]; exact n) q (.dat (h F)))
theorem sn_int {i : Int} : Sn K (tC (.int i)) (mC (.int i)) := sn_cst fun _ => .int i
theorem sn_bl {b : Bool} : Sn K (tC (.bl b)) (mC (.bool b)) := sn_cst fun _ => .bl b
theorem sn_str {s : Str} : Sn K (tC (.str s)) (mC (.str s)) := sn_cst fun _ => .str s
theorem sn_non : Sn K (tC .non) (mC .none) := sn_cst fun _ => .non

/-! ### two operands -/
def OpM (K : PySem.W.Frag) (r : R2) (f : O → O → Option O) : Prop := ∀ oa ob o F A x y ps qs (P : PV), f oa ob = some o → Rp K F A x oa ps → Rp K F A y ob qs →
  (∀ v F' A' np, Step [] np F A F' A' → np.Nodup → Rp K F' A' v o np → P v F' A') → Wp (r x y) F A P
def op2 (f : O → O → Option O) (a b : Rs) (ε : Env) : Option (Rs × Env) := match a.get ε, b.get ε with
  | some oa, some ob => match f oa ob with
    | some o => some (.val o, ε)
    | none => none
  | _, _ => none
theorem op2_eq {f : O → O → Option O} {a b r : Rs} {ε ε' : Env} (h : op2 f a b ε = some (r, ε')) : ∃ oa ob o, a.get ε = some oa ∧ b.get ε = some ob ∧ f oa ob = some o ∧ r = .val o ∧ ε' = ε := by
  unfold op2 at h
  split at h
  · rename_i oa ob e1 e2
    split at h
    · rename_i o e3
      cases h
      exact ⟨oa, ob, o, e1, e2, e3, rfl, rfl⟩
    · cases h
  · cases h
def mOp (f : O → O → Option O) (ma mb : mB) : mB := fun ε => match ma ε with
  | some (a, ε1) => match mb ε1 with
    | some (b, ε2) => op2 f a b ε2
    | none => none
  | none => none
theorem mOp_eq {f : O → O → Option O} {r : Rs} {ε ε' : Env} (h : mOp f ma mb ε = some (r, ε')) : ∃ a ε1 b ε2, ma ε = some (a, ε1) ∧ mb ε1 = some (b, ε2) ∧ op2 f a b ε2 = some (r, ε') := by
  unfold mOp at h
  split at h
  · rename_i a ε1 e1
    split at h
    · rename_i b ε2 e2
      exact ⟨a, ε1, b, ε2, e1, e2, h⟩
    · cases h
  · cases h
/-- the common core: two evaluated operands and a rule for them -/
theorem op2_core {f : O → O → Option O} {r : R2} (ho : OpM K r f) {a b rr : Rs} {ε2 ε' : Env} {σ : St} {F A F1 A1 F2 A2 : Hp} {fp fp1 np1 fp2 np2 : List Addr} {x y : V} {P : PV}
    (s1 : Step fp (fp1 ++ np1) F A F1 A1) (n1 : (fp1 ++ np1).Nodup) (x1 : Res K F1 A1 σ x a np1)
    (s2 : Step fp1 (fp2 ++ np2) F1 A1 F2 A2) (n2 : (fp2 ++ np2).Nodup) (q2 : Rel K F2 A2 ε2 σ fp2) (x2 : Res K F2 A2 σ y b np2) (h : op2 f a b ε2 = some (rr, ε'))
    (k : KB K fp F A σ ε' rr P) : Wp (r x y) F2 A2 P := by
  obtain ⟨oa, ob, o, e1, e2, e3, rfl, rfl⟩ := op2_eq h
  obtain ⟨ps, p1⟩ := (x1.step s2 n1).rp q2 e1
  obtain ⟨qs, p2⟩ := x2.rp q2 e2
  refine ho oa ob o F2 A2 x y ps qs P e3 p1 p2 fun v F' A' np s n p => ?_
  obtain ⟨g1, g2⟩ := s.grow q2.in (List.nodup_append.mp n2).1 n
  exact k v F' A' fp2 np (((s1.sub fun x hx => by simp [hx]).trans (s2.sub fun x hx => by simp [hx])).trans g1) g2 (q2.grow s) p
theorem sn_op {f : O → O → Option O} {r : R2} (ho : OpM K r f) (ha : Sn K ta ma) (hb : Sn K tb mb) : Sn K (tOp r ta tb) (mOp f ma mb) := fun ε rr ε' σ F A fp P e q n k => by
  obtain ⟨a, ε1, b, ε2, e1, e2, e3⟩ := mOp_eq e
  refine e_op (ha ε a ε1 σ F A fp _ e1 q n fun x F1 A1 fp1 np1 s1 n1 q1 x1 => ?_)
  refine hb ε1 b ε2 σ F1 A1 fp1 _ e2 q1 (List.nodup_append.mp n1).1 fun y F2 A2 fp2 np2 s2 n2 q2 x2 => ?_
  exact op2_core ho s1 n1 x1 s2 n2 q2 x2 e3 k
/-! ### one operand -/
def UnM (K : PySem.W.Frag) (r : V → Hp → VK → Prop) (f : O → Option O) : Prop := ∀ oa o F A x ps (P : PV), f oa = some o → Rp K F A x oa ps →
  (∀ v F' A' np, Step [] np F A F' A' → np.Nodup → Rp K F' A' v o np → P v F' A') → Wp (r x) F A P
def mUn (f : O → Option O) (ma : mB) : mB := fun ε => match ma ε with
  | some (a, ε1) => match a.get ε1 with
    | some oa => match f oa with
      | some o => some (.val o, ε1)
      | none => none
    | none => none
  | none => none
theorem mUn_eq {f : O → Option O} {r : Rs} {ε ε' : Env} (h : mUn f ma ε = some (r, ε')) : ∃ a oa o, ma ε = some (a, ε') ∧ a.get ε' = some oa ∧ f oa = some o ∧ r = .val o := by
  unfold mUn at h
  split at h
  · rename_i a ε1 e1
    split at h
    · rename_i oa e2
      split at h
      · rename_i o e3
        cases h
        exact ⟨a, oa, o, e1, e2, e3, rfl⟩
      · cases h
    · cases h
  · cases h
theorem sn_un {f : O → Option O} {r : V → Hp → VK → Prop} (ho : UnM K r f) (ha : Sn K ta ma) : Sn K (tUn r ta) (mUn f ma) := fun ε rr ε' σ F A fp P e q n k => by
  obtain ⟨a, oa, o, e1, e2, e3, rfl⟩ := mUn_eq e
  refine e_un (ha ε a ε' σ F A fp _ e1 q n fun x F1 A1 fp1 np1 s1 n1 q1 x1 => ?_)
  obtain ⟨ps, p1⟩ := x1.rp q1 e2
  refine ho oa o F1 A1 x ps P e3 p1 fun v F' A' np s n' p => ?_
  obtain ⟨g1, g2⟩ := s.grow q1.in (List.nodup_append.mp n1).1 n'
  exact k v F' A' fp1 np ((s1.sub fun x hx => by simp [hx]).trans g1) g2 (q1.grow s) p
/-! ### truth of values that are bools -/
def boolOf : Rs → Option Bool
  | .val (.dat (.bool b)) => some b
  | _ => none
theorem boolOf_eq {F A : Hp} {σ : St} {v : V} {r : Rs} {np : List Addr} {b : Bool} (h : boolOf r = some b) (x : Res K F A σ v r np) : v = .bl b ∧ np = [] ∧ r = .val (.dat (.bool b)) := by
  unfold boolOf at h
  split at h
  · cases h
    cases x with
    | dat x => cases x; exact ⟨rfl, rfl, rfl⟩
  · cases h
def mTest (me : mB) : mT := fun ε => match me ε with
  | some (r, ε1) => match boolOf r with
    | some b => some (b, ε1)
    | none => none
  | none => none
theorem mTest_eq {ε ε' : Env} {b : Bool} (h : mTest me ε = some (b, ε')) : ∃ r, me ε = some (r, ε') ∧ boolOf r = some b := by
  unfold mTest at h
  split at h
  · rename_i r ε1 e1
    split at h
    · rename_i b' e2
      cases h
      exact ⟨r, e1, e2⟩
    · cases h
  · cases h
theorem snT_core (he : Sn K te me) {ε ε' : Env} {b : Bool} {σ : St} {F A : Hp} {fp : List Addr} {P : Bool → Hp → Hp → Prop} (e : mTest me ε = some (b, ε')) (q : Rel K F A ε σ fp) (n : fp.Nodup) (k : KTT K fp F A σ ε' b P) :
    Wp (te σ) F A fun x F1 A1 => ∃ c, x = .bl c ∧ P c F1 A1 := by
  obtain ⟨r, e1, e2⟩ := mTest_eq e
  refine he ε r ε' σ F A fp _ e1 q n fun x F1 A1 fp1 np1 s1 n1 q1 x1 => ?_
  obtain ⟨h1, h2, -⟩ := boolOf_eq e2 x1
  exact ⟨b, h1, k F1 A1 fp1 (s1.sub fun x hx => by simp [hx]) (List.nodup_append.mp n1).1 q1⟩
theorem snT_test (he : Sn K te me) : SnT K (tTest te) (mTest me) := fun ε b ε' σ F A fp P e q n k => t_test (snT_core he e q n k)
theorem snT_B (he : Sn K te me) : SnT K (tB te) (mTest me) := fun ε b ε' σ F A fp P e q n k => t_B (snT_core he e q n k)
variable {t u : TT} {mt mu : mT}
def mAnd (a b : mT) : mT := fun ε => match a ε with
  | some (true, ε1) => b ε1
  | some (false, ε1) => some (false, ε1)
  | none => none
def mOr (a b : mT) : mT := fun ε => match a ε with
  | some (true, ε1) => some (true, ε1)
  | some (false, ε1) => b ε1
  | none => none
def mNot (a : mT) : mT := fun ε => match a ε with
  | some (b, ε1) => some (!b, ε1)
  | none => none
def mYes : mT := fun ε => some (true, ε)
theorem snT_and (h1 : SnT K t mt) (h2 : SnT K u mu) : SnT K (tAnd t u) (mAnd mt mu) := fun ε b ε' σ F A fp P e q n k => by
  cases h : mt ε with
  | none => simp only [mAnd, h] at e; cases e
  | some x =>
    obtain ⟨c, ε1⟩ := x
    refine t_and (h1 ε c ε1 σ F A fp _ h q n fun F1 A1 fp1 s1 n1 q1 => ?_)
    cases c with
    | true =>
      simp only [mAnd, h] at e
      exact iteT (h2 ε1 b ε' σ F1 A1 fp1 P e q1 n1 fun F2 A2 fp2 s2 n2 q2 => k F2 A2 fp2 (s1.trans s2) n2 q2)
    | false =>
      simp only [mAnd, h] at e
      cases e
      exact iteF (k F1 A1 fp1 s1 n1 q1)
theorem snT_or (h1 : SnT K t mt) (h2 : SnT K u mu) : SnT K (tOr t u) (mOr mt mu) := fun ε b ε' σ F A fp P e q n k => by
  cases h : mt ε with
  | none => simp only [mOr, h] at e; cases e
  | some x =>
    obtain ⟨c, ε1⟩ := x
    refine t_or (h1 ε c ε1 σ F A fp _ h q n fun F1 A1 fp1 s1 n1 q1 => ?_)
    cases c with
    | true =>
      simp only [mOr, h] at e
      cases e
      exact iteT (k F1 A1 fp1 s1 n1 q1)
    | false =>
      simp only [mOr, h] at e
      exact iteF (h2 ε1 b ε' σ F1 A1 fp1 P e q1 n1 fun F2 A2 fp2 s2 n2 q2 => k F2 A2 fp2 (s1.trans s2) n2 q2)
theorem snT_not (h1 : SnT K t mt) : SnT K (tNot t) (mNot mt) := fun ε b ε' σ F A fp P e q n k => by
  cases h : mt ε with
  | none => simp only [mNot, h] at e; cases e
  | some x =>
    obtain ⟨c, ε1⟩ := x
    simp only [mNot, h] at e
    cases e
    exact t_not (h1 ε c _ σ F A fp _ h q n fun F1 A1 fp1 s1 n1 q1 => k F1 A1 fp1 s1 n1 q1)
theorem snT_yes : SnT K tYes mYes := fun ε b ε' σ F A fp P e q n k => by
  cases e
  exact t_yes (k F A fp .refl n q)
/-! ### and, or, not, if as values; two comparisons in a row -/
def mAndV (ma mb : mB) : mB := fun ε => match mTest ma ε with
  | some (true, ε1) => mb ε1
  | some (false, ε1) => some (.val (.dat (.bool false)), ε1)
  | none => none
def mOrV (ma mb : mB) : mB := fun ε => match mTest ma ε with
  | some (true, ε1) => some (.val (.dat (.bool true)), ε1)
  | some (false, ε1) => mb ε1
  | none => none
def mNotV (ma : mB) : mB := fun ε => match mTest ma ε with
  | some (b, ε1) => some (.val (.dat (.bool (!b))), ε1)
  | none => none
def mIf (mt : mT) (ma mb : mB) : mB := fun ε => match mt ε with
  | some (true, ε1) => ma ε1
  | some (false, ε1) => mb ε1
  | none => none
theorem Step.nil' {fp fp1 : List Addr} {F A F' A' : Hp} (s : Step fp fp1 F A F' A') : Step fp (fp1 ++ []) F A F' A' := by rw [List.append_nil]; exact s
theorem nod' {fp1 : List Addr} (s : fp1.Nodup) : (fp1 ++ []).Nodup := by rw [List.append_nil]; exact s
theorem sn_andV (ha : Sn K ta ma) (hb : Sn K tb mb) : Sn K (tAndV ta tb) (mAndV ma mb) := fun ε r ε' σ F A fp P e q n k => by
  cases h : mTest ma ε with
  | none => simp only [mAndV, h] at e; cases e
  | some x =>
    obtain ⟨c, ε1⟩ := x
    refine e_andV (snT_core ha h q n fun F1 A1 fp1 s1 n1 q1 => ?_)
    cases c with
    | true =>
      simp only [mAndV, h] at e
      exact iteT (hb ε1 r ε' σ F1 A1 fp1 P e q1 n1 fun v F2 A2 fp2 np s2 n2 q2 x2 => k v F2 A2 fp2 np (s1.trans s2) n2 q2 x2)
    | false =>
      simp only [mAndV, h] at e
      cases e
      exact iteF (k _ F1 A1 fp1 [] s1.nil' (nod' n1) q1 (.dat (.bl false)))
theorem sn_orV (ha : Sn K ta ma) (hb : Sn K tb mb) : Sn K (tOrV ta tb) (mOrV ma mb) := fun ε r ε' σ F A fp P e q n k => by
  cases h : mTest ma ε with
  | none => simp only [mOrV, h] at e; cases e
  | some x =>
    obtain ⟨c, ε1⟩ := x
    refine e_orV (snT_core ha h q n fun F1 A1 fp1 s1 n1 q1 => ?_)
    cases c with
    | true =>
      simp only [mOrV, h] at e
      cases e
      exact iteT (k _ F1 A1 fp1 [] s1.nil' (nod' n1) q1 (.dat (.bl true)))
    | false =>
      simp only [mOrV, h] at e
      exact iteF (hb ε1 r ε' σ F1 A1 fp1 P e q1 n1 fun v F2 A2 fp2 np s2 n2 q2 x2 => k v F2 A2 fp2 np (s1.trans s2) n2 q2 x2)
theorem sn_notV (ha : Sn K ta ma) : Sn K (tNotV ta) (mNotV ma) := fun ε r ε' σ F A fp P e q n k => by
  cases h : mTest ma ε with
  | none => simp only [mNotV, h] at e; cases e
  | some x =>
    obtain ⟨c, ε1⟩ := x
    simp only [mNotV, h] at e
    cases e
    exact e_notV (snT_core ha h q n fun F1 A1 fp1 s1 n1 q1 => k _ F1 A1 fp1 [] s1.nil' (nod' n1) q1 (.dat (.bl (!c))))
theorem sn_if (ht : SnT K t mt) (ha : Sn K ta ma) (hb : Sn K tb mb) : Sn K (tIf t ta tb) (mIf mt ma mb) := fun ε r ε' σ F A fp P e q n k => by
  cases h : mt ε with
  | none => simp only [mIf, h] at e; cases e
  | some x =>
    obtain ⟨c, ε1⟩ := x
    refine e_if (ht ε c ε1 σ F A fp _ h q n fun F1 A1 fp1 s1 n1 q1 => ?_)
    cases c with
    | true =>
      simp only [mIf, h] at e
      exact iteT (ha ε1 r ε' σ F1 A1 fp1 P e q1 n1 fun v F2 A2 fp2 np s2 n2 q2 x2 => k v F2 A2 fp2 np (s1.trans s2) n2 q2 x2)
    | false =>
      simp only [mIf, h] at e
      exact iteF (hb ε1 r ε' σ F1 A1 fp1 P e q1 n1 fun v F2 A2 fp2 np s2 n2 q2 x2 => k v F2 A2 fp2 np (s1.trans s2) n2 q2 x2)
/-- a < b < c -/
def mChain (f g : O → O → Option O) (ma mb mc : mB) : mB := fun ε => match ma ε with
  | some (a, ε1) => match mb ε1 with
    | some (b, ε2) => match op2 f a b ε2 with
      | some (r, ε3) => match boolOf r with
        | some true => match mc ε3 with
          | some (c, ε4) => op2 g b c ε4
          | none => none
        | some false => some (.val (.dat (.bool false)), ε3)
        | none => none
      | none => none
    | none => none
  | none => none
theorem sn_chain {f g : O → O → Option O} {r r' : R2} (hf : OpM K r f) (hg : OpM K r' g) (ha : Sn K ta ma) (hb : Sn K tb mb) (hc : Sn K tc mc) : Sn K (tChain r r' ta tb tc) (mChain f g ma mb mc) := fun ε rr ε' σ F A fp P e q n k => by
  unfold mChain at e
  split at e
  · rename_i a ε1 e1
    split at e
    · rename_i b ε2 e2
      refine e_chain (ha ε a ε1 σ F A fp _ e1 q n fun x F1 A1 fp1 np1 s1 n1 q1 x1 => ?_)
      refine hb ε1 b ε2 σ F1 A1 fp1 _ e2 q1 (List.nodup_append.mp n1).1 fun y F2 A2 fp2 np2 s2 n2 q2 x2 => ?_
      split at e
      · rename_i r1 ε3 e3
        obtain ⟨oa, ob, o, g1, g2, g3, rfl, rfl⟩ := op2_eq e3
        obtain ⟨ps, p1⟩ := (x1.step s2 n1).rp q2 g1
        obtain ⟨qs, p2⟩ := x2.rp q2 g2
        refine hf oa ob o F2 A2 x y ps qs _ g3 p1 p2 fun z F3 A3 np s n' p => ?_
        have q3 := q2.grow s
        have n3 := (List.nodup_append.mp n2).1
        have s13 : Step fp fp2 F A F3 A3 := ((s1.sub fun x hx => by simp [hx]).trans (s2.sub fun x hx => by simp [hx])).trans ⟨s.s, fun x u _ => s.o x u (by simp), fun x hx => .inl hx⟩
        split at e
        · rename_i e4
          obtain ⟨rfl, rfl, -⟩ := boolOf_eq e4 (r := .val o) (σ := σ) p
          refine ⟨true, rfl, iteT ?_⟩
          split at e
          · rename_i c ε4 e5
            have x2' : Res K F3 A3 σ y b np2 := by
              cases b with
              | val ob => exact Rp.mono s.s x2 fun x hx u e => s.o x u (by simp) e
              | slot i => exact x2
            have in2 := x2'.in
            refine hc ε3 c ε4 σ F3 A3 fp2 _ e5 q3 n3 fun u F4 A4 fp4 np4 s4 n4 q4 x4 => ?_
            obtain ⟨ob', oc, o', g1', g2', g3', rfl, rfl⟩ := op2_eq e
            obtain ⟨ps', p1'⟩ := (x2'.step s4 n2).rp q4 g1'
            obtain ⟨qs', p2'⟩ := x4.rp q4 g2'
            refine hg ob' oc o' F4 A4 y u ps' qs' P g3' p1' p2' fun v F5 A5 np5 s5 n5 p5 => ?_
            obtain ⟨g5, g6⟩ := s5.grow q4.in (List.nodup_append.mp n4).1 n5
            exact k v F5 A5 fp4 np5 ((s13.trans (s4.sub fun x hx => by simp [hx])).trans g5) g6 (q4.grow s5) p5
          · cases e
        · rename_i e4
          obtain ⟨rfl, rfl, -⟩ := boolOf_eq e4 (r := .val o) (σ := σ) p
          cases e
          exact ⟨false, rfl, iteF (k _ F3 A3 fp2 [] s13.nil' (nod' n3) q3 (.dat (.bl false)))⟩
        · cases e
      · cases e
    · cases e
  · cases e
/-! ### arguments -/
def mNil : mA := fun ε => some ([], ε)
def mCons (ma : mB) (mr : mA) : mA := fun ε => match ma ε with
  | some (a, ε1) => match mr ε1 with
    | some (rs, ε2) => some (a :: rs, ε2)
    | none => none
  | none => none
theorem sn_nil : SnA K tNil mNil := fun ε rs ε' σ F A fp P e q n k => by
  cases e
  exact a_nil (k [] F A fp [] Step.refl.nil' (nod' n) q .nil)
theorem sn_cons {tr : TA} {mr : mA} (ha : Sn K ta ma) (hr : SnA K tr mr) : SnA K (tCons ta tr) (mCons ma mr) := fun ε rs ε' σ F A fp P e q n k => by
  unfold mCons at e
  split at e
  · rename_i a ε1 e1
    split at e
    · rename_i rs' ε2 e2
      cases e
      refine a_cons (ha ε a ε1 σ F A fp _ e1 q n fun x F1 A1 fp1 np1 s1 n1 q1 x1 => ?_)
      refine hr ε1 rs' _ σ F1 A1 fp1 _ e2 q1 (List.nodup_append.mp n1).1 fun xs F2 A2 fp2 np2 s2 n2 q2 x2 => ?_
      obtain ⟨g1, g2⟩ := s2.apart x1.in n1 n2
      refine k (x :: xs) F2 A2 fp2 (np1 ++ np2) ((s1.trans g1).sub fun z hz => ?_) ?_ q2 (.cons (x1.step s2 n1) x2)
      · simp only [List.mem_append] at hz ⊢
        rcases hz with h | h | h
        · exact .inl (.inl h)
        · exact .inr h
        · exact .inl (.inr h)
      · refine (List.Perm.nodup_iff ?_).mp g2
        rw [List.append_assoc]
        exact List.Perm.append_left fp2 List.perm_append_comm
    · cases e
  · cases e
end
end M
namespace M
open PySem PySem.Spec L2 Z
abbrev lim : Nat := 10000000
theorem lim_le {n : Nat} (h : n ≤ lim) : n ≤ sizeLine := Nat.le_trans h (by decide)
theorem lim_lt {n : Nat} (h : n ≤ lim) : n < sizeLine := Nat.lt_of_le_of_lt h (by decide)
section
variable {K : PySem.W.Frag} {ta tb tc te : TE} {ma mb mc me : mB}
/-! ### what is left of a step that makes nothing -/
theorem Step.none {F A : Hp} : Step [] [] F A F A := .refl
theorem ret_dat {F A : Hp} {v : V} {d : D} {P : PV} (k : ∀ v F' A' np, Step [] np F A F' A' → np.Nodup → Rp K F' A' v (.dat d) np → P v F' A') (h : Dp K F v d) : P v F A := k v F A [] .none (by simp) (.dat h)
theorem ret_lst {F A : Hp} {p : Addr} {xs : List V} {ds : List D} {P : PV} (k : ∀ v F' A' np, Step [] np F A F' A' → np.Nodup → Rp K F' A' v (.lst (ds.map O.dat)) np → P v F' A') (np : A p = none) (h : DpAll K F xs ds) : P (.ref p) F (upd A p (.lst xs)) :=
  k _ F (upd A p (.lst xs)) [p] ⟨Same.refl _, fun x u _ e => by rw [upd_ne (ne_of_none e np)]; exact e, fun x hx => by simp at hx; subst hx; exact .inr np⟩ (by simp) (.lst upd_same (rpAll_dat h))
/-! ### operators -/
def allDat : List O → Option (List D)
  | [] => some []
  | .dat d :: xs => match allDat xs with
    | some ds => some (d :: ds)
    | none => none
  | _ :: _ => none
theorem allDat_eq : ∀ {os : List O} {ds : List D}, allDat os = some ds → os = ds.map O.dat
  | [], ds, h => by cases h; rfl
  | .dat d :: os, ds, h => by
    unfold allDat at h
    split at h
    · rename_i ds' e
      cases h
      rw [allDat_eq e]; rfl
    · cases h
  | .lst _ :: _, ds, h => by cases h
  | .tup _ :: _, ds, h => by cases h
  | .dic _ :: _, ds, h => by cases h
  | .dtt _ _ :: _, ds, h => by cases h
  | .lkn _ _ :: _, ds, h => by cases h
  | .lck _ :: _, ds, h => by cases h
@[simp] theorem allDat_map : ∀ (ds : List D), allDat (ds.map O.dat) = some ds
  | [] => rfl
  | d :: ds => by simp [allDat, allDat_map ds]
/-- a list of data, owned or not -/
def asL : O → Option (List D)
  | .dat (.list ds) => some ds
  | .lst xs => allDat xs
  | _ => none
theorem asL_rp {F A : Hp} {x : V} {o : O} {ps : List Addr} {ds : List D} (h : asL o = some ds) (r : Rp K F A x o ps) : ∃ a xs, x = .ref a ∧ Sl K F A a xs ∧ DpAll K F xs ds := by
  unfold asL at h
  split at h
  · cases h
    cases r with
    | dat r =>
      obtain ⟨a, xs, e, h1, h2⟩ := dp_lst r
      exact ⟨a, xs, e, .inl h1, h2⟩
  · rename_i os
    have := allDat_eq h
    subst this
    cases r with
    | lst r1 r2 => exact ⟨_, _, rfl, .inr r1, (dpAll_of r2).1⟩
  · cases h
def pAdd : O → O → Option O
  | .dat (.int i), .dat (.int j) => some (.dat (.int (i + j)))
  | .dat (.str s), .dat (.str t) => if s.length + t.length ≤ lim then some (.dat (.str (s ++ t))) else none
  | .dat (.tuple ds), .dat (.tuple es) => if ds.length + es.length ≤ lim then some (.dat (.tuple (ds ++ es))) else none
  | .lst a, .lst b => match allDat a, allDat b with
    | some ds, some es => if ds.length + es.length ≤ lim then some (.lst ((ds ++ es).map .dat)) else none
    | _, _ => none
  | _, _ => none
theorem wd_out {F A H : Hp} {p : Addr} {u : HO} (w : Wd F A H) (h : A p = some u) : F p = none := w.d p u h
theorem om_add : OpM K (uAdd K) pAdd := fun oa ob o F A x y ps qs P e r1 r2 k => by
  unfold pAdd at e
  split at e
  · cases e
    cases r1 with
    | dat r1 => cases r2 with
      | dat r2 =>
        cases dp_int r1; cases dp_int r2
        exact w_addI (ret_dat k (.int _))
  · split at e
    · rename_i hl
      cases e
      cases r1 with
      | dat r1 => cases r2 with
        | dat r2 =>
          cases dp_str r1; cases dp_str r2
          exact w_addS (lim_le hl) (ret_dat k (.str _))
    · cases e
  · split at e
    · rename_i hl
      cases e
      cases r1 with
      | dat r1 => cases r2 with
        | dat r2 =>
          exact w_addT r1 r2 (lim_le hl) fun v F' s _ h => k v F' A [] ⟨s, fun x u _ e => e, fun x hx => by cases hx⟩ (by simp) (.dat h)
    · cases e
  · split at e
    · rename_i ds es e1 e2
      split at e
      · rename_i hl
        cases e
        cases allDat_eq e1
        cases allDat_eq e2
        cases r1 with
        | lst r1 s1 => cases r2 with
          | lst r2 s2 =>
            have d1 := (dpAll_of s1).1
            have d2 := (dpAll_of s2).1
            exact fun H w Q c => w_addL (jn_a (w.d _ _ r1) r1) (jn_a (w.d _ _ r2) r2) (by rw [dps_len d1, dps_len d2]; exact lim_le hl) (fun p hf ha => ret_lst k ha (dps_app d1 d2)) H w Q c
      · cases e
    · cases e
  · cases e
def int2 (f : Int → Int → Option D) : O → O → Option O
  | .dat (.int i), .dat (.int j) => match f i j with
    | some d => some (.dat d)
    | none => none
  | _, _ => none
theorem int2_eq {f : Int → Int → Option D} {a b o : O} (h : int2 f a b = some o) : ∃ i j d, a = .dat (.int i) ∧ b = .dat (.int j) ∧ f i j = some d ∧ o = .dat d := by
  unfold int2 at h
  split at h
  · rename_i i j
    split at h
    · rename_i d e
      cases h
      exact ⟨i, j, d, rfl, rfl, e, rfl⟩
    · cases h
  · cases h
theorem om_int2 {f : Int → Int → Option D} {r : R2} (hf : ∀ i j d F A (P : PV), f i j = some d → (∀ v, (∀ F, Dp K F v d) → P v F A) → Wp (r (.int i) (.int j)) F A P) : OpM K r (int2 f) := fun oa ob o F A x y ps qs P e r1 r2 k => by
  obtain ⟨i, j, d, rfl, rfl, e1, rfl⟩ := int2_eq e
  cases r1 with
  | dat r1 => cases r2 with
    | dat r2 =>
      cases dp_int r1; cases dp_int r2
      exact hf i j d F A P e1 fun v h => ret_dat k (h F)
def pSub := int2 fun i j => some (.int (i - j))
theorem om_sub : OpM K rSubI pSub := om_int2 fun i j d F A P e k => by cases e; exact w_sub (k _ fun _ => .int _)
def pMulI := int2 fun i j => if i.natAbs.log2 + j.natAbs.log2 < 1000000 then some (.int (i * j)) else none
/-- a list times a number -/
def pMul : O → O → Option O
  | .lst a, .dat (.int j) => match allDat a with
    | some ds => if -(2 ^ 63) ≤ j ∧ j < 2 ^ 63 ∧ ds.length * j.toNat ≤ lim then some (.lst ((List.replicate j.toNat ds).flatten.map .dat)) else none
    | none => none
  | a, b => pMulI a b
def pDiv := int2 fun i j => if 0 < j ∧ j.natAbs.log2 < 9000 then some (.int (i / j)) else none
theorem om_div : OpM K rDivI pDiv := om_int2 fun i j d F A P e k => by
  split at e
  · rename_i h
    cases e
    exact w_div h (k _ fun _ => .int _)
  · cases e
def pMod := int2 fun i j => if 0 < j then some (.int (i % j)) else none
theorem om_mod : OpM K rModI pMod := om_int2 fun i j d F A P e k => by
  split at e
  · rename_i h
    cases e
    exact w_mod h (k _ fun _ => .int _)
  · cases e
def pPow := int2 fun i j => if 0 ≤ j ∧ j ≤ 1000000 ∧ i.natAbs < 2 ^ 64 then some (.int (i ^ j.toNat)) else none
theorem om_pow : OpM K rPowI pPow := om_int2 fun i j d F A P e k => by
  split at e
  · rename_i h
    cases e
    exact w_pow h (k _ fun _ => .int _)
  · cases e
def pLt := int2 fun i j => some (.bool (decide (i < j)))
def pLe := int2 fun i j => some (.bool (decide (i ≤ j)))
def pGt := int2 fun i j => some (.bool (decide (j < i)))
def pGe := int2 fun i j => some (.bool (decide (j ≤ i)))
theorem om_lt : OpM K rLtI pLt := om_int2 fun i j d F A P e k => by cases e; exact w_lt (k _ fun _ => .bl _)
theorem om_le : OpM K rLeI pLe := om_int2 fun i j d F A P e k => by cases e; exact w_le (k _ fun _ => .bl _)
theorem om_gt : OpM K rGtI pGt := om_int2 fun i j d F A P e k => by cases e; exact w_gt (k _ fun _ => .bl _)
theorem om_ge : OpM K rGeI pGe := om_int2 fun i j d F A P e k => by cases e; exact w_ge (k _ fun _ => .bl _)
/-! == and != of data -/
def shp (a : O) : Bool := a.pl && SeqAt.shaped a.er
theorem shp_eq {a : O} (h : shp a = true) : a.pl = true ∧ SeqAt.shaped a.er = true := Bool.and_eq_true_iff.mp h
def pEq (a b : O) : Option O := if shp a && shp b then some (.dat (.bool (PyData.eqv a.er b.er))) else none
def pNe (a b : O) : Option O := if shp a && shp b then some (.dat (.bool (!PyData.eqv a.er b.er))) else none
theorem om_eq : OpM K (uEq K) pEq := fun oa ob o F A x y ps qs P e r1 r2 k => by
  unfold pEq at e
  split at e
  · rename_i h
    cases e
    obtain ⟨h1, h2⟩ := Bool.and_eq_true_iff.mp h
    obtain ⟨p1, s1⟩ := shp_eq h1
    obtain ⟨p2, s2⟩ := shp_eq h2
    exact fun H w Q c => w_eqD (r1.dp w p1) (r2.dp w p2) s1 s2 (ret_dat k (.bl _)) H w Q c
  · cases e
theorem om_ne : OpM K (uNe K) pNe := fun oa ob o F A x y ps qs P e r1 r2 k => by
  unfold pNe at e
  split at e
  · rename_i h
    cases e
    obtain ⟨h1, h2⟩ := Bool.and_eq_true_iff.mp h
    obtain ⟨p1, s1⟩ := shp_eq h1
    obtain ⟨p2, s2⟩ := shp_eq h2
    exact fun H w Q c => w_neD (r1.dp w p1) (r2.dp w p2) s1 s2 (ret_dat k (.bl _)) H w Q c
  · cases e
/-! in, not in -/
def flatD : D → Bool
  | .none | .bool _ | .int _ | .str _ => true
  | _ => false
theorem dp_flat {F : Hp} {v : V} {d : D} (h : Dp K F v d) (e : flatD d = true) : flatV v = true ∧ ∀ u c, Dp K F u c → flatD c = true → eqV u v = PyData.eqv c d := by
  cases h <;> first | cases e | skip
  all_goals
    refine ⟨rfl, fun u c hu hc => ?_⟩
    cases hu <;> first | cases hc | skip
    all_goals simp [eqV, PyData.eqv]
theorem dps_flat {F : Hp} {v : V} {d : D} (h : Dp K F v d) (e : flatD d = true) : ∀ {vs : List V} {ds : List D}, DpAll K F vs ds → ds.all flatD = true → vs.all flatV = true ∧ inV v vs = ds.any fun z => PyData.eqv z d
  | _, _, .nil, _ => ⟨rfl, rfl⟩
  | _, _, .cons h1 hs, q => by
    rw [List.all_cons, Bool.and_eq_true_iff] at q
    obtain ⟨a1, a2⟩ := dps_flat h e hs q.2
    obtain ⟨b1, b2⟩ := dp_flat h1 q.1
    refine ⟨by rw [List.all_cons, b1, a1]; rfl, ?_⟩
    unfold inV at a2 ⊢
    rw [List.any_cons, List.any_cons, a2, (dp_flat h e).2 _ _ h1 q.1]
def inTest (x : D) (ds : List D) : Bool := ds.any fun z => PyData.eqv z x
def pInB (a b : O) : Option Bool := match b with
  | .dat (.tuple ds) => match a with
    | .dat d => if flatD d && ds.all flatD then some (inTest d ds) else none
    | _ => none
  | b => match asL b with
    | some ds => if shp a && SeqAt.shaped (.list ds) then some (inTest a.er ds) else none
    | none => none
def pIn (a b : O) : Option O := match pInB a b with
  | some k => some (.dat (.bool k))
  | none => none
def pNotIn (a b : O) : Option O := match pInB a b with
  | some k => some (.dat (.bool (!k)))
  | none => none
theorem dpl_of {F A H : Hp} {a : Addr} {xs : List V} {ds : List D} (w : Wd F A H) (h1 : Sl K F A a xs) (h2 : DpAll K F xs ds) : Dp K (jn F A) (.ref a) (.list ds) := by
  rcases h1 with h1 | h1
  · exact .lst (sq_mono jn_f h1) (dps_mono jn_f h2)
  · exact .lst (.inl (.inl (jn_a (w.d _ _ h1) h1))) (dps_mono jn_f h2)
theorem om_inB {oa ob : O} {b : Bool} {F A : Hp} {x y : V} {ps qs : List Addr} (e : pInB oa ob = some b) (r1 : Rp K F A x oa ps) (r2 : Rp K F A y ob qs) {H : Hp} (w : Wd F A H) :
    (∃ a xs, y = .ref a ∧ SqT K F a xs ∧ flatV x = true ∧ xs.all flatV = true ∧ inV x xs = b) ∨ (∃ d ds, Dp K (jn F A) x d ∧ Dp K (jn F A) y (.list ds) ∧ SeqAt.shaped d = true ∧ SeqAt.shaped (.list ds) = true ∧ inTest d ds = b) := by
  unfold pInB at e
  split at e
  · split at e
    · split at e
      · rename_i h
        cases e
        rw [Bool.and_eq_true_iff] at h
        cases r1 with
        | dat r1 => cases r2 with
          | dat r2 =>
            obtain ⟨a, xs, rfl, h1, h2⟩ := dp_tup r2
            obtain ⟨g1, g2⟩ := dps_flat r1 h.1 h2 h.2
            exact .inl ⟨a, xs, rfl, h1, (dp_flat r1 h.1).1, g1, g2⟩
      · cases e
    · cases e
  · split at e
    · rename_i ds h0
      split at e
      · rename_i h
        cases e
        rw [Bool.and_eq_true_iff] at h
        obtain ⟨p1, s1⟩ := shp_eq h.1
        obtain ⟨a, xs, rfl, h1, h2⟩ := asL_rp h0 r2
        exact .inr ⟨_, ds, r1.dp w p1, dpl_of w h1 h2, s1, h.2, rfl⟩
      · cases e
    · cases e
theorem om_in : OpM K (uIn K) pIn := fun oa ob o F A x y ps qs P e r1 r2 k => by
  unfold pIn at e
  split at e
  · rename_i b h
    cases e
    intro H w Q c
    rcases om_inB h r1 r2 w with ⟨a, xs, rfl, h1, h2, h3, h4⟩ | ⟨d, ds, h1, h2, h3, h4, h5⟩
    · exact w_inT h1 h2 h3 (by rw [h4]; exact ret_dat k (.bl _)) H w Q c
    · refine w_inD h1 h2 h3 h4 ?_ H w Q c
      show P (.bl (inTest d ds)) F A
      rw [h5]; exact ret_dat k (.bl _)
  · cases e
theorem w_notInT {F A : Hp} {x : V} {b : Addr} {xs : List V} {P : PV} (h : SqT K F b xs) (fx : flatV x = true) (fa : xs.all flatV = true) (q : P (.bl (!inV x xs)) F A) : Wp (uNotIn K x (.ref b)) F A P := fun H w _ c =>
  .inl ⟨b, xs, rfl, .inr (st_mono w.f h), fx, fa, c _ _ _ _ w q⟩
theorem om_notIn : OpM K (uNotIn K) pNotIn := fun oa ob o F A x y ps qs P e r1 r2 k => by
  unfold pNotIn at e
  split at e
  · rename_i b h
    cases e
    intro H w Q c
    rcases om_inB h r1 r2 w with ⟨a, xs, rfl, h1, h2, h3, h4⟩ | ⟨d, ds, h1, h2, h3, h4, h5⟩
    · exact w_notInT h1 h2 h3 (by rw [h4]; exact ret_dat k (.bl _)) H w Q c
    · refine w_notInD h1 h2 h3 h4 ?_ H w Q c
      show P (.bl (!inTest d ds)) F A
      rw [h5]; exact ret_dat k (.bl _)
  · cases e
/-! is None -/
def isNo : O → O → Option Bool
  | .dat d, .dat .none => some (match d with | .none => true | _ => false)
  | .lst _, .dat .none => some false
  | .tup _, .dat .none => some false
  | _, _ => none
def pIs (a b : O) : Option O := match isNo a b with
  | some k => some (.dat (.bool k))
  | none => none
def pIsNot (a b : O) : Option O := match isNo a b with
  | some k => some (.dat (.bool (!k)))
  | none => none
theorem isNo_eq {oa ob : O} {b : Bool} {F A : Hp} {x y : V} {ps qs : List Addr} (e : isNo oa ob = some b) (r1 : Rp K F A x oa ps) (r2 : Rp K F A y ob qs) : y = .non ∧ decide (x = .non) = b := by
  unfold isNo at e
  split at e
  · cases r1 with
    | dat r1 => cases r2 with
      | dat r2 =>
        cases e
        refine ⟨dp_non r2, ?_⟩
        cases r1 <;> simp
  · cases r1 with
    | lst _ _ => cases r2 with
      | dat r2 => cases e; exact ⟨dp_non r2, by simp⟩
  · cases r1 with
    | tup _ _ => cases r2 with
      | dat r2 => cases e; exact ⟨dp_non r2, by simp⟩
  · cases e
theorem om_is : OpM K rIsN pIs := fun oa ob o F A x y ps qs P e r1 r2 k => by
  unfold pIs at e
  split at e
  · rename_i b h
    cases e
    obtain ⟨rfl, e2⟩ := isNo_eq h r1 r2
    exact w_is (by rw [e2]; exact ret_dat k (.bl _))
  · cases e
theorem om_isNot : OpM K rNotN pIsNot := fun oa ob o F A x y ps qs P e r1 r2 k => by
  unfold pIsNot at e
  split at e
  · rename_i b h
    cases e
    obtain ⟨rfl, e2⟩ := isNo_eq h r1 r2
    exact w_isNot (by rw [e2]; exact ret_dat k (.bl _))
  · cases e
/-! items -/
def pIx (a b : O) : Option O := match b with
  | .dat (.int i) => match a with
    | .dat (.tuple ds) => match atI ds i with
      | some d => some (.dat d)
      | none => none
    | a => match asL a with
      | some ds => match atI ds i with
        | some d => some (.dat d)
        | none => none
      | none => none
  | _ => none
theorem om_ix : OpM K (rIx K) pIx := fun oa ob o F A x y ps qs P e r1 r2 k => by
  unfold pIx at e
  split at e
  · cases r2 with
    | dat r2 =>
      cases dp_int r2
      split at e
      · split at e
        · rename_i h
          cases e
          cases r1 with
          | dat r1 => exact w_ixT r1 h fun v hv => ret_dat k hv
        · cases e
      · split at e
        · rename_i ds h0
          split at e
          · rename_i d h
            cases e
            obtain ⟨a, xs, rfl, h1, h2⟩ := asL_rp h0 r1
            obtain ⟨v, g1, g2⟩ := dps_atI h2 h
            exact w_ixA h1 g1 (ret_dat k g2)
          · cases e
        · cases e
  · cases e
def pNeg : O → Option O
  | .dat (.int i) => some (.dat (.int (-i)))
  | _ => none
theorem um_neg : UnM K rNegI pNeg := fun oa o F A x ps P e r k => by
  unfold pNeg at e
  split at e
  · cases e
    cases r with
    | dat r => cases dp_int r; exact w_neg (ret_dat k (.int _))
  · cases e
end
end M
namespace M
open PySem PySem.Spec L2 Z
section
variable {K : PySem.W.Frag} {ta tb tc te : TE} {ma mb mc me : mB}
theorem om_mul : OpM K uMul pMul := fun oa ob o F A x y ps qs P e r1 r2 k => by
  unfold pMul at e
  split at e
  · split at e
    · rename_i ds e1
      split at e
      · rename_i h
        cases e
        cases allDat_eq e1
        cases r1 with
        | lst r1 s1 => cases r2 with
          | dat r2 =>
            cases dp_int r2
            have d1 := (dpAll_of s1).1
            have dr : ∀ n : Nat, DpAll K F (List.replicate n _).flatten (List.replicate n ds).flatten := fun n => by
              induction n with
              | zero => exact .nil
              | succ n ih => rw [List.replicate_succ, List.replicate_succ, List.flatten_cons, List.flatten_cons]; exact dps_app d1 ih
            exact fun H w Q c => .inr ⟨_, _, _, rfl, rfl, w.a _ _ r1, h.1, h.2.1, by rw [dps_len d1]; exact lim_le h.2.2, fun p hp => c _ _ _ _ (w.newA hp) (ret_lst k (w.an hp) (dr _))⟩
      · cases e
    · cases e
  · obtain ⟨i, j, d, rfl, rfl, e1, rfl⟩ := int2_eq e
    split at e1
    · rename_i h
      cases e1
      cases r1 with
      | dat r1 => cases r2 with
        | dat r2 =>
          cases dp_int r1; cases dp_int r2
          exact w_mul h (ret_dat k (.int _))
    · cases e1
/-! ### displays -/
def frzAll : List Rs → Env → Option (List D × Env)
  | [], ε => some ([], ε)
  | r :: rs, ε => match frzR r ε with
    | some (d, ε1) => match frzAll rs ε1 with
      | some (ds, ε2) => some (d :: ds, ε2)
      | none => none
    | none => none
theorem frz_all : ∀ {rs : List Rs} {vs : List V} {ε ε' : Env} {σ : St} {F A H : Hp} {fp np : List Addr} {ds : List D}, Wd F A H → Rel K F A ε σ fp → (fp ++ np).Nodup → ResAll K F A σ vs rs np → frzAll rs ε = some (ds, ε') →
    ∃ F' A' fp', Wd F' A' H ∧ Step (fp ++ np) fp' F A F' A' ∧ fp'.Nodup ∧ Rel K F' A' ε' σ fp' ∧ DpAll K F' vs ds
  | [], _, ε, ε', σ, F, A, H, fp, np, ds, w, q, n, h, e => by
    cases h
    cases e
    exact ⟨F, A, fp, w, by rw [List.append_nil]; exact .refl, by rw [List.append_nil] at n; exact n, q, .nil⟩
  | r :: rs, _, ε, ε', σ, F, A, H, fp, np, ds, w, q, n, h, e => by
    cases h with
    | cons h hs =>
      rename_i v vs np1 np2
      unfold frzAll at e
      split at e
      · rename_i d ε1 e1
        split at e
        · rename_i ds' ε2 e2
          cases e
          rw [← List.append_assoc] at n
          obtain ⟨F1, A1, fp1, w1, s1, n1, q1, d1⟩ := frz_res w q (List.nodup_append.mp n).1 h e1
          have nn : (fp ++ np2).Nodup := by
            refine List.Sublist.nodup ?_ n
            exact List.Sublist.append (List.sublist_append_left _ _) (.refl _)
          have hs1 : ResAll K F1 A1 σ vs rs np2 := hs.step s1 n
          obtain ⟨g1, g2⟩ := s1.apart hs.in n n1
          obtain ⟨F2, A2, fp2, w2, s2, n2, q2, d2⟩ := frz_all w1 q1 g2 hs1 e2
          exact ⟨F2, A2, fp2, w2, (g1.trans s2).wide fun x hx => by simp only [List.mem_append] at hx ⊢; rcases hx with (h | h) | h <;> simp [h], n2, q2, .cons (dp_mono s2.s d1) d2⟩
        · cases e
      · cases e
/-- the state behind arguments, as a fact -/
def AFact (K : PySem.W.Frag) (fp : List Addr) (F A : Hp) (σ : St) (ε' : Env) (rs : List Rs) : List V → Hp → Hp → Prop := fun vs F' A' => ∃ fp' np, Step fp (fp' ++ np) F A F' A' ∧ (fp' ++ np).Nodup ∧ Rel K F' A' ε' σ fp' ∧ ResAll K F' A' σ vs rs np
def BFact (K : PySem.W.Frag) (fp : List Addr) (F A : Hp) (σ : St) (ε' : Env) (r : Rs) : V → Hp → Hp → Prop := fun v F' A' => ∃ fp' np, Step fp (fp' ++ np) F A F' A' ∧ (fp' ++ np).Nodup ∧ Rel K F' A' ε' σ fp' ∧ Res K F' A' σ v r np
theorem SnA.fact {t : TA} {m : mA} (h : SnA K t m) {ε ε' : Env} {rs : List Rs} {σ : St} {F A : Hp} {fp : List Addr} (e : m ε = some (rs, ε')) (q : Rel K F A ε σ fp) (n : fp.Nodup) : WpA (t σ) F A (AFact K fp F A σ ε' rs) :=
  h ε rs ε' σ F A fp _ e q n fun vs F' A' fp' np s n' q' x => ⟨fp', np, s, n', q', x⟩
theorem Sn.fact {t : TE} {m : mB} (h : Sn K t m) {ε ε' : Env} {r : Rs} {σ : St} {F A : Hp} {fp : List Addr} (e : m ε = some (r, ε')) (q : Rel K F A ε σ fp) (n : fp.Nodup) : Wp (t σ) F A (BFact K fp F A σ ε' r) :=
  h ε r ε' σ F A fp _ e q n fun vs F' A' fp' np s n' q' x => ⟨fp', np, s, n', q', x⟩
variable {t : TA} {m : mA}
def mTup (m : mA) : mB := fun ε => match m ε with
  | some (rs, ε1) => match frzAll rs ε1 with
    | some (ds, ε2) => if ds.length ≤ lim then some (.val (.dat (.tuple ds)), ε2) else none
    | none => none
  | none => none
def mLst (m : mA) : mB := fun ε => match m ε with
  | some (rs, ε1) => match frzAll rs ε1 with
    | some (ds, ε2) => if ds.length ≤ lim then some (.val (.lst (ds.map .dat)), ε2) else none
    | none => none
  | none => none
theorem sn_tup (h : SnA K t m) : Sn K (tTup t) (mTup m) := fun ε r ε' σ F A fp P e q n k => by
  unfold mTup at e
  split at e
  · rename_i rs ε1 e1
    split at e
    · rename_i ds ε2 e2
      split at e
      · rename_i hl
        cases e
        intro H w Q c
        refine h.fact e1 q n H w _ fun vs F1 A1 H1 w1 ⟨fp1, np1, s1, n1, q1, x1⟩ => ?_
        obtain ⟨F2, A2, fp2, w2, s2, n2, q2, d2⟩ := frz_all w1 q1 n1 x1 e2
        refine ⟨by rw [dps_len d2]; exact lim_le hl, fun p hp => ?_⟩
        have s3 : Same F2 (upd F2 p (.tup vs)) := same_upd (w2.fn hp)
        refine c _ _ _ _ (w2.newF hp) (k _ _ _ fp2 [] ?_ (nod' n2) (q2.mono s3 fun x hx u e => e) (.dat (.tup (.inl (.inl upd_same)) (dps_mono s3 d2))))
        exact ((s1.trans s2).trans ⟨s3, fun x u _ e => e, fun x hx => .inl hx⟩).nil'
      · cases e
    · cases e
  · cases e
theorem sn_lst (h : SnA K t m) : Sn K (tLst t) (mLst m) := fun ε r ε' σ F A fp P e q n k => by
  unfold mLst at e
  split at e
  · rename_i rs ε1 e1
    split at e
    · rename_i ds ε2 e2
      split at e
      · rename_i hl
        cases e
        intro H w Q c
        refine h.fact e1 q n H w _ fun vs F1 A1 H1 w1 ⟨fp1, np1, s1, n1, q1, x1⟩ => ?_
        obtain ⟨F2, A2, fp2, w2, s2, n2, q2, d2⟩ := frz_all w1 q1 n1 x1 e2
        refine ⟨by rw [dps_len d2]; exact lim_le hl, fun p hp => ?_⟩
        have np := w2.an hp
        have st : Step [] [p] F2 A2 F2 (upd A2 p (.lst vs)) := ⟨Same.refl _, fun x u _ e => by rw [upd_ne (ne_of_none e np)]; exact e, fun x hx => by simp at hx; subst hx; exact .inr np⟩
        obtain ⟨g1, g2⟩ := st.grow q2.in n2 (by simp)
        exact c _ _ _ _ (w2.newA hp) (k _ _ _ fp2 [p] ((s1.trans s2).trans g1) g2 (q2.grow st) (.lst upd_same (rpAll_dat d2)))
      · cases e
    · cases e
  · cases e
/-! ### calls of the program's defs -/
abbrev mF := List O → Option (O × List (Option O))
def saM (K : PySem.W.Frag) (n : Nat) (mf : mF) : SA := fun vs F A P => ∃ os o os' ps, mf os = some (o, os') ∧ os.length = n ∧ RpAll K F A vs os ps ∧ ps.Nodup ∧
  ∀ v F' A' fp' np, Step ps (fp' ++ np) F A F' A' → (fp' ++ np).Nodup → Rel K F' A' os' (vs.map some) fp' → Rp K F' A' v o np → P v F' A'
/-- taken out for a call -/
def outR : Rs → Env → Option (O × Env)
  | .val o, ε => some (o, ε)
  | .slot i, ε => match slotAt ε i with
    | some o => some (o, ε.set i none)
    | none => none
def outAll : List Rs → Env → Option (List O × Env)
  | [], ε => some ([], ε)
  | r :: rs, ε => match outR r ε with
    | some (o, ε1) => match outAll rs ε1 with
      | some (os, ε2) => some (o :: os, ε2)
      | none => none
    | none => none
/-- put back behind it -/
def inAll : List Rs → List (Option O) → Env → Env
  | .slot i :: rs, some o :: os, ε => inAll rs os (match ε[i]? with
    | some none => ε.set i (some o)
    | _ => ε)
  | _ :: rs, _ :: os, ε => inAll rs os ε
  | _, _, ε => ε
theorem out_res {F A : Hp} {ε ε' : Env} {σ : St} {fp np : List Addr} {v : V} {r : Rs} {o : O} (q : Rel K F A ε σ fp) (n : (fp ++ np).Nodup) (h : Res K F A σ v r np) (e : outR r ε = some (o, ε')) :
    ∃ fp' ps, Rel K F A ε' σ fp' ∧ Rp K F A v o ps ∧ (fp' ++ ps).Perm (fp ++ np) := by
  cases r with
  | val o' => cases e; exact ⟨fp, np, q, h, .refl _⟩
  | slot i =>
    dsimp only [outR] at e
    split at e
    · rename_i o' e1
      cases e
      obtain ⟨v', ps, fp1, h1, h2, h3, h4⟩ := q.get (slotAt_eq e1)
      rw [h.2] at h1
      cases h1
      refine ⟨fp1, ps, h3, h2, ?_⟩
      rw [h.1, List.append_nil]
      exact List.perm_append_comm.trans h4.symm
    · cases e
theorem out_all : ∀ {rs : List Rs} {vs : List V} {ε ε' : Env} {σ : St} {F A : Hp} {fp np : List Addr} {os : List O}, Rel K F A ε σ fp → (fp ++ np).Nodup → ResAll K F A σ vs rs np → outAll rs ε = some (os, ε') →
    ∃ fp' ps, Rel K F A ε' σ fp' ∧ RpAll K F A vs os ps ∧ (fp' ++ ps).Perm (fp ++ np)
  | [], _, ε, ε', σ, F, A, fp, np, os, q, n, h, e => by
    cases h
    cases e
    exact ⟨fp, [], q, .nil, .refl _⟩
  | r :: rs, _, ε, ε', σ, F, A, fp, np, os, q, n, h, e => by
    cases h with
    | cons h hs =>
      rename_i v vs np1 np2
      unfold outAll at e
      split at e
      · rename_i o ε1 e1
        split at e
        · rename_i os' ε2 e2
          cases e
          rw [← List.append_assoc] at n
          obtain ⟨fp1, ps1, q1, r1, p1⟩ := out_res q (List.nodup_append.mp n).1 h e1
          have p2 : ((fp1 ++ ps1) ++ np2).Perm ((fp ++ np1) ++ np2) := List.Perm.append_right _ p1
          have n2 : ((fp1 ++ ps1) ++ np2).Nodup := p2.nodup_iff.mpr n
          have n3 : (fp1 ++ np2).Nodup := List.Sublist.nodup (List.Sublist.append (List.sublist_append_left _ _) (.refl _)) n2
          obtain ⟨fp2, ps2, q2, r2, p3⟩ := out_all q1 n3 hs e2
          refine ⟨fp2, ps1 ++ ps2, q2, .cons r1 r2, ?_⟩
          have p4 : (fp2 ++ (ps1 ++ ps2)).Perm (ps1 ++ (fp2 ++ ps2)) := by
            rw [← List.append_assoc, ← List.append_assoc]
            exact List.Perm.append_right _ List.perm_append_comm
          refine p4.trans ((List.Perm.append_left ps1 p3).trans ?_)
          rw [← List.append_assoc, ← List.append_assoc]
          exact (List.Perm.append_right _ List.perm_append_comm).trans p2
        · cases e
      · cases e
theorem in_all : ∀ {rs : List Rs} {os : List (Option O)} {vs : List V} {ε : Env} {σ : St} {F A F0 A0 : Hp} {fp fq np : List Addr}, Rel K F A ε σ fp → ResAll K F0 A0 σ vs rs np → Rel K F A os (vs.map some) fq → (fp ++ fq).Nodup →
    ∃ fp', Rel K F A (inAll rs os ε) σ fp' ∧ fp'.Nodup ∧ ∀ x ∈ fp', x ∈ fp ++ fq
  | [], os, vs, ε, σ, F, A, F0, A0, fp, fq, np, q, h, g, n => by
    unfold inAll
    exact ⟨fp, q, (List.nodup_append.mp n).1, fun x hx => by simp [hx]⟩
  | r :: rs, os, vs, ε, σ, F, A, F0, A0, fp, fq, np, q, h, g, n => by
    cases h with
    | cons h hs =>
      cases g with
      | un g =>
        unfold inAll
        cases r <;> exact in_all q hs g n
      | va g gs =>
        rename_i v vs np1 np2 o ps os fq'
        have n' : ((fp ++ ps) ++ fq').Nodup := by rw [List.append_assoc]; exact n
        have n2 : (fp ++ fq').Nodup := List.Sublist.nodup (List.Sublist.append (List.sublist_append_left _ _) (.refl _)) n'
        cases r with
        | val o' =>
          unfold inAll
          obtain ⟨fp', h1, h2, h3⟩ := in_all q hs gs n2
          exact ⟨fp', h1, h2, fun x hx => by have := h3 x hx; simp only [List.mem_append] at this ⊢; rcases this with h | h <;> simp [h]⟩
        | slot i =>
          dsimp only [inAll]
          split
          · rename_i e1
            obtain ⟨fp1, h1, h2⟩ := q.back e1 h.2 g
            have p1 : (fp1 ++ fq').Perm ((fp ++ ps) ++ fq') := List.Perm.append_right _ (h2.trans List.perm_append_comm)
            obtain ⟨fp', h3, h4, h5⟩ := in_all h1 hs gs (p1.nodup_iff.mpr n')
            exact ⟨fp', h3, h4, fun x hx => by have := p1.mem_iff.mp (h5 x hx); rw [List.append_assoc] at this; exact this⟩
          · obtain ⟨fp', h1, h2, h3⟩ := in_all q hs gs n2
            exact ⟨fp', h1, h2, fun x hx => by have := h3 x hx; simp only [List.mem_append] at this ⊢; rcases this with h | h <;> simp [h]⟩
def mCall (mf : mF) (m : mA) : mB := fun ε => match m ε with
  | some (rs, ε1) => match outAll rs ε1 with
    | some (os, ε2) => match mf os with
      | some (o, os') => some (.val o, inAll rs os' ε2)
      | none => none
    | none => none
  | none => none
theorem sn_call {mf : mF} {X : XK} {j : Nat} (hj : ∀ os r, mf os = some r → os.length = j) (h : SnA K t m) : Sn K (tCall (conc (saM K j mf)) [] X t) (mCall mf m) := fun ε r ε' σ F A fp P e q n k => by
  unfold mCall at e
  split at e
  · rename_i rs ε1 e1
    split at e
    · rename_i os ε2 e2
      split at e
      · rename_i o os' e3
        cases e
        refine e_call (h ε rs ε1 σ F A fp _ e1 q n fun vs F1 A1 fp1 np1 s1 n1 q1 x1 => ?_)
        obtain ⟨fp2, ps, q2, r2, p2⟩ := out_all q1 n1 x1 e2
        have n2 : (fp2 ++ ps).Nodup := p2.nodup_iff.mpr n1
        have nd := List.nodup_append.mp n2
        rw [List.append_nil]
        refine ⟨os, o, os', ps, e3, hj _ _ e3, r2, nd.2.1, fun v F' A' fp' np s3 n3 q3 p3 => ?_⟩
        have n2' : (ps ++ fp2).Nodup := List.perm_append_comm.nodup_iff.mp n2
        obtain ⟨g1, g2⟩ := s3.apart q2.in n2' n3
        have q2' : Rel K F' A' ε2 σ fp2 := q2.mono s3.s (s3.keep n2')
        have n5 : (fp2 ++ fp').Nodup := by
          have : ((fp' ++ fp2)).Nodup := List.Sublist.nodup (List.Sublist.append (List.sublist_append_left _ _) (.refl _)) g2
          exact List.perm_append_comm.nodup_iff.mp this
        obtain ⟨fp4, q4, n4, m4⟩ := in_all q2' x1 q3 n5
        have sub4 : ∀ x ∈ fp4 ++ np, x ∈ (fp' ++ np) ++ fp2 := fun x hx => by
          rcases List.mem_append.mp hx with z | z
          · rcases List.mem_append.mp (m4 x z) with z | z <;> simp [z]
          · simp [z]
        have gd := List.nodup_append.mp g2
        refine k v F' A' fp4 np ((s1.trans ((g1.wide fun x hx => ?_).sub sub4))) ?_ q4 p3
        · exact p2.mem_iff.mp (List.perm_append_comm.mem_iff.mp hx)
        · refine List.nodup_append.mpr ⟨n4, (List.nodup_append.mp n3).2.1, fun x hx y hy e => ?_⟩
          subst e
          rcases List.mem_append.mp (m4 x hx) with z | z
          · exact gd.2.2 x (by simp [hy]) x z rfl
          · exact (List.nodup_append.mp n3).2.2 x z x hy rfl
      · cases e
    · cases e
  · cases e
/-! ### built-ins -/
inductive Each (K : PySem.W.Frag) (F A : Hp) : List V → List O → Prop
  | nil : Each K F A [] []
  | cons {v : V} {vs : List V} {o : O} {os : List O} {ps : List Addr} : Rp K F A v o ps → Each K F A vs os → Each K F A (v :: vs) (o :: os)
def getAll : List Rs → Env → Option (List O)
  | [], _ => some []
  | r :: rs, ε => match r.get ε with
    | some o => match getAll rs ε with
      | some os => some (o :: os)
      | none => none
    | none => none
theorem get_all : ∀ {rs : List Rs} {vs : List V} {ε : Env} {σ : St} {F A : Hp} {fp np : List Addr} {os : List O}, Rel K F A ε σ fp → ResAll K F A σ vs rs np → getAll rs ε = some os → Each K F A vs os
  | [], _, _, _, _, _, _, _, _, q, h, e => by cases h; cases e; exact .nil
  | r :: rs, _, _, _, _, _, _, _, _, q, h, e => by
    cases h with
    | cons h hs =>
      unfold getAll at e
      split at e
      · rename_i o e1
        split at e
        · rename_i os e2
          cases e
          obtain ⟨ps, p⟩ := h.rp q e1
          exact .cons p (get_all q hs e2)
        · cases e
      · cases e
def CbM (K : PySem.W.Frag) (r : List V → Hp → VK → Prop) (f : List O → Option O) : Prop := ∀ os o F A vs (P : PV), f os = some o → Each K F A vs os →
  (∀ v F' A' np, Step [] np F A F' A' → np.Nodup → Rp K F' A' v o np → P v F' A') → Wp (r vs) F A P
def mCB (f : List O → Option O) (m : mA) : mB := fun ε => match m ε with
  | some (rs, ε1) => match getAll rs ε1 with
    | some os => match f os with
      | some o => some (.val o, ε1)
      | none => none
    | none => none
  | none => none
theorem sn_cb {r : List V → Hp → VK → Prop} {f : List O → Option O} (ho : CbM K r f) (h : SnA K t m) : Sn K (tCB r t) (mCB f m) := fun ε rr ε' σ F A fp P e q n k => by
  unfold mCB at e
  split at e
  · rename_i rs ε1 e1
    split at e
    · rename_i os e2
      split at e
      · rename_i o e3
        cases e
        refine e_cb (h ε rs _ σ F A fp _ e1 q n fun vs F1 A1 fp1 np1 s1 n1 q1 x1 => ?_)
        refine ho os o F1 A1 vs P e3 (get_all q1 x1 e2) fun v F' A' np s n' p => ?_
        obtain ⟨g1, g2⟩ := s.grow q1.in (List.nodup_append.mp n1).1 n'
        exact k v F' A' fp1 np ((s1.sub fun x hx => by simp [hx]).trans g1) g2 (q1.grow s) p
      · cases e
    · cases e
  · cases e
def one (f : O → Option O) : List O → Option O
  | [a] => f a
  | _ => none
theorem cm_one {r : List V → Hp → VK → Prop} {f : O → Option O} (h : UnM K (fun x => r [x]) f) : CbM K r (one f) := fun os o F A vs P e x k => by
  unfold one at e
  split at e
  · cases x with
    | cons x xs => cases xs; exact h _ o F A _ _ P e x k
  · cases e
def two (f : O → O → Option O) : List O → Option O
  | [a, b] => f a b
  | _ => none
theorem cm_two {r : List V → Hp → VK → Prop} {f : O → O → Option O} (h : OpM K (fun x y => r [x, y]) f) : CbM K r (two f) := fun os o F A vs P e x k => by
  unfold two at e
  split at e
  · cases x with
    | cons x xs => cases xs with
      | cons y ys => cases ys; exact h _ _ o F A _ _ _ _ P e x y k
  · cases e
def pLen (a : O) : Option O := match a with
  | .dat (.tuple ds) => some (.dat (.int ds.length))
  | a => match asL a with
    | some ds => some (.dat (.int ds.length))
    | none => none
theorem cm_len : CbM K (rLenQ K) (one pLen) := cm_one fun oa o F A x ps P e r k => by
  unfold pLen at e
  split at e
  · cases e
    cases r with
    | dat r =>
      obtain ⟨a, xs, rfl, h1, h2⟩ := dp_tup r
      exact w_lenT h1 (by rw [dps_len h2]; exact ret_dat k (.int _))
  · split at e
    · rename_i ds e1
      cases e
      obtain ⟨a, xs, rfl, h1, h2⟩ := asL_rp e1 r
      exact w_len h1 (by rw [dps_len h2]; exact ret_dat k (.int _))
    · cases e
def pMin := int2 fun i j => some (.int (if j < i then j else i))
def pMax := int2 fun i j => some (.int (if j > i then j else i))
theorem cm_min : CbM K (uMin K) (two pMin) := cm_two (om_int2 fun i j d F A P e k => by cases e; exact w_min2 (k _ fun _ => .int _))
theorem cm_max : CbM K (uMax K) (two pMax) := cm_two (om_int2 fun i j d F A P e k => by cases e; exact w_max2 (k _ fun _ => .int _))
def pInt : O → Option O
  | .dat (.int i) => some (.dat (.int i))
  | .dat (.bool b) => some (.dat (.int (if b then 1 else 0)))
  | _ => none
theorem cm_int : CbM K rIntOf (one pInt) := cm_one fun oa o F A x ps P e r k => by
  unfold pInt at e
  split at e
  · cases e
    cases r with
    | dat r => cases dp_int r; exact fun H w Q c => .inl ⟨_, rfl, c _ _ _ _ w (ret_dat k (.int _))⟩
  · cases e
    cases r with
    | dat r => cases dp_bl r; exact w_intB (ret_dat k (.int _))
  · cases e
def pList (a : O) : Option O := match a with
  | .dat (.tuple ds) => some (.lst (ds.map .dat))
  | a => match asL a with
    | some ds => some (.lst (ds.map .dat))
    | none => none
theorem cm_list : CbM K (rListOf K) (one pList) := cm_one fun oa o F A x ps P e r k => by
  unfold pList at e
  split at e
  · cases e
    cases r with
    | dat r =>
      obtain ⟨a, xs, rfl, h1, h2⟩ := dp_tup r
      exact w_listT h1 fun p hf ha => ret_lst k ha h2
  · split at e
    · rename_i ds e1
      cases e
      obtain ⟨a, xs, rfl, h1, h2⟩ := asL_rp e1 r
      exact w_list h1 fun p hf ha => ret_lst k ha h2
    · cases e
def pTuple (a : O) : Option O := match a with
  | .dat (.tuple ds) => some (.dat (.tuple ds))
  | a => match asL a with
    | some ds => some (.dat (.tuple ds))
    | none => none
theorem cm_tuple : CbM K (rTupOf K) (one pTuple) := cm_one fun oa o F A x ps P e r k => by
  unfold pTuple at e
  split at e
  · cases e
    cases r with
    | dat r =>
      obtain ⟨a, xs, rfl, h1, h2⟩ := dp_tup r
      exact fun H w Q c => ⟨a, xs, rfl, .inr ⟨st_mono w.f h1, c _ _ _ _ w (ret_dat k r)⟩⟩
  · split at e
    · rename_i ds e1
      cases e
      obtain ⟨a, xs, rfl, h1, h2⟩ := asL_rp e1 r
      exact w_tupL h1 fun p hf ha => k _ _ _ [] ⟨same_upd hf, fun x u _ e => e, fun x hx => by cases hx⟩ (by simp) (.dat (.tup (.inl (.inl upd_same)) (dps_mono (same_upd hf) h2)))
    · cases e
/-! isinstance -/
def pIsi (T : String) (a : O) : Option O := if a.pl = true then (match kitB (tyD a.er) T with
  | some b => some (.dat (.bool b))
  | none => none) else none
def mIsi (T : String) (ma : mB) : mB := mUn (pIsi T) ma
theorem sn_isi {T : String} (ha : Sn K ta ma) : Sn K (tCB (rIsi K) (tCons ta (tCons (tC (.ty T)) tNil))) (mIsi T ma) := fun ε rr ε' σ F A fp P e q n k => by
  have hu : UnM K (fun x => rIsi K [x, .ty T]) (pIsi T) := fun oa o F A x ps P e r k => by
    unfold pIsi at e
    split at e
    · rename_i hp
      split at e
      · rename_i b e1
        cases e
        exact fun H w Q c => w_isi (r.dp w hp) e1 (ret_dat k (.bl _)) H w Q c
      · cases e
    · cases e
  have := sn_un hu ha ε rr ε' σ F A fp P e q n k
  exact this
/-! ### slices -/
abbrev mO := Env → Option (Option Int × Env)
def SnO (K : PySem.W.Frag) (t : TO) (m : mO) : Prop := ∀ ε r ε' σ F A fp (P : Option Int → Hp → Hp → Prop), m ε = some (r, ε') → Rel K F A ε σ fp → fp.Nodup → (∀ F' A' fp', Step fp fp' F A F' A' → fp'.Nodup → Rel K F' A' ε' σ fp' → P r F' A') → WpO (t σ) F A P
def mNoPart : mO := fun ε => some (none, ε)
def mPart (ma : mB) : mO := fun ε => match ma ε with
  | some (.val (.dat (.int i)), ε1) => some (some i, ε1)
  | _ => none
theorem sn_noPart : SnO K tNoPart mNoPart := fun ε r ε' σ F A fp P e q n k => by cases e; exact o_none (k F A fp .refl n q)
theorem sn_part (ha : Sn K ta ma) : SnO K (tPart ta) (mPart ma) := fun ε r ε' σ F A fp P e q n k => by
  unfold mPart at e
  split at e
  · rename_i i ε1 e1
    cases e
    refine o_some (ha ε _ _ σ F A fp _ e1 q n fun v F1 A1 fp1 np1 s1 n1 q1 x1 => ?_)
    cases x1 with
    | dat x1 => exact ⟨i, dp_int x1, k F1 A1 fp1 (s1.sub fun x hx => by simp [hx]) (List.nodup_append.mp n1).1 q1⟩
  · cases e
def pSl (a : O) (lo hi : Option Int) : Option O := match a with
  | .dat (.tuple ds) => some (.dat (.tuple (cutD ds lo hi)))
  | a => match asL a with
    | some ds => some (.lst ((cutD ds lo hi).map .dat))
    | none => none
def mSl (ma : mB) (ml mh : mO) : mB := fun ε => match ma ε with
  | some (a, ε1) => match ml ε1 with
    | some (l, ε2) => match mh ε2 with
      | some (h, ε3) => match a.get ε3 with
        | some oa => match pSl oa l h with
          | some o => some (.val o, ε3)
          | none => none
        | none => none
      | none => none
    | none => none
  | none => none
theorem sn_sl {tl th : TO} {ml mh : mO} (ha : Sn K ta ma) (hl : SnO K tl ml) (hh : SnO K th mh) : Sn K (tSl (uSl K) ta tl th) (mSl ma ml mh) := fun ε rr ε' σ F A fp P e q n k => by
  unfold mSl at e
  split at e
  · rename_i a ε1 e1
    split at e
    · rename_i l ε2 e2
      split at e
      · rename_i h ε3 e3
        split at e
        · rename_i oa e4
          split at e
          · rename_i o e5
            cases e
            refine e_sl (ha ε a ε1 σ F A fp _ e1 q n fun x F1 A1 fp1 np1 s1 n1 q1 x1 => ?_)
            have n1' := (List.nodup_append.mp n1).1
            refine hl ε1 l ε2 σ F1 A1 fp1 _ e2 q1 n1' fun F2 A2 fp2 s2 n2 q2 => ?_
            refine hh ε2 h _ σ F2 A2 fp2 _ e3 q2 n2 fun F3 A3 fp3 s3 n3 q3 => ?_
            obtain ⟨ps, p⟩ := (x1.step (s2.trans s3) n1).rp q3 e4
            have hs : Step fp fp3 F A F3 A3 := ((s1.sub fun x hx => by simp [hx]).trans s2).trans s3
            have k' : ∀ v F' A' np, Step [] np F3 A3 F' A' → np.Nodup → Rp K F' A' v o np → P v F' A' := fun v F' A' np s n' p => by
              obtain ⟨g1, g2⟩ := s.grow q3.in n3 n'
              exact k v F' A' fp3 np (hs.trans g1) g2 (q3.grow s) p
            unfold pSl at e5
            split at e5
            · cases e5
              cases p with
              | dat p => exact w_slT p fun v F' s _ hv => k' v F' A3 [] ⟨s, fun x u _ e => e, fun x hx => by cases hx⟩ (by simp) (.dat hv)
            · split at e5
              · rename_i ds e6
                cases e5
                obtain ⟨a', xs, rfl, h1, h2⟩ := asL_rp e6 p
                exact w_slL h1 fun p hf hA => ret_lst k' hA (dps_cut h2)
              · cases e5
          · cases e
        · cases e
      · cases e
    · cases e
  · cases e
end
end M
namespace M
open PySem PySem.Spec L2 Z
section
variable {K : PySem.W.Frag} {ta tb tc te to ti : TE} {ma mb mc me mo mi : mB} {t : TA} {m : mA}
/-! ### methods of an owned list -/
def mApp (mo : mB) (m : mA) : mB := fun ε => match mo ε with
  | some (.slot i, ε1) => match slotAt ε1 i with
    | some (.lst _) => match m ε1 with
      | some ([r], ε2) => match frzR r ε2 with
        | some (d, ε3) => match slotAt ε3 i with
          | some (.lst os) => match allDat os with
            | some ds => if ds.length ≤ lim then some (.val (.dat .none), ε3.set i (some (.lst ((ds ++ [d]).map .dat)))) else none
            | none => none
          | _ => none
        | none => none
      | _ => none
    | _ => none
  | _ => none
theorem slot_lst {F A : Hp} {ε : Env} {σ : St} {fp : List Addr} {i : Nat} {x : V} {os : List O} (q : Rel K F A ε σ fp) (h : σ[i]? = some (some x)) (e : slotAt ε i = some (.lst os)) :
    ∃ p vs ps fp1, x = .ref p ∧ A p = some (.lst vs) ∧ RpAll K F A vs os ps ∧ Rel K F A (ε.set i none) σ fp1 ∧ fp.Perm ((p :: ps) ++ fp1) ∧ i < ε.length := by
  obtain ⟨v, ps, fp1, h1, h2, h3, h4⟩ := q.get (slotAt_eq e)
  rw [h] at h1
  cases h1
  cases h2 with
  | lst h5 h6 => exact ⟨_, _, _, fp1, rfl, h5, h6, h3, h4, by
      rcases Nat.lt_or_ge i ε.length with z | z
      · exact z
      · have := slotAt_eq e
        rw [List.getElem?_eq_none z] at this; cases this⟩
/-- the owned list in a slot changes -/
theorem slot_put {F A : Hp} {ε : Env} {σ : St} {fp1 ps : List Addr} {i : Nat} {p : Addr} {ws : List V} {fp : List Addr} {ds : List D} (q : Rel K F A (ε.set i none) σ fp1) (hx : σ[i]? = some (some (.ref p))) (hl : i < ε.length) (hn : fp.Nodup) (hp : fp.Perm ((p :: ps) ++ fp1)) (hd : DpAll K F ws ds) :
    ∃ fp', Rel K F (upd A p (.lst ws)) (ε.set i (some (.lst (ds.map .dat)))) σ fp' ∧ fp'.Nodup ∧ Step fp fp' F A F (upd A p (.lst ws)) := by
  have n1 : ((p :: ps) ++ fp1).Nodup := hp.nodup_iff.mp hn
  have nd := List.nodup_append.mp n1
  have q2 : Rel K F (upd A p (.lst ws)) (ε.set i none) σ fp1 := q.mono (Same.refl _) fun x hx u e => by
    rw [upd_ne fun z => nd.2.2 p (by simp) x hx z.symm]; exact e
  obtain ⟨fp2, h1, h2⟩ := q2.back (i := i) (by simp [hl]) hx (.lst upd_same (rpAll_dat hd))
  rw [List.set_set] at h1
  refine ⟨fp2, h1, ?_, ?_⟩
  · refine h2.nodup_iff.mpr (List.Sublist.nodup ?_ n1)
    exact List.Sublist.append (by simp) (.refl _)
  · refine ⟨Same.refl _, fun x u hx e => ?_, fun x hx => .inl (hp.mem_iff.mpr ?_)⟩
    · rw [upd_ne fun z => hx (hp.mem_iff.mpr (by simp [z]))]; exact e
    · have := h2.mem_iff.mp hx
      simp only [List.mem_append, List.mem_cons] at this ⊢
      rcases this with (h | h) | h
      · exact .inl (.inl h)
      · cases h
      · exact .inr h
theorem sn_app (ho : Sn K to mo) (h : SnA K t m) : Sn K (tBM K "list" rAppend to t) (mApp mo m) := fun ε rr ε' σ F A fp P e q n k => by
  unfold mApp at e
  split at e
  · rename_i i ε1 e1
    split at e
    · rename_i os1 e2
      split at e
      · rename_i r ε2 e3
        split at e
        · rename_i d ε3 e4
          split at e
          · rename_i os e5
            split at e
            · rename_i ds e6
              split at e
              · rename_i hl
                cases e
                cases allDat_eq e6
                refine e_bm (ho ε _ ε1 σ F A fp _ e1 q n fun x F1 A1 fp1 np1 s1 n1 q1 x1 => ?_)
                obtain ⟨p1, vs1, ps1, fpa, rfl, a1, -, -, -, -⟩ := slot_lst q1 x1.2 e2
                refine ⟨ty_lst (.inr a1), fun H w Q c => ?_⟩
                have n1' := (List.nodup_append.mp n1).1
                refine h.fact e3 q1 n1' H w _ fun vs F2 A2 H2 w2 ⟨fp2, np2, s2, n2, q2, x2⟩ => ?_
                cases x2 with
                | cons x2 x3 =>
                  cases x3
                  rw [List.append_nil] at s2 n2
                  obtain ⟨F3, A3, fp3, w3, s3, n3, q3, d3⟩ := frz_res w2 q2 n2 x2 e4
                  obtain ⟨p, xs, ps, fpb, e7, a3, r3, q4, pm, hi⟩ := slot_lst q3 x1.2 e5
                  cases e7
                  have dx := (dpAll_of r3).1
                  have dd : DpAll K F3 (xs ++ [_]) (ds ++ [d]) := dps_app dx (.cons d3 .nil)
                  obtain ⟨fp4, q5, n5, s5⟩ := slot_put q4 x1.2 hi n3 pm dd
                  exact c _ F3 A3 H2 w3 (w_append a3 (by rw [dps_len dx]; exact lim_lt hl) (k _ _ _ fp4 [] ((((s1.sub fun x hx => by simp [hx]).trans s2).trans s3).trans s5).nil' (nod' n5) q5 (.dat .non)))
              · cases e
            · cases e
          · cases e
        · cases e
      · cases e
    · cases e
  · cases e
/-- found.extend(a list of one's own) -/
def mExt (mo : mB) (m : mA) : mB := fun ε => match mo ε with
  | some (.slot i, ε1) => match slotAt ε1 i with
    | some (.lst _) => match m ε1 with
      | some ([r], ε2) => match r.get ε2, slotAt ε2 i with
        | some (.lst es), some (.lst os) => match allDat os, allDat es with
          | some ds, some es => if ds.length + es.length ≤ lim then some (.val (.dat .none), ε2.set i (some (.lst ((ds ++ es).map .dat)))) else none
          | _, _ => none
        | _, _ => none
      | _ => none
    | _ => none
  | _ => none
theorem sn_ext (ho : Sn K to mo) (h : SnA K t m) : Sn K (tBM K "list" rExtend to t) (mExt mo m) := fun ε rr ε' σ F A fp P e q n k => by
  unfold mExt at e
  split at e
  · rename_i i ε1 e1
    split at e
    · rename_i os1 e2
      split at e
      · rename_i r ε2 e3
        split at e
        · rename_i os1' os e4 e5
          split at e
          · rename_i ds es e6 e7
            split at e
            · rename_i hl
              cases e
              cases allDat_eq e6
              cases allDat_eq e7
              refine e_bm (ho ε _ ε1 σ F A fp _ e1 q n fun x F1 A1 fp1 np1 s1 n1 q1 x1 => ?_)
              obtain ⟨p1, vs1, ps1, fpa, rfl, a1, -, -, -, -⟩ := slot_lst q1 x1.2 e2
              refine ⟨ty_lst (.inr a1), fun H w Q c => ?_⟩
              have n1' := (List.nodup_append.mp n1).1
              refine h.fact e3 q1 n1' H w _ fun vs F2 A2 H2 w2 ⟨fp2, np2, s2, n2, q2, x2⟩ => ?_
              cases x2 with
              | cons x2 x3 =>
                cases x3
                rw [List.append_nil] at s2 n2
                obtain ⟨qs, rq⟩ := x2.rp q2 e4
                obtain ⟨p, xs, ps, fpb, e8, a3, r3, q4, pm, hi⟩ := slot_lst q2 x1.2 e5
                cases e8
                cases rq with
                | lst rb rs =>
                  have dx := (dpAll_of r3).1
                  have de := (dpAll_of rs).1
                  obtain ⟨fp4, q5, n5, s5⟩ := slot_put q4 x1.2 hi (List.nodup_append.mp n2).1 pm (dps_app dx de)
                  refine c _ F2 A2 H2 w2 fun H3 w3 Q3 c3 => ⟨_, _, _, _, rfl, rfl, w3.a _ _ a3, w3.a _ _ rb, by rw [dps_len dx, dps_len de]; exact lim_le hl, c3 _ _ _ _ (w3.put a3) ?_⟩
                  exact k _ _ _ fp4 [] (((s1.sub fun x hx => by simp [hx]).trans (s2.sub fun x hx => by simp [hx])).trans s5).nil' (nod' n5) q5 (.dat .non)
            · cases e
          · cases e
        · cases e
      · cases e
    · cases e
  · cases e
/-- found.pop() -/
def mPop (mo : mB) : mB := fun ε => match mo ε with
  | some (.slot i, ε1) => match slotAt ε1 i with
    | some (.lst os) => match allDat os with
      | some ds => match ds[ds.length - 1]? with
        | some d => some (.val (.dat d), ε1.set i (some (.lst (ds.dropLast.map .dat))))
        | none => none
      | none => none
    | _ => none
  | _ => none
theorem dps_dropLast {F : Hp} : ∀ {vs : List V} {ds : List D}, DpAll K F vs ds → DpAll K F vs.dropLast ds.dropLast := fun {vs ds} h => by
  rw [List.dropLast_eq_take, List.dropLast_eq_take, dps_len h]
  exact dps_take _ h
theorem sn_pop (ho : Sn K to mo) : Sn K (tBM0 K "list" rPop to) (mPop mo) := fun ε rr ε' σ F A fp P e q n k => by
  unfold mPop at e
  split at e
  · rename_i i ε1 e1
    split at e
    · rename_i os e2
      split at e
      · rename_i ds e3
        split at e
        · rename_i d e4
          cases e
          cases allDat_eq e3
          refine e_bm0 (ho ε _ ε1 σ F A fp _ e1 q n fun x F1 A1 fp1 np1 s1 n1 q1 x1 => ?_)
          obtain ⟨p, xs, ps, fpa, rfl, a1, r1, q2, pm, hi⟩ := slot_lst q1 x1.2 e2
          refine ⟨ty_lst (.inr a1), fun H w Q c => ?_⟩
          have n1' := (List.nodup_append.mp n1).1
          have dx := (dpAll_of r1).1
          obtain ⟨y, h1, h2⟩ := dps_get dx e4
          obtain ⟨fp4, q5, n5, s5⟩ := slot_put q2 x1.2 hi n1' pm (dps_dropLast dx)
          refine ⟨_, _, _, rfl, rfl, w.a _ _ a1, by rw [dps_len dx]; exact h1, c _ _ _ _ (w.put a1) ?_⟩
          exact k _ _ _ fp4 [] ((s1.sub fun x hx => by simp [hx]).trans s5).nil' (nod' n5) q5 (.dat h2)
        · cases e
      · cases e
    · cases e
  · cases e
/-! ### statements -/
variable {W : List Nat} {ts us : TS} {ms mu : mS} {D : Ed}
def mSeq (a b : mS) : mS := fun ε => match a ε with
  | some (.nx, ε1) => b ε1
  | r => r
def mNext : mS := fun ε => some (.nx, ε)
def mBk : mS := fun ε => some (.bk, ε)
def mCt : mS := fun ε => some (.ct, ε)
theorem KS.of (W : List Nat) {fp fp1 : List Addr} {F A F1 A1 : Hp} {σ σ1 : St} {ε' : Env} {f : Fl} (k : KS K W fp F A σ ε' f D) (s : Step fp fp1 F A F1 A1) (g : Agr W σ σ1) : KS K W fp1 F1 A1 σ1 ε' f D :=
  fun σ' F' A' fp' np s' n' q' g' => k σ' F' A' fp' np (s.trans s') n' q' (g.trans g')
theorem ss_seq (h1 : SnS K W ts ms) (h2 : SnS K W us mu) : SnS K W (tSeq ts us) (mSeq ms mu) := fun ε f ε' σ F A fp D e q n k => by
  unfold mSeq at e
  split at e
  · rename_i ε1 e1
    refine s_seq (h1 ε .nx ε1 σ F A fp _ e1 q n fun σ1 F1 A1 fp1 np1 s1 n1 q1 g1 => ?_)
    exact h2 ε1 f ε' σ1 F1 A1 fp1 D e q1 (List.nodup_append.mp n1).1 (k.of W (s1.sub fun x hx => by simp [hx]) g1)
  · rename_i hne
    refine s_seq (h1 ε f ε' σ F A fp _ e q n fun σ1 F1 A1 fp1 np1 s1 n1 q1 g1 => ?_)
    have := k σ1 F1 A1 fp1 np1 s1 n1 q1 g1
    cases f with
    | nx => exact absurd e (hne ε')
    | bk => exact this
    | ct => exact this
    | ret o => exact this
theorem ss_next : SnS K W tNext mNext := fun ε f ε' σ F A fp D e q n k => by cases e; exact s_next (k σ F A fp [] Step.refl.nil' (nod' n) q .refl)
theorem ss_brk : SnS K W tBreak mBk := fun ε f ε' σ F A fp D e q n k => by cases e; exact s_brk (k σ F A fp [] Step.refl.nil' (nod' n) q .refl)
theorem ss_cont : SnS K W tCont mCt := fun ε f ε' σ F A fp D e q n k => by cases e; exact s_cont (k σ F A fp [] Step.refl.nil' (nod' n) q .refl)
def mDrop (me : mB) : mS := fun ε => match me ε with
  | some (_, ε1) => some (.nx, ε1)
  | none => none
theorem ss_drop (he : Sn K te me) : SnS K W (tDrop te) (mDrop me) := fun ε f ε' σ F A fp D e q n k => by
  unfold mDrop at e
  split at e
  · rename_i r ε1 e1
    cases e
    exact s_drop (he ε r _ σ F A fp _ e1 q n fun v F1 A1 fp1 np1 s1 n1 q1 x1 => k σ F1 A1 fp1 [] (s1.sub fun x hx => by simpa using .inl (by simpa using hx)) (nod' (List.nodup_append.mp n1).1) q1 .refl)
  · cases e
def mRet (me : mB) : mS := fun ε => match me ε with
  | some (r, ε1) => match outR r ε1 with
    | some (o, ε2) => some (.ret o, ε2)
    | none => none
  | none => none
theorem ss_ret (he : Sn K te me) : SnS K W (tRet te) (mRet me) := fun ε f ε' σ F A fp D e q n k => by
  unfold mRet at e
  split at e
  · rename_i r ε1 e1
    split at e
    · rename_i o ε2 e2
      cases e
      refine s_ret (he ε r _ σ F A fp _ e1 q n fun v F1 A1 fp1 np1 s1 n1 q1 x1 => ?_)
      obtain ⟨fp2, ps, q2, r2, p2⟩ := out_res q1 n1 x1 e2
      exact k σ F1 A1 fp2 ps (s1.sub fun x hx => p2.mem_iff.mp hx) (p2.nodup_iff.mpr n1) q2 .refl v r2
    · cases e
  · cases e
def mRetN : mS := fun ε => some (.ret (.dat .none), ε)
theorem ss_retN : SnS K W tRetN mRetN := fun ε f ε' σ F A fp D e q n k => by cases e; exact s_retN (k σ F A fp [] Step.refl.nil' (nod' n) q .refl _ (.dat .non))
def mIfS (mt : mT) (a b : mS) : mS := fun ε => match mt ε with
  | some (true, ε1) => a ε1
  | some (false, ε1) => b ε1
  | none => none
theorem ss_if {c : TT} {mt : mT} (hc : SnT K c mt) (h1 : SnS K W ts ms) (h2 : SnS K W us mu) : SnS K W (tIfS c ts us) (mIfS mt ms mu) := fun ε f ε' σ F A fp D e q n k => by
  cases h : mt ε with
  | none => simp only [mIfS, h] at e; cases e
  | some x =>
    obtain ⟨b, ε1⟩ := x
    refine s_if (hc ε b ε1 σ F A fp _ h q n fun F1 A1 fp1 s1 n1 q1 => ?_)
    cases b with
    | true =>
      simp only [mIfS, h] at e
      exact iteT (h1 ε1 f ε' σ F1 A1 fp1 D e q1 n1 (k.of W s1 .refl))
    | false =>
      simp only [mIfS, h] at e
      exact iteF (h2 ε1 f ε' σ F1 A1 fp1 D e q1 n1 (k.of W s1 .refl))
/-- what is stored under a name: a new thing is owned, a slot's own is laid down -/
def takR : Rs → Env → Option (O × Env)
  | .val o, ε => some (o, ε)
  | .slot i, ε => match frzR (.slot i) ε with
    | some (d, ε1) => some (.dat d, ε1)
    | none => none
theorem tak_res {F A H : Hp} {ε ε' : Env} {σ : St} {fp np : List Addr} {v : V} {r : Rs} {o : O} (w : Wd F A H) (q : Rel K F A ε σ fp) (n : (fp ++ np).Nodup) (h : Res K F A σ v r np) (e : takR r ε = some (o, ε')) :
    ∃ F' A' fp' np', Wd F' A' H ∧ Step (fp ++ np) (fp' ++ np') F A F' A' ∧ (fp' ++ np').Nodup ∧ Rel K F' A' ε' σ fp' ∧ Rp K F' A' v o np' := by
  cases r with
  | val o' => cases e; exact ⟨F, A, fp, np, w, .refl, n, q, h⟩
  | slot i =>
    dsimp only [takR] at e
    split at e
    · rename_i d ε1 e1
      cases e
      obtain ⟨F', A', fp', w', s', n', q', d'⟩ := frz_res w q n h e1
      exact ⟨F', A', fp', [], w', s'.nil', nod' n', q', .dat d'⟩
    · cases e
def mAsg (me : mB) (mg : mG) : mS := fun ε => match me ε with
  | some (r, ε1) => match takR r ε1 with
    | some (o, ε2) => match mg o ε2 with
      | some ε3 => some (.nx, ε3)
      | none => none
    | none => none
  | none => none
theorem ss_asg {g : TG} {mg : mG} (he : Sn K te me) (hg : SnG K W g mg) : SnS K W (tAsg te g) (mAsg me mg) := fun ε f ε' σ F A fp D e q n k => by
  unfold mAsg at e
  split at e
  · rename_i r ε1 e1
    split at e
    · rename_i o ε2 e2
      split at e
      · rename_i ε3 e3
        cases e
        intro H w C c
        refine he.fact e1 q n H w _ fun v F1 A1 H1 w1 ⟨fp1, np1, s1, n1, q1, x1⟩ => ?_
        obtain ⟨F2, A2, fp2, np2, w2, s2, n2, q2, r2⟩ := tak_res w1 q1 n1 x1 e2
        refine hg o ε2 _ v σ F2 A2 fp2 np2 _ e3 q2 r2 n2 (fun σ' F3 A3 fp3 s3 n3 q3 g3 => ?_) H1 w2 _ c.nx
        exact k σ' F3 A3 fp3 [] ((s1.trans s2).trans s3).nil' (nod' n3) q3 g3
      · cases e
    · cases e
  · cases e
/-! targets -/
def gN (i : Nat) : mG := fun o ε => some (ε.set i (some o))
theorem sg_name {i : Nat} (hi : i ∈ W) : SnG K W (gName i) (gN i) := fun o ε ε' v σ F A fp np PG e q r n k => by
  cases e
  obtain ⟨fp', h1, h2, h3⟩ := rel_set (i := i) q r n
  exact g_name (k _ F A fp' (Step.refl.sub h3) h2 h1 (Agr.set hi))
abbrev mGs := List PyData → Env → Option Env
def SnGs (K : PySem.W.Frag) (W : List Nat) (gs : TGs) (m : mGs) : Prop := ∀ ds ε ε' vs σ F A fp PG, m ds ε = some ε' → Rel K F A ε σ fp → DpAll K F vs ds → fp.Nodup →
  (∀ σ' F' A' fp', Step fp fp' F A F' A' → fp'.Nodup → Rel K F' A' ε' σ' fp' → Agr W σ σ' → PG σ' F' A') → WpG (gs vs σ) F A PG
def gsN : mGs := fun ds ε => match ds with
  | [] => some ε
  | _ => none
def gsC (g : mG) (gs : mGs) : mGs := fun ds ε => match ds with
  | d :: ds => match g (.dat d) ε with
    | some ε1 => gs ds ε1
    | none => none
  | [] => none
theorem sg_nil : SnGs K W gNil gsN := fun ds ε ε' vs σ F A fp PG e q r n k => by
  unfold gsN at e
  split at e
  · cases e; cases r; exact g_nil (k σ F A fp .refl n q .refl)
  · cases e
theorem sg_cons {g : TG} {gs : TGs} {mg : mG} {mgs : mGs} (h : SnG K W g mg) (hs : SnGs K W gs mgs) : SnGs K W (gCons g gs) (gsC mg mgs) := fun ds ε ε' vs σ F A fp PG e q r n k => by
  unfold gsC at e
  split at e
  · split at e
    · rename_i ε1 e1
      cases r with
      | cons r rs =>
        refine g_cons (h _ ε ε1 _ σ F A fp [] _ e1 q (.dat r) (nod' n) fun σ1 F1 A1 fp1 s1 n1 q1 g1 => ?_)
        rw [List.append_nil] at s1
        exact hs _ ε1 ε' _ σ1 F1 A1 fp1 PG e q1 (dps_mono s1.s rs) n1 fun σ2 F2 A2 fp2 s2 n2 q2 g2 => k σ2 F2 A2 fp2 (s1.trans s2) n2 q2 (g1.trans g2)
    · cases e
  · cases e
def gT (n : Nat) (gs : mGs) : mG := fun o ε => match o with
  | .dat (.tuple ds) => if ds.length = n then gs ds ε else none
  | _ => none
theorem sg_tup {j : Nat} {gs : TGs} {mgs : mGs} (hs : SnGs K W gs mgs) : SnG K W (gTup K j gs) (gT j mgs) := fun o ε ε' v σ F A fp np PG e q r n k => by
  unfold gT at e
  split at e
  · split at e
    · rename_i hl
      cases r with
      | dat r =>
        obtain ⟨a, xs, rfl, h1, h2⟩ := dp_tup r
        rw [List.append_nil] at n
        refine g_tup ⟨a, xs, rfl, h1, by rw [dps_len h2]; exact hl, hs _ ε ε' xs σ F A fp PG e q h2 n fun σ' F' A' fp' s' n' q' g' => k σ' F' A' fp' (by rw [List.append_nil]; exact s') n' q' g'⟩
    · cases e
  · cases e
def mSet (i : Nat) (me : mB) : mS := mAsg me (gN i)
theorem ss_set {i : Nat} (hi : i ∈ W) (he : Sn K te me) : SnS K W (tAsg te (gName i)) (mSet i me) := ss_asg he (sg_name hi)
/-- x += e -/
def mAug (i : Nat) (f : O → O → Option O) (me : mB) : mS := fun ε => match mVar i ε with
  | some (a, ε0) => match me ε0 with
    | some (b, ε1) => match op2 f a b ε1 with
      | some (r, ε2) => match r with
        | .val o => some (.nx, ε2.set i (some o))
        | _ => none
      | none => none
    | none => none
  | none => none
theorem ss_aug {i : Nat} {f : O → O → Option O} {r : R2} (hi : i ∈ W) (ho : OpM K r f) (he : Sn K te me) : SnS K W (tAug i te r) (mAug i f me) := fun ε ff ε' σ F A fp D e q n k => by
  unfold mAug at e
  split at e
  · rename_i a ε0 e0
    split at e
    · rename_i b ε1 e1
      split at e
      · rename_i rr ε2 e2
        split at e
        · rename_i o
          cases e
          have hv : ∃ oi, slotAt ε i = some oi := by
            cases hz : slotAt ε i with
            | none => simp only [mVar, hz] at e0; cases e0
            | some oi => exact ⟨oi, rfl⟩
          obtain ⟨oi, ei⟩ := hv
          obtain ⟨x, ps, fpx, h1, h2, h3, h4⟩ := q.get (slotAt_eq ei)
          have hx : Res K F A σ x a [] ∧ ε0 = ε := by
            cases oi with
            | dat d =>
              simp only [mVar, ei] at e0; cases e0
              cases h2 with
              | dat h2 => exact ⟨.dat h2, rfl⟩
            | lst xs => simp only [mVar, ei] at e0; cases e0; exact ⟨⟨rfl, h1⟩, rfl⟩
            | tup xs => simp only [mVar, ei] at e0; cases e0; exact ⟨⟨rfl, h1⟩, rfl⟩
            | dic kvs => simp only [mVar, ei] at e0; cases e0; exact ⟨⟨rfl, h1⟩, rfl⟩
            | lck kvs => simp only [mVar, ei] at e0; cases e0; exact ⟨⟨rfl, h1⟩, rfl⟩
            | dtt w kvs => simp only [mVar, ei] at e0; cases e0; exact ⟨⟨rfl, h1⟩, rfl⟩
            | lkn w kvs => simp only [mVar, ei] at e0; cases e0; exact ⟨⟨rfl, h1⟩, rfl⟩
          obtain ⟨hx, rfl⟩ := hx
          refine s_aug ⟨x, h1, he _ b ε1 σ F A fp _ e1 q n fun y F1 A1 fp1 np1 s1 n1 q1 x1 => ?_⟩
          refine op2_core ho (fp := fp) (fp1 := fp) (np1 := []) Step.refl.nil' (nod' n) hx s1 n1 q1 x1 e2 fun z F2 A2 fp2 np2 s2 n2 q2 x2 => ?_
          obtain ⟨fp3, g1, g2, g3⟩ := rel_set (i := i) q2 x2 n2
          exact k _ F2 A2 fp3 [] (s2.sub g3).nil' (nod' g2) g1 (Agr.set hi)
        · cases e
      · cases e
    · cases e
  · cases e
end
end M
namespace M
open PySem PySem.Spec L2 Z
section
variable {K : PySem.W.Frag} {ta tb tc te to ti : TE} {ma mb mc me mo mi : mB} {t : TA} {m : mA} {W : List Nat} {ts us : TS} {ms mu : mS}
def mPutIx (mo mi me : mB) : mS := fun ε => match me ε with
  | some (r, ε1) => match mo ε1 with
    | some (.slot j, ε2) => match mi ε2 with
      | some (.val (.dat (.int k)), ε3) => match frzR r ε3 with
        | some (d, ε4) => match slotAt ε4 j with
          | some (.lst os) => match allDat os with
            | some ds => match ixN ds.length k with
              | some n => some (.nx, ε4.set j (some (.lst ((ds.set n d).map .dat))))
              | none => none
            | none => none
          | _ => none
        | none => none
      | _ => none
    | _ => none
  | none => none
theorem dps_set {F : Hp} {v : V} {d : D} (h : Dp K F v d) : ∀ {vs : List V} {ds : List D} {n : Nat}, DpAll K F vs ds → DpAll K F (vs.set n v) (ds.set n d)
  | _, _, _, .nil => .nil
  | _, _, 0, .cons _ hs => .cons h hs
  | _, _, n + 1, .cons g hs => .cons g (dps_set h hs)
theorem ss_putIx (ho : Sn K to mo) (hi : Sn K ti mi) (he : Sn K te me) : SnS K W (tAsg te (gSub to ti rSetL)) (mPutIx mo mi me) := fun ε f ε' σ F A fp D e q n k => by
  unfold mPutIx at e
  split at e
  · rename_i r ε1 e1
    split at e
    · rename_i j ε2 e2
      split at e
      · rename_i i ε3 e3
        split at e
        · rename_i d ε4 e4
          split at e
          · rename_i os e5
            split at e
            · rename_i ds e6
              split at e
              · rename_i l e7
                cases e
                cases allDat_eq e6
                refine s_asg (he ε r ε1 σ F A fp _ e1 q n fun v F1 A1 fp1 np1 s1 n1 q1 x1 => ?_)
                have n1' := (List.nodup_append.mp n1).1
                refine g_sub (ho ε1 _ ε2 σ F1 A1 fp1 _ e2 q1 n1' fun ov F2 A2 fp2 np2 s2 n2 q2 x2 => ?_)
                have n2' := (List.nodup_append.mp n2).1
                have s2' : Step fp1 fp2 F1 A1 F2 A2 := s2.sub fun x hx => by simp [hx]
                refine hi ε2 _ ε3 σ F2 A2 fp2 _ e3 q2 n2' fun iv F3 A3 fp3 np3 s3 n3 q3 x3 => ?_
                have n3' := (List.nodup_append.mp n3).1
                have s3' : Step fp2 fp3 F2 A2 F3 A3 := s3.sub fun x hx => by simp [hx]
                cases x3 with
                | dat x3 =>
                  cases dp_int x3
                  have s23 := s2'.trans s3'
                  have x1' := x1.step s23 n1
                  obtain ⟨g1, g2⟩ := s23.apart x1.in n1 n3'
                  intro H w Q c
                  obtain ⟨F4, A4, fp4, w4, s4, n4, q4, d4⟩ := frz_res w q3 g2 x1' e4
                  obtain ⟨p, xs, ps, fpb, e8, a3, r3, q5, pm, hl⟩ := slot_lst q4 x2.2 e5
                  cases e8
                  have dx := (dpAll_of r3).1
                  obtain ⟨fp5, q6, n6, s6⟩ := slot_put q5 x2.2 hl n4 pm (dps_set (n := l) d4 dx)
                  refine w_set a3 (by rw [dps_len dx]; exact e7) ?_ H w4 Q c
                  exact k σ _ _ fp5 [] ((((s1.trans g1).trans s4).trans s6)).nil' (nod' n6) q6 .refl
              · cases e
            · cases e
          · cases e
        · cases e
      · cases e
    · cases e
  · cases e
/-! ### walks -/
def Wks (K : PySem.W.Frag) (J : It) (F1 : Hp) (ds : List D) : Prop := Walk J ds.length (fun H => ∃ F A, Wd F A H ∧ Same F1 F) fun i H x H' => ∀ F A, Wd F A H → Same F1 F → ∃ F', Wd F' A H' ∧ Same F F' ∧ ∃ d, ds[i]? = some d ∧ Dp K F' x d
abbrev mI := Env → Option (List D × Env)
def SnI (K : PySem.W.Frag) (w : TI) (m : mI) : Prop := ∀ ε ds ε' σ F A fp H, m ε = some (ds, ε') → Rel K F A ε σ fp → fp.Nodup → Wd F A H → ∀ R : It → Hp → Prop,
  (∀ J F' A' fp' H', Wd F' A' H' → Step fp fp' F A F' A' → fp'.Nodup → Rel K F' A' ε' σ fp' → Wks K J F' ds → R J H') → w σ H R
theorem wks_list {F1 : Hp} {a : Addr} {xs : List V} {ds : List D} (h : SqL K F1 a xs) (hd : DpAll K F1 xs ds) : Wks K (Itl K a) F1 ds := by
  have := walk_list (K := K) (a := a) (xs := xs)
  rw [dps_len hd] at this
  refine this.mono (fun H ⟨F, A, w, s⟩ => sq_mono (s.trans w.f) h) fun i H x H' hi _ y F A w s => ?_
  obtain ⟨rfl, y⟩ := y
  obtain ⟨d, e1, e2⟩ := dps_at hd y
  exact ⟨F, w, Same.refl _, d, e1, dp_mono s e2⟩
theorem wks_tup {F1 : Hp} {a : Addr} {xs : List V} {ds : List D} (h : SqT K F1 a xs) (hd : DpAll K F1 xs ds) : Wks K (Itt K a) F1 ds := by
  have := walk_tup (K := K) (a := a) (xs := xs)
  rw [dps_len hd] at this
  refine this.mono (fun H ⟨F, A, w, s⟩ => st_mono (s.trans w.f) h) fun i H x H' hi _ y F A w s => ?_
  obtain ⟨rfl, y⟩ := y
  obtain ⟨d, e1, e2⟩ := dps_at hd y
  exact ⟨F, w, Same.refl _, d, e1, dp_mono s e2⟩
def mIL (me : mB) : mI := fun ε => match me ε with
  | some (r, ε1) => match frzR r ε1 with
    | some (.list ds, ε2) => some (ds, ε2)
    | _ => none
  | none => none
theorem si_list (he : Sn K te me) : SnI K (iList K te) (mIL me) := fun ε ds ε' σ F A fp H e q n w R k => by
  unfold mIL at e
  split at e
  · rename_i r ε1 e1
    refine he.fact e1 q n H w _ fun v F1 A1 H1 w1 ⟨fp1, np1, s1, n1, q1, x1⟩ => ?_
    split at e
    · rename_i ds' ε2 e2
      cases e
      obtain ⟨F2, A2, fp2, w2, s2, n2, q2, d2⟩ := frz_res w1 q1 n1 x1 e2
      obtain ⟨a, xs, rfl, h1, h2⟩ := dp_lst d2
      exact ⟨a, rfl, ⟨xs, sq_mono w2.f h1⟩, k _ F2 A2 fp2 H1 w2 (s1.trans s2) n2 q2 (wks_list h1 h2)⟩
    · cases e
  · cases e
def mIT (me : mB) : mI := fun ε => match me ε with
  | some (r, ε1) => match frzR r ε1 with
    | some (.tuple ds, ε2) => some (ds, ε2)
    | _ => none
  | none => none
theorem si_tup (he : Sn K te me) : SnI K (iTup K te) (mIT me) := fun ε ds ε' σ F A fp H e q n w R k => by
  unfold mIT at e
  split at e
  · rename_i r ε1 e1
    refine he.fact e1 q n H w _ fun v F1 A1 H1 w1 ⟨fp1, np1, s1, n1, q1, x1⟩ => ?_
    split at e
    · rename_i ds' ε2 e2
      cases e
      obtain ⟨F2, A2, fp2, w2, s2, n2, q2, d2⟩ := frz_res w1 q1 n1 x1 e2
      obtain ⟨a, xs, rfl, h1, h2⟩ := dp_tup d2
      exact ⟨a, rfl, ⟨xs, st_mono w2.f h1⟩, k _ F2 A2 fp2 H1 w2 (s1.trans s2) n2 q2 (wks_tup h1 h2)⟩
    · cases e
  · cases e
def intsD (lo : Int) (n : Nat) : List D := (List.range n).map fun k => .int (lo + (k : Nat))
theorem wks_rng {F1 : Hp} {lo : Int} {n : Nat} : Wks K (Itr lo n) F1 (intsD lo n) := by
  have := walk_range (lo := lo) (n := n)
  have hl : (intsD lo n).length = n := by simp [intsD]
  unfold Wks
  rw [hl]
  refine this.mono (fun H _ => trivial) fun i H x H' hi _ y F A w s => ?_
  obtain ⟨rfl, rfl⟩ := y
  exact ⟨F, w, Same.refl _, .int (lo + i), by simp [intsD, hi], .int _⟩
def mRng1 (m : mA) : mI := fun ε => match m ε with
  | some ([.val (.dat (.int j))], ε1) => if -(2 ^ 62) ≤ j ∧ j < 2 ^ 62 then some (intsD 0 j.toNat, ε1) else none
  | _ => none
theorem si_rng1 (h : SnA K t m) : SnI K (iRng1 t) (mRng1 m) := fun ε ds ε' σ F A fp H e q n w R k => by
  unfold mRng1 at e
  split at e
  · rename_i j ε1 e1
    split at e
    · rename_i hj
      cases e
      refine h.fact e1 q n H w _ fun v F1 A1 H1 w1 ⟨fp1, np1, s1, n1, q1, x1⟩ => ?_
      cases x1 with
      | cons x1 x2 =>
        cases x2
        cases x1 with
        | dat x1 =>
          cases dp_int x1
          exact ⟨j, rfl, hj.1, hj.2, k _ F1 A1 fp1 H1 w1 (s1.sub fun x hx => by simp [hx]) (List.nodup_append.mp n1).1 q1 wks_rng⟩
    · cases e
  · cases e
def mRng2 (m : mA) : mI := fun ε => match m ε with
  | some ([.val (.dat (.int i)), .val (.dat (.int j))], ε1) => if -(2 ^ 62) ≤ i ∧ i < 2 ^ 62 ∧ -(2 ^ 62) ≤ j ∧ j < 2 ^ 62 then some (intsD i (j - i).toNat, ε1) else none
  | _ => none
theorem si_rng2 (h : SnA K t m) : SnI K (iRng2 t) (mRng2 m) := fun ε ds ε' σ F A fp H e q n w R k => by
  unfold mRng2 at e
  split at e
  · rename_i i j ε1 e1
    split at e
    · rename_i hj
      cases e
      refine h.fact e1 q n H w _ fun v F1 A1 H1 w1 ⟨fp1, np1, s1, n1, q1, x1⟩ => ?_
      cases x1 with
      | cons x1 x2 => cases x2 with
        | cons x2 x3 =>
          cases x3
          cases x1 with
          | dat x1 => cases x2 with
            | dat x2 =>
              cases dp_int x1; cases dp_int x2
              exact ⟨i, j, rfl, hj, k _ F1 A1 fp1 H1 w1 (s1.sub fun x hx => by simp [hx]) (List.nodup_append.mp n1).1 q1 wks_rng⟩
    · cases e
  · cases e
/-! ### for -/
def forGo (mg : mG) (mb : mS) : List PyData → Env → Option (Fl × Env)
  | [], ε => some (.nx, ε)
  | d :: ds, ε => match mg (.dat d) ε with
    | some ε1 => match mb ε1 with
      | some (.nx, ε2) => forGo mg mb ds ε2
      | some (.ct, ε2) => forGo mg mb ds ε2
      | some (.bk, ε2) => some (.nx, ε2)
      | some (.ret o, ε2) => some (.ret o, ε2)
      | none => none
    | none => none
def mFor (mi : mI) (mg : mG) (mb : mS) : mS := fun ε => match mi ε with
  | some (ds, ε1) => forGo mg mb ds ε1
  | none => none
def EdFor (inv : St → Hp → Hp → Prop) (D : Ed) : Ed := { nx := inv, ct := inv, bk := D.nx, rt := D.rt }
def ForInv (K : PySem.W.Frag) (W : List Nat) (fp : List Addr) (F A F1 : Hp) (σ : St) (mg : mG) (mb : mS) (ds : List PyData) (f : Fl) (ε' : Env) (i : Nat) (σ' : St) (H' : Hp) : Prop :=
  ∃ F' A' fp' ε2, Wd F' A' H' ∧ Step fp fp' F A F' A' ∧ Same F1 F' ∧ fp'.Nodup ∧ Rel K F' A' ε2 σ' fp' ∧ Agr W σ σ' ∧ forGo mg mb (ds.drop i) ε2 = some (f, ε')
theorem ss_for {wi : TI} {mi : mI} {g : TG} {mg : mG} {tb : TS} {mb : mS} (hi : SnI K wi mi) (hg : SnG K W g mg) (hb : SnS K W tb mb) : SnS K W (tFor wi g tb) (mFor mi mg mb) := fun ε f ε' σ F A fp D e q n k => by
  unfold mFor at e
  split at e
  · rename_i ds ε1 e1
    intro H w C c
    refine hi ε ds ε1 σ F A fp H e1 q n w _ fun J F1 A1 fp1 H1 w1 s1 n1 q1 wk => ?_
    refine for_it wk (ForInv K W fp F A F1 σ mg mb ds f ε')
      ⟨F1, A1, fp1, ε1, w1, s1, Same.refl _, n1, q1, .refl, by simpa using e⟩ (fun i σ' H' _ ⟨F', A', _, _, w', _, s', _⟩ => ⟨F', A', w', s'⟩) ?_ ?_
    · rintro i x σ' H2 H3 hl ⟨F2, A2, fp2, ε2, w2, s2, s12, n2, q2, g2, e2⟩ y
      obtain ⟨F3, w3, s3, d, ed, dd⟩ := y F2 A2 w2 s12
      have hdrop : ds.drop i = d :: ds.drop (i + 1) := by
        have hx : ds[i] = d := by
          have := ed
          rw [List.getElem?_eq_getElem hl] at this
          exact Option.some.inj this
        rw [← hx]
        exact List.drop_eq_getElem_cons hl
      rw [hdrop] at e2
      unfold forGo at e2
      have q3 : Rel K F3 A2 ε2 σ' fp2 := q2.mono s3 fun x hx u e => e
      have s3' : Step fp fp2 F A F3 A2 := s2.trans ⟨s3, fun x u _ e => e, fun x hx => .inl hx⟩
      split at e2
      · rename_i ε3 e3
        refine hg (.dat d) ε2 ε3 x σ' F3 A2 fp2 [] (fun σ4 F4 A4 => ∃ fp4, Step fp2 fp4 F3 A2 F4 A4 ∧ fp4.Nodup ∧ Rel K F4 A4 ε3 σ4 fp4 ∧ Agr W σ' σ4) e3 q3 (.dat dd) (nod' n2)
          (fun σ4 F4 A4 fp4 s4 n4 q4 g4 => ⟨fp4, by rw [List.append_nil] at s4; exact s4, n4, q4, g4⟩) H3 w3 _ (fun σ4 F4 A4 H4 w4 ⟨fp4, s4, n4, q4, g4⟩ => ?_)
        have s04 := s3'.trans s4
        have sF : Same F1 F4 := (s12.trans s3).trans s4.s
        have I : ∀ (fl : Fl) (ε5 : Env), mb ε3 = some (fl, ε5) → (fl = .nx ∨ fl = .ct → forGo mg mb (ds.drop (i + 1)) ε5 = some (f, ε')) → (fl = .bk → f = .nx ∧ ε5 = ε') → (∀ o, fl = .ret o → f = .ret o ∧ ε5 = ε') →
            S tb (EdFor (fun σ5 F5 A5 => ∃ fp5, Step fp fp5 F A F5 A5 ∧ Same F1 F5 ∧ fp5.Nodup ∧ Rel K F5 A5 ε5 σ5 fp5 ∧ Agr W σ σ5 ∧ forGo mg mb (ds.drop (i + 1)) ε5 = some (f, ε')) D) σ4 F4 A4 := fun fl ε5 e5 h1 h2 h3 => by
          refine hb ε3 fl ε5 σ4 F4 A4 fp4 _ e5 q4 n4 fun σ5 F5 A5 fp5 np5 s5 n5 q5 g5 => ?_
          have n5' := (List.nodup_append.mp n5).1
          have s5' : Step fp4 fp5 F4 A4 F5 A5 := s5.sub fun x hx => by simp [hx]
          cases fl with
          | nx => exact ⟨fp5, s04.trans s5', sF.trans s5.s, n5', q5, (g2.trans g4).trans g5, h1 (.inl rfl)⟩
          | ct => exact ⟨fp5, s04.trans s5', sF.trans s5.s, n5', q5, (g2.trans g4).trans g5, h1 (.inr rfl)⟩
          | bk =>
            obtain ⟨rfl, rfl⟩ := h2 rfl
            exact k σ5 F5 A5 fp5 [] (s04.trans s5').nil' (nod' n5') q5 ((g2.trans g4).trans g5)
          | ret o =>
            obtain ⟨rfl, rfl⟩ := h3 o rfl
            exact k σ5 F5 A5 fp5 np5 (s04.trans s5) n5 q5 ((g2.trans g4).trans g5)
        have L : ∀ ε5, Lo (EdFor (fun σ5 F5 A5 => ∃ fp5, Step fp fp5 F A F5 A5 ∧ Same F1 F5 ∧ fp5.Nodup ∧ Rel K F5 A5 ε5 σ5 fp5 ∧ Agr W σ σ5 ∧ forGo mg mb (ds.drop (i + 1)) ε5 = some (f, ε')) D) { C with nx := ForInv K W fp F A F1 σ mg mb ds f ε' (i + 1), ct := ForInv K W fp F A F1 σ mg mb ds f ε' (i + 1), bk := C.nx } := fun ε5 => ⟨fun σ5 F5 A5 H5 w5 ⟨fp5, a1, a2, a3, a4, a5, a6⟩ => ⟨F5, A5, fp5, ε5, w5, a1, a2, a3, a4, a5, a6⟩, c.rt, fun σ5 F5 A5 H5 w5 q => c.nx _ _ _ _ w5 q, fun σ5 F5 A5 H5 w5 ⟨fp5, a1, a2, a3, a4, a5, a6⟩ => ⟨F5, A5, fp5, ε5, w5, a1, a2, a3, a4, a5, a6⟩⟩
        split at e2
        · rename_i ε5 e5
          exact I .nx ε5 e5 (fun _ => e2) (fun h => by cases h) (fun o h => by cases h) H4 w4 _ (L ε5)
        · rename_i ε5 e5
          exact I .ct ε5 e5 (fun _ => e2) (fun h => by cases h) (fun o h => by cases h) H4 w4 _ (L ε5)
        · rename_i ε5 e5
          cases e2
          exact I .bk ε' e5 (fun h => by rcases h with h | h <;> cases h) (fun h => ⟨rfl, rfl⟩) (fun o h => by cases h) H4 w4 _ (L ε')
        · rename_i o ε5 e5
          cases e2
          exact I (.ret o) ε' e5 (fun h => by rcases h with h | h <;> cases h) (fun h => by cases h) (fun o h => by cases h; exact ⟨rfl, rfl⟩) H4 w4 _ (L ε')
        · cases e2
      · cases e2
    · rintro σ' H' ⟨F', A', fp', ε2, w', s', -, n', q', g', e2⟩
      simp only [List.drop_length, forGo] at e2
      cases e2
      exact c.nx _ _ _ _ w' (k σ' F' A' fp' [] s'.nil' (nod' n') q' g')
  · cases e
end
end M
namespace M
open PySem PySem.Spec L2 Z
section
variable {K : PySem.W.Frag} {ta tb tc te to ti : TE} {ma mb mc me mo mi : mB} {t : TA} {m : mA} {W : List Nat} {ts us : TS} {ms mu : mS}
/-! ### while -/
def whGo (mt : mT) (mb : mS) : Nat → Env → Option (Fl × Env)
  | 0, _ => none
  | n + 1, ε => match mt ε with
    | some (true, ε1) => match mb ε1 with
      | some (.nx, ε2) => whGo mt mb n ε2
      | some (.ct, ε2) => whGo mt mb n ε2
      | some (.bk, ε2) => some (.nx, ε2)
      | some (.ret o, ε2) => some (.ret o, ε2)
      | none => none
    | some (false, ε1) => some (.nx, ε1)
    | none => none
def mWhile (n : Nat) (mt : mT) (mb : mS) : mS := fun ε => whGo mt mb n ε
theorem ss_while (n : Nat) {c : TT} {mt : mT} {tb : TS} {mb : mS} (hc : SnT K c mt) (hb : SnS K W tb mb) : SnS K W (tWhile c tb) (mWhile n mt mb) := fun ε f ε' σ F A fp D e q nd k => by
  refine s_while (fun m σ' F' A' => ∃ fp' ε2, Step fp fp' F A F' A' ∧ fp'.Nodup ∧ Rel K F' A' ε2 σ' fp' ∧ Agr W σ σ' ∧ whGo mt mb m ε2 = some (f, ε')) ⟨n, fp, ε, .refl, nd, q, .refl, e⟩ ?_
  rintro m σ1 F1 A1 ⟨fp1, ε1, s1, n1, q1, g1, e1⟩
  cases m with
  | zero => cases e1
  | succ m =>
    cases h : mt ε1 with
    | none => simp only [whGo, h] at e1; cases e1
    | some x =>
      obtain ⟨b, ε2⟩ := x
      refine hc ε1 b ε2 σ1 F1 A1 fp1 _ h q1 n1 fun F2 A2 fp2 s2 n2 q2 => ?_
      cases b with
      | false =>
        simp only [whGo, h] at e1
        cases e1
        exact iteF (k σ1 F2 A2 fp2 [] (s1.trans s2).nil' (nod' n2) q2 g1)
      | true =>
        refine iteT ?_
        simp only [whGo, h] at e1
        have I : ∀ (fl : Fl) (ε5 : Env), mb ε2 = some (fl, ε5) → (fl = .nx ∨ fl = .ct → whGo mt mb m ε5 = some (f, ε')) → (fl = .bk → f = .nx ∧ ε5 = ε') → (∀ o, fl = .ret o → f = .ret o ∧ ε5 = ε') →
            S tb { D with nx := fun σ' F' A' => ∃ m', m' < m + 1 ∧ ∃ fp' ε2, Step fp fp' F A F' A' ∧ fp'.Nodup ∧ Rel K F' A' ε2 σ' fp' ∧ Agr W σ σ' ∧ whGo mt mb m' ε2 = some (f, ε'), ct := fun σ' F' A' => ∃ m', m' < m + 1 ∧ ∃ fp' ε2, Step fp fp' F A F' A' ∧ fp'.Nodup ∧ Rel K F' A' ε2 σ' fp' ∧ Agr W σ σ' ∧ whGo mt mb m' ε2 = some (f, ε'), bk := D.nx } σ1 F2 A2 := fun fl ε5 e5 h1 h2 h3 => by
          refine hb ε2 fl ε5 σ1 F2 A2 fp2 _ e5 q2 n2 fun σ5 F5 A5 fp5 np5 s5 n5 q5 g5 => ?_
          have n5' := (List.nodup_append.mp n5).1
          have s5' : Step fp2 fp5 F2 A2 F5 A5 := s5.sub fun x hx => by simp [hx]
          cases fl with
          | nx => exact ⟨m, Nat.lt_succ_self m, fp5, ε5, (s1.trans s2).trans s5', n5', q5, g1.trans g5, h1 (.inl rfl)⟩
          | ct => exact ⟨m, Nat.lt_succ_self m, fp5, ε5, (s1.trans s2).trans s5', n5', q5, g1.trans g5, h1 (.inr rfl)⟩
          | bk =>
            obtain ⟨rfl, rfl⟩ := h2 rfl
            exact k σ5 F5 A5 fp5 [] ((s1.trans s2).trans s5').nil' (nod' n5') q5 (g1.trans g5)
          | ret o =>
            obtain ⟨rfl, rfl⟩ := h3 o rfl
            exact k σ5 F5 A5 fp5 np5 ((s1.trans s2).trans s5) n5 q5 (g1.trans g5)
        split at e1
        · rename_i ε5 e5
          exact I .nx ε5 e5 (fun _ => e1) (fun h => by cases h) (fun o h => by cases h)
        · rename_i ε5 e5
          exact I .ct ε5 e5 (fun _ => e1) (fun h => by cases h) (fun o h => by cases h)
        · rename_i ε5 e5
          cases e1
          exact I .bk _ e5 (fun h => by rcases h with h | h <;> cases h) (fun h => ⟨rfl, rfl⟩) (fun o h => by cases h)
        · rename_i o ε5 e5
          cases e1
          exact I (.ret o) _ e5 (fun h => by rcases h with h | h <;> cases h) (fun h => by cases h) (fun o h => by cases h; exact ⟨rfl, rfl⟩)
        · cases e1
/-! ### comprehensions -/
def wipeE (ε : Env) : List Nat → Env
  | [] => ε
  | v :: vs => (wipeE ε vs).set v none
theorem wipeE_len {ε : Env} : ∀ {vs : List Nat}, (wipeE ε vs).length = ε.length
  | [] => rfl
  | v :: vs => by unfold wipeE; rw [List.length_set, wipeE_len]
theorem wipeE_at {ε : Env} {i : Nat} : ∀ {vs : List Nat}, i ∈ vs → i < ε.length → (wipeE ε vs)[i]? = some none
  | [], h, _ => by cases h
  | v :: vs, h, hl => by
    unfold wipeE
    by_cases hv : v = i
    · subst hv
      rw [List.getElem?_set_self (by rw [wipeE_len]; exact hl)]
    · rw [List.getElem?_set_ne hv]
      rcases List.mem_cons.mp h with z | z
      · exact absurd z.symm hv
      · exact wipeE_at z hl
section
variable {F A : Hp}
theorem rel_wipe {ε : Env} {σ : St} {fp : List Addr} (q : Rel K F A ε σ fp) : ∀ (vs : List Nat), ∃ fp', Rel K F A (wipeE ε vs) (wipe σ vs) fp' ∧ fp'.Sublist fp
  | [] => ⟨fp, q, .refl _⟩
  | v :: vs => by
    obtain ⟨fp1, q1, s1⟩ := rel_wipe q vs
    obtain ⟨fp2, q2, s2⟩ := q1.clear (i := v)
    refine ⟨fp2, ?_, s2.trans s1⟩
    unfold wipeE wipe
    rcases Nat.lt_or_ge v (wipeE ε vs).length with hl | hl
    · exact q2.free (by simp [hl])
    · rw [List.set_eq_of_length_le (l := wipe σ vs) (by rw [← q1.len]; exact hl)]
      exact q2
theorem rel_unwipe {ε : Env} {fp : List Addr} : ∀ {vs : List Nat} {σ : St}, Rel K F A ε (wipe σ vs) fp → (∀ v ∈ vs, v < ε.length → ε[v]? = some none) → Rel K F A ε σ fp
  | [], _, q, _ => q
  | v :: vs, σ, q, h => by
    refine rel_unwipe (vs := vs) ?_ fun u hu => h u (by simp [hu])
    unfold wipe at q
    have hl := q.len
    rw [List.length_set] at hl
    rcases Nat.lt_or_ge v (wipe σ vs).length with z | z
    · have := q.free (i := v) (x := (wipe σ vs)[v]) (h v (by simp) (by rw [hl]; exact z))
      rw [List.set_set] at this
      rw [set_self (v := (wipe σ vs)[v]) (by simp [z])] at this
      exact this
    · rw [List.set_eq_of_length_le z] at q
      exact q
theorem wipe_agr {vs : List Nat} {σ σ2 : St} (g : Agr vs (wipe σ vs) σ2) : wipe σ2 vs = wipe σ vs := by
  have key : ∀ (a : St) (us : List Nat) (i : Nat), (wipe a us)[i]? = if i ∈ us ∧ i < a.length then some none else a[i]? := by
    intro a us
    induction us with
    | nil => intro i; simp [wipe]
    | cons u us ih =>
      intro i
      unfold wipe
      by_cases hu : u = i
      · subst hu
        by_cases hl : u < a.length
        · rw [List.getElem?_set_self (by rw [wipe_length]; exact hl)]; simp [hl]
        · rw [List.set_eq_of_length_le (by rw [wipe_length]; omega), ih u]; simp [hl]
      · rw [List.getElem?_set_ne hu, ih i]
        have : i ≠ u := fun z => hu z.symm
        simp [this]
  apply List.ext_getElem?
  intro i
  have gl : σ2.length = σ.length := by rw [g.1, wipe_length]
  rw [key σ2 vs i, key σ vs i, gl]
  by_cases hi : i ∈ vs
  · by_cases hl : i < σ.length
    · simp [hi, hl]
    · rw [List.getElem?_eq_none (l := σ2) (by omega), List.getElem?_eq_none (l := σ) (by omega)]
  · have := g.2 i hi
    rw [key σ vs i] at this
    simp [hi] at this ⊢
    exact this
end
/-- the block's own names stand again as they stood, where they stood for data -/
def restE : List Nat → Env → Env → Env
  | [], _, ε => ε
  | v :: vs, ε0, ε => match ε0[v]?, (restE vs ε0 ε)[v]? with
    | some (some (.dat d)), some none => (restE vs ε0 ε).set v (some (.dat d))
    | _, _ => restE vs ε0 ε
theorem rel_rest {F A F0 A0 : Hp} {ε0 ε : Env} {σ : St} {fp0 fp : List Addr} (q0 : Rel K F0 A0 ε0 σ fp0) (s : Same F0 F) (q : Rel K F A ε σ fp) : ∀ (vs : List Nat), ∃ fp', Rel K F A (restE vs ε0 ε) σ fp' ∧ fp'.Perm fp
  | [] => ⟨fp, q, .refl _⟩
  | v :: vs => by
    obtain ⟨fp1, q1, p1⟩ := rel_rest q0 s q vs
    unfold restE
    split
    · rename_i d e1 e2
      obtain ⟨x, ps, fpx, h1, h2, -, -⟩ := q0.get e1
      cases h2 with
      | dat h2 =>
        obtain ⟨fp2, q2, p2⟩ := q1.back e2 h1 (.dat (dp_mono s h2))
        exact ⟨fp2, q2, by simpa using p2.trans p1⟩
    · exact ⟨fp1, q1, p1⟩
def lcGo (vs : List Nat) (mg : mG) (mt : mT) (me : mB) : List PyData → Env → List PyData → Option (List PyData × Env)
  | [], ε, acc => some (acc, ε)
  | d :: ds, ε, acc => match mg (.dat d) ε with
    | some ε1 => match mt ε1 with
      | some (true, ε2) => match me ε2 with
        | some (r, ε3) => match frzR r ε3 with
          | some (y, ε4) => if acc.length ≤ lim then lcGo vs mg mt me ds (wipeE ε4 vs) (acc ++ [y]) else none
          | none => none
        | none => none
      | some (false, ε2) => lcGo vs mg mt me ds (wipeE ε2 vs) acc
      | none => none
    | none => none
def mLc (vs : List Nat) (mi : mI) (mg : mG) (mt : mT) (me : mB) : mB := fun ε => match mi ε with
  | some (ds, ε1) => match lcGo vs mg mt me ds (wipeE ε1 vs) [] with
    | some (acc, ε2) => some (.val (.lst (acc.map .dat)), restE vs ε1 ε2)
    | none => none
  | none => none
def LcInv (K : PySem.W.Frag) (vs : List Nat) (fp : List Addr) (F A F1 : Hp) (σ : St) (mg : mG) (mt : mT) (me : mB) (ds : List PyData) (res : List PyData) (ε' : Env) (p : Addr) (i : Nat) (H' : Hp) : Prop :=
  ∃ F' A' fp' ε2 av acc, Wd F' A' H' ∧ A' p = some (.lst av) ∧ DpAll K F' av acc ∧ Step fp (fp' ++ [p]) F A F' A' ∧ (fp' ++ [p]).Nodup ∧ Same F1 F' ∧ Rel K F' A' ε2 (wipe σ vs) fp' ∧ (∀ v ∈ vs, v < ε2.length → ε2[v]? = some none) ∧ lcGo vs mg mt me (ds.drop i) ε2 acc = some (res, ε')
theorem sn_lc {vs : List Nat} {wi : TI} {mi : mI} {g : TG} {mg : mG} {tt : TT} {mt : mT} (hi : SnI K wi mi) (hg : SnG K vs g mg) (ht : SnT K tt mt) (he : Sn K te me) : Sn K (tLc wi g tt te vs) (mLc vs mi mg mt me) := fun ε rr ε' σ F A fp P e q n k => by
  unfold mLc at e
  split at e
  · rename_i ds ε1 e1
    split at e
    · rename_i res ε2 e2
      cases e
      intro H w Q c
      refine hi ε ds ε1 σ F A fp H e1 q n w _ fun J F1 A1 fp1 H1 w1 s1 n1 q1 wk p hp => ?_
      have hF := w1.fn hp
      have hA := w1.an hp
      refine lc_it wk (LcInv K vs fp F A F1 σ mg mt me ds res ε2 p) ?_ ?_ ?_ ?_
      · obtain ⟨fp2, q2, sb⟩ := rel_wipe q1 vs
        have st : Step [] [p] F1 A1 F1 (upd A1 p (.lst [])) := ⟨Same.refl _, fun x u _ e => by rw [upd_ne (ne_of_none e hA)]; exact e, fun x hx => by simp at hx; subst hx; exact .inr hA⟩
        obtain ⟨g1, g2⟩ := st.grow q2.in (sb.nodup n1) (by simp)
        refine ⟨F1, upd A1 p (.lst []), fp2, wipeE ε1 vs, [], [], w1.newA hp, upd_same, .nil, (s1.sub fun x hx => sb.subset hx).trans g1, g2, Same.refl _, q2.grow st, fun v hv hl => wipeE_at hv (by rw [wipeE_len] at hl; exact hl), by simpa using e2⟩
      · rintro i H2 _ ⟨F2, A2, _, _, _, _, w2, _, _, _, _, s12, _⟩
        exact ⟨F2, A2, w2, s12⟩
      · rintro i x H2 H3 hl ⟨F2, A2, fp2, ε3, av, acc, w2, hav, hda, s2, n2, s12, q2, hz, e3⟩ y
        obtain ⟨F3, w3, s3, d, ed, dd⟩ := y F2 A2 w2 s12
        have hdrop : ds.drop i = d :: ds.drop (i + 1) := by
          have hx : ds[i] = d := by
            have := ed
            rw [List.getElem?_eq_getElem hl] at this
            exact Option.some.inj this
          rw [← hx]
          exact List.drop_eq_getElem_cons hl
        rw [hdrop] at e3
        unfold lcGo at e3
        have q3 : Rel K F3 A2 ε3 (wipe σ vs) fp2 := q2.mono s3 fun x hx u e => e
        have s3' : Step fp (fp2 ++ [p]) F A F3 A2 := s2.trans ⟨s3, fun x u _ e => e, fun x hx => .inl hx⟩
        have nf2 := (List.nodup_append.mp n2).1
        split at e3
        · rename_i ε4 e4
          refine hg (.dat d) ε3 ε4 x (wipe σ vs) F3 A2 fp2 [] (fun σ4 F4 A4 => ∃ fp4, Step fp2 fp4 F3 A2 F4 A4 ∧ fp4.Nodup ∧ Rel K F4 A4 ε4 σ4 fp4 ∧ Agr vs (wipe σ vs) σ4) e4 q3 (.dat dd) (nod' nf2)
            (fun σ4 F4 A4 fp4 s4 n4 q4 g4 => ⟨fp4, by rw [List.append_nil] at s4; exact s4, n4, q4, g4⟩) H3 w3 _ (fun σ4 F4 A4 H4 w4 ⟨fp4, s4, n4, q4, g4⟩ => ?_)
          refine ⟨wipe_agr g4, ?_⟩
          have ip : InA A2 [p] := fun z hz => by simp at hz; subst hz; exact ⟨_, hav⟩
          obtain ⟨a4, m4⟩ := s4.apart ip n2 n4
          have hav4 : A4 p = some (.lst av) := s4.keep n2 p (by simp) _ hav
          cases h : mt ε4 with
          | none => simp only [h] at e3; cases e3
          | some bb =>
            obtain ⟨b, ε5⟩ := bb
            refine ht ε4 b ε5 σ4 F4 A4 fp4 (fun b' F5 A5 => b' = b ∧ ∃ fp5, Step fp4 fp5 F4 A4 F5 A5 ∧ fp5.Nodup ∧ Rel K F5 A5 ε5 σ4 fp5) h q4 n4 (fun F5 A5 fp5 s5 n5 q5 => ⟨rfl, fp5, s5, n5, q5⟩) H4 w4 _ (fun b' F5 A5 H5 w5 ⟨eb, fp5, s5, n5, q5⟩ => ?_)
            subst eb
            have ip4 : InA A4 [p] := fun z hz => by simp at hz; subst hz; exact ⟨_, hav4⟩
            obtain ⟨a5, m5⟩ := s5.apart ip4 m4 n5
            have hav5 : A5 p = some (.lst av) := s5.keep m4 p (by simp) _ hav4
            have hda5 : DpAll K F5 av acc := dps_mono ((s3.trans s4.s).trans s5.s) hda
            have sF5 : Same F1 F5 := ((s12.trans s3).trans s4.s).trans s5.s
            cases b' with
            | false =>
              simp only [h] at e3
              refine iteF ?_
              obtain ⟨fp6, q6, sb⟩ := rel_wipe q5 vs
              rw [wipe_agr g4] at q6
              have nn : (fp6 ++ [p]).Nodup := List.Sublist.nodup (List.Sublist.append sb (.refl _)) m5
              refine ⟨F5, A5, fp6, wipeE ε5 vs, av, acc, w5, hav5, hda5, ((s3'.trans a4).trans a5).sub fun z hz => ?_, nn, sF5, q6, fun v hv hl => wipeE_at hv (by rw [wipeE_len] at hl; exact hl), e3⟩
              rcases List.mem_append.mp hz with z1 | z1
              · simp [sb.subset z1]
              · simp at z1; simp [z1]
            | true =>
              simp only [h] at e3
              refine iteT ?_
              split at e3
              · rename_i r ε6 e6
                refine he.fact e6 q5 n5 H5 w5 _ fun yv F6 A6 H6 w6 ⟨fp6, np6, s6, n6, q6, x6⟩ => ?_
                have ip5 : InA A5 [p] := fun z hz => by simp at hz; subst hz; exact ⟨_, hav5⟩
                have n6' : ((fp6 ++ np6)).Nodup := n6
                obtain ⟨a6, m6⟩ := s6.apart ip5 m5 n6'
                have hav6 : A6 p = some (.lst av) := s6.keep m5 p (by simp) _ hav5
                split at e3
                · rename_i yd ε7 e7
                  split at e3
                  · rename_i hlim
                    obtain ⟨F7, A7, fp7, w7, s7, n7, q7, d7⟩ := frz_res w6 q6 n6 x6 e7
                    have ip6 : InA A6 [p] := fun z hz => by simp at hz; subst hz; exact ⟨_, hav6⟩
                    obtain ⟨a7, m7⟩ := s7.apart ip6 m6 n7
                    have hav7 : A7 p = some (.lst av) := s7.keep m6 p (by simp) _ hav6
                    have hda7 : DpAll K F7 av acc := dps_mono (s6.s.trans s7.s) hda5
                    refine ⟨av, w7.a _ _ hav7, by rw [dps_len hda7]; exact lim_lt hlim, ?_⟩
                    obtain ⟨fp8, q8, sb⟩ := rel_wipe q7 vs
                    rw [wipe_agr g4] at q8
                    have nn : (fp8 ++ [p]).Nodup := List.Sublist.nodup (List.Sublist.append sb (.refl _)) m7
                    have q9 : Rel K F7 (upd A7 p (.lst (av ++ [yv]))) (wipeE ε7 vs) (wipe σ vs) fp8 := q8.mono (Same.refl _) fun z hz u e => by
                      rw [upd_ne fun zz => (List.nodup_append.mp nn).2.2 z hz p (by simp) zz]; exact e
                    refine ⟨F7, upd A7 p (.lst (av ++ [yv])), fp8, wipeE ε7 vs, av ++ [yv], acc ++ [yd], w7.put hav7, upd_same, dps_app hda7 (.cons d7 .nil), ?_, nn, sF5.trans (s6.s.trans s7.s), q9, fun v hv hl => wipeE_at hv (by rw [wipeE_len] at hl; exact hl), e3⟩
                    have sz : Step (fp7 ++ [p]) (fp7 ++ [p]) F7 A7 F7 (upd A7 p (.lst (av ++ [yv]))) := ⟨Same.refl _, fun z u hz e => by rw [upd_ne fun zz => hz (by simp [zz])]; exact e, fun z hz => .inl hz⟩
                    refine (((((s3'.trans a4).trans a5).trans a6).trans a7).trans sz).sub fun z hz => ?_
                    rcases List.mem_append.mp hz with z1 | z1
                    · simp [sb.subset z1]
                    · simp at z1; simp [z1]
                  · cases e3
                · cases e3
              · cases e3
        · cases e3
      · rintro H2 ⟨F2, A2, fp2, ε3, av, acc, w2, hav, hda, s2, n2, s12, q2, hz, e3⟩
        simp only [List.drop_length, lcGo] at e3
        cases e3
        have q3 := rel_unwipe q2 hz
        obtain ⟨fp3, q4, p4⟩ := rel_rest q1 s12 q3 vs
        have pp : (fp3 ++ [p]).Perm (fp2 ++ [p]) := List.Perm.append_right _ p4
        exact c _ _ _ _ w2 (k _ F2 A2 fp3 [p] (s2.sub fun z hz => pp.mem_iff.mp hz) (pp.nodup_iff.mpr n2) q4 (.lst hav (rpAll_dat hda)))
    · cases e
  · cases e
end
end M
namespace M
open PySem PySem.Spec L2 Z
section
variable {K : PySem.W.Frag} {ta tb tc te to ti : TE} {ma mb mc me mo mi : mB} {t : TA} {m : mA} {W : List Nat} {ts us : TS} {ms mu : mS}
/-! ### list(range(..)) -/
def mLRg1 (ma : mB) : mB := fun ε => match ma ε with
  | some (.val (.dat (.int j)), ε1) => if -(2 ^ 62) ≤ j ∧ j < 2 ^ 62 ∧ j.toNat ≤ 2 ^ 24 then some (.val (.lst ((intsD 0 j.toNat).map .dat)), ε1) else none
  | _ => none
theorem dps_rg {F : Hp} (a b : Int) : DpAll K F (rgV a b) (intsD a (b - a).toNat) := by
  unfold rgV intsD
  generalize (b - a).toNat = n
  have : ∀ l : List Nat, DpAll K F (l.map fun i => V.int (a + (i : Nat))) (l.map fun k => PyData.int (a + (k : Nat))) := fun l => by
    induction l with
    | nil => exact .nil
    | cons x xs ih => exact .cons (.int _) ih
  exact this _
theorem sn_lrg1 (ha : Sn K ta ma) : Sn K (tLstRg (tRg1 ta)) (mLRg1 ma) := fun ε rr ε' σ F A fp P e q n k => by
  unfold mLRg1 at e
  split at e
  · rename_i j ε1 e1
    split at e
    · rename_i hj
      cases e
      intro H w Q c
      refine ha.fact e1 q n H w _ fun v F1 A1 H1 w1 ⟨fp1, np1, s1, n1, q1, x1⟩ => ?_
      cases x1 with
      | dat x1 =>
        cases dp_int x1
        refine ⟨j, rfl, ⟨by decide, by decide, hj.1, hj.2.1, by rw [Int.sub_zero]; exact hj.2.2⟩, fun p hp => ?_⟩
        have d := dps_rg (K := K) (F := F1) 0 j
        rw [Int.sub_zero] at d
        have hA := w1.an hp
        have st : Step [] [p] F1 A1 F1 (upd A1 p (.lst (rgV 0 j))) := ⟨Same.refl _, fun x u _ e => by rw [upd_ne (ne_of_none e hA)]; exact e, fun x hx => by simp at hx; subst hx; exact .inr hA⟩
        rw [List.append_nil] at s1 n1
        obtain ⟨g1, g2⟩ := st.grow q1.in n1 (by simp)
        exact c _ _ _ _ (w1.newA hp) (k _ _ _ fp1 [p] (s1.trans g1) g2 (q1.grow st) (.lst upd_same (rpAll_dat d)))
    · cases e
  · cases e
/-! ### a def -/
def outs (W : List Nat) : Nat → List O → Env → List (Option O)
  | _, [], _ => []
  | i, o :: os, e :: ε => (if W.contains i then (match o with
    | .dat d => some (.dat d)
    | _ => none) else e) :: outs W (i + 1) os ε
  | i, _ :: os, [] => none :: outs W (i + 1) os []
def mDef (j n : Nat) (W : List Nat) (b : mS) : mF := fun os => if os.length = j then (match b (os.map some ++ List.replicate (n - j) none) with
  | some (.ret o, ε) => some (o, outs W 0 os ε)
  | some (.nx, ε) => some (.dat .none, outs W 0 os ε)
  | _ => none) else none
theorem mDef_len {j n : Nat} {b : mS} {os : List O} {r : O × List (Option O)} (h : mDef j n W b os = some r) : os.length = j := by
  unfold mDef at h
  split at h
  · assumption
  · cases h
theorem outs_rel {F0 A0 F A : Hp} (s : Same F0 F) : ∀ {os : List O} {vs : List V} {ps : List Addr} {ε : Env} {σ : St} {fp : List Addr} {i : Nat}, RpAll K F0 A0 vs os ps → Rel K F A ε σ fp →
    (∀ l, i + l ∉ W → l < vs.length → σ[l]? = (vs.map some)[l]?) → ∃ fp', Rel K F A (outs W i os ε) (vs.map some) fp' ∧ fp'.Sublist fp
  | [], _, _, ε, σ, fp, i, h, q, g => by
    cases h
    exact ⟨[], by unfold outs; exact .nil, List.nil_sublist _⟩
  | o :: os, _, _, [], σ, fp, i, h, q, g => by
    cases h with
    | cons h hs =>
      cases q
      obtain ⟨fp', h1, h2⟩ := outs_rel (σ := []) (ε := []) (fp := []) (i := i + 1) s hs .nil fun l hl hv => by
        have := g (l + 1) (by rw [← Nat.add_assoc, Nat.add_right_comm]; exact hl) (by simp; exact hv)
        simpa using this
      exact ⟨fp', by unfold outs; exact h1.un, h2⟩
  | o :: os, _, _, e :: ε, σ, fp, i, h, q, g => by
    cases h with
    | cons h hs =>
      rename_i v vs ps qs
      have g' : ∀ (σ' : St) (s0 : Option V), σ = s0 :: σ' → ∀ l, i + 1 + l ∉ W → l < vs.length → σ'[l]? = (vs.map some)[l]? := fun σ' s0 e l hl hv => by
        have := g (l + 1) (by rw [← Nat.add_assoc, Nat.add_right_comm]; exact hl) (by simp; exact hv)
        subst e
        simpa using this
      cases q with
      | un q =>
        obtain ⟨fp', h1, h2⟩ := outs_rel s hs q (g' _ _ rfl)
        unfold outs
        split
        · split
          · cases h with
            | dat h => exact ⟨_, .va (.dat (dp_mono s h)) h1, by simpa using h2⟩
          · exact ⟨fp', h1.un, h2⟩
        · exact ⟨fp', h1.un, h2⟩
      | va q qs' =>
        obtain ⟨fp', h1, h2⟩ := outs_rel s hs qs' (g' _ _ rfl)
        unfold outs
        split
        · split
          · cases h with
            | dat h => exact ⟨_, .va (.dat (dp_mono s h)) h1, by simpa using h2.trans (List.sublist_append_right _ _)⟩
          · exact ⟨fp', h1.un, h2.trans (List.sublist_append_right _ _)⟩
        · rename_i hw
          have := g 0 (by simpa using hw) (by simp)
          simp at this
          subst this
          exact ⟨_, .va q h1, List.Sublist.append (.refl _) h2⟩
theorem rel_start {F A : Hp} : ∀ {vs : List V} {os : List O} {ps : List Addr} {l : Nat}, RpAll K F A vs os ps → Rel K F A (os.map some ++ List.replicate l none) (vs.map some ++ List.replicate l none) ps
  | _, _, _, l, .nil => by
    induction l with
    | zero => exact .nil
    | succ l ih => exact ih.un
  | _, _, _, l, .cons h hs => .va h (rel_start hs)
theorem body_ok {j n : Nat} {N : List Str} {vs : List V} {H : Hp} {Q : VK} {E : XK} {mb : mS} (hs : SnS K W ts mb) (hN : N.length = n) (h : conc (saM K j (mDef j n W mb)) vs H Q E) : ts { nx := fun _ H' => Q .non H', rt := Q } (L2.start N vs) H := by
  obtain ⟨F, A, P, w, ⟨os, o, os', ps, e, hl, r, nd, kk⟩, c⟩ := h
  have hv : vs.length = j := by rw [r.len]; exact hl
  have q0 : Rel K F A (os.map some ++ List.replicate (n - j) none) (L2.start N vs) ps := by
    unfold L2.start
    rw [hN, hv]
    exact rel_start r
  have fin : ∀ (f : Fl) (ε : Env), mb (os.map some ++ List.replicate (n - j) none) = some (f, ε) → os' = outs W 0 os ε → (f = .ret o ∨ f = .nx ∧ o = .dat .none) → ts { nx := fun _ H' => Q .non H', rt := Q } (L2.start N vs) H := fun f ε e1 e2 hf => by
    subst e2
    refine hs _ f ε _ F A ps { nx := fun _ F A => P .non F A, rt := P } e1 q0 nd (fun σ' F' A' fp' np s' n' q' g' => ?_) H w _ ⟨fun σ F A H w q => c _ _ _ _ w q, c, fun _ _ _ _ _ h => h.elim, fun _ _ _ _ _ h => h.elim⟩
    obtain ⟨fp2, q2, sb⟩ := outs_rel (W := W) (i := 0) s'.s r q' fun l hl hv => by
      rw [Nat.zero_add] at hl
      rw [g'.2 l hl]
      unfold L2.start
      rw [List.getElem?_append_left (by simpa using hv)]
    have s2 : Step ps (fp2 ++ np) F A F' A' := s'.sub fun x hx => by
      rcases List.mem_append.mp hx with z | z
      · simp [sb.subset z]
      · simp [z]
    have n2 : (fp2 ++ np).Nodup := List.Sublist.nodup (List.Sublist.append sb (.refl _)) n'
    rcases hf with rfl | ⟨rfl, rfl⟩
    · exact fun v hv => kk v F' A' fp2 np s2 n2 q2 hv
    · exact kk .non F' A' fp2 [] (s2.sub fun x hx => by simp at hx; simp [hx]) (nod' (List.nodup_append.mp n2).1) q2 (.dat .non)
  unfold mDef at e
  rw [if_pos hl] at e
  split at e
  · rename_i o' ε e1
    cases e
    exact fin _ _ e1 rfl (.inl rfl)
  · rename_i ε e1
    cases e
    exact fin _ _ e1 rfl (.inr ⟨rfl, rfl⟩)
  · cases e
theorem saM_len {j : Nat} {mf : mF} {vs : List V} {H : Hp} {Q : VK} {E : XK} (h : conc (saM K j mf) vs H Q E) : vs.length = j := by
  obtain ⟨F, A, P, w, ⟨os, o, os', ps, e, hl, r, nd, kk⟩, c⟩ := h
  rw [r.len]; exact hl
end
/-- a def that may be called -/
def Cal (P : Program) (w : World) (K : PySem.W.Frag) (mg : Str → Option Value) (base : Heap) (k : Nat) (x : Str) (ps : List Str) (n : Nat) (mf : mF) : Prop :=
  ∃ f fd, FnOk P w K mg base CX0 k f fd ps (conc (saM K n mf)) ∧ mg x = some (.ref f) ∧ PySem.W.keepIn K (.ref f) = true ∧ Binds K fd ps []
theorem Cal.mk {P : Program} {w : World} {K : PySem.W.Frag} {mg : Str → Option Value} {base : Heap} {k n : Nat} {x qual : Str} {ps : List Str} {mf : mF} {st : Stmt} {f : Addr} {fd : FuncData} (h : FnOk P w K mg base CX0 k f fd ps (conc (saM K n mf))) (F : Fun K x qual st f fd) (hm : mg x = some (.ref f))
    (hb : ∀ (kV doc pm : Value) (an : Option Addr) (cdv ct : Value) (us : List Value), us.length = ps.length → bindArgs (PySem.W.fnOf x qual (defArgs st) (defBody st) (defScope st) .none kV doc pm an cdv ct) ⟨us, []⟩ = pure (ps.zip us)) : Cal P w K mg base k x ps n mf :=
  ⟨f, fd, h, hm, F.kp, F.binds hb⟩
/-- the law's start: the script is data -/
theorem law_start {K : PySem.W.Frag} {mf : mF} (h : ∀ ns : List Int, ns.length ≤ 63 → ∃ os', mf [.dat (.list (ns.map .int))] = some (.dat (.bool true), os')) {H : Hp} {a : Addr} {ns : List Int} (hl : ns.length ≤ 63) (hS : SqL K H a (ns.map V.int)) :
    conc (saM K 1 mf) [.ref a] H (fun v _ => v = .bl true) fun _ _ _ => False := by
  obtain ⟨os', e⟩ := h ns hl
  have d : ∀ l : List Int, DpAll K H (l.map V.int) (l.map PyData.int) := fun l => by
    induction l with
    | nil => exact .nil
    | cons x xs ih => exact .cons (.int _) ih
  have r : RpAll K H (fun _ => none) [.ref a] [.dat (.list (ns.map .int))] [] := by
    have := RpAll.cons (A := fun _ => none) (Rp.dat (.lst hS (d ns))) (.nil (K := K) (F := H))
    simpa using this
  refine ⟨H, fun _ => none, fun v _ _ => v = .bl true, ⟨Same.refl _, fun _ _ h => (by cases h), fun _ _ h => (by cases h)⟩, ⟨_, _, os', [], e, rfl, r, by simp, fun v F' A' fp' np _ _ _ hv => ?_⟩, fun v F A H w q => q⟩
  cases hv with
  | dat hv => exact dp_bl hv
end M
namespace M
open PySem PySem.Spec L2 Z
/-! ### t[::-1] of a tuple: the library has it of lists alone -/
section
variable {prog : Program} {w : World} {A : Around} {E : Value → Shared → Prop} {s : Shared} {t sl : Addr} {its : Array Value} {vl vu vs : Value} {Q : Value → Shared → Prop}
/-- where a backward slice of the whole goes: from the last one on, by -1, as many as there are -/
theorem back_places {n : Nat} {R : Int × Int × Nat → Shared → Prop} (hs : s.heap.IsSliceOf sl vl vu vs) (a : IsPart vl none) (b : IsPart vu none) (c : IsPart vs (some (-1))) (r : R ((n : Int) - 1, -1, n) s) :
    wpAny (model prog w) A (Builtin.Slice.sliceApplied (.ref sl) (pure (n : Int))) R E s := by
  have count : Builtin.Slice.slicePlaces ((n : Int) - 1) (-1) (-1) = n := by
    simp only [Builtin.Slice.slicePlaces]
    cases n with
    | zero => rfl
    | succ m =>
      have : ((m + 1 : Nat) : Int) - 1 > -1 := by omega
      simp [this]
      omega
  rcases hs with ⟨ob, g1, _, g3⟩
  cases a; cases b
  cases c with
  | int _ tk =>
    have three : ∀ {G : Value × Value × Value → Shared → Prop}, G (.none, .none, .int (-1) tk) s → wpAny (model prog w) A (Builtin.Slice.sliceFields (.ref sl)) G E s := fun q => by
      have one : ∀ {j : Nat} {y : Value} {G : Value → Shared → Prop}, #[Value.none, Value.none, Value.int (-1) tk][j]? = some y → G y s → wpAny (model prog w) A (PySem.field (.ref sl) j) G E s := fun e q => wpAny_field g1 g3 e q
      unfold Builtin.Slice.sliceFields
      exact wpAny_bind (one rfl (wpAny_bind (one rfl (wpAny_bind (one rfl (wpAny_pure q))))))
    unfold Builtin.Slice.sliceApplied
    refine wpAny_bind (three (wpAny_bind (HT.slicePart_ (IsPart.int (-1) tk) ?_)))
    refine wpAny_bind (HT.slicePart_ IsPart.none (wpAny_bind (HT.slicePart_ IsPart.none (wpAny_bind (wpAny_pure (wpAny_pure ?_))))))
    show R ((n : Int) - 1, -1, Builtin.Slice.slicePlaces ((n : Int) - 1) (-1) (-1)) s
    rw [count]
    exact r
theorem fm_congr {α β : Type} {f g : α → Option β} : ∀ {l : List α}, (∀ x ∈ l, f x = g x) → l.filterMap f = l.filterMap g
  | [], _ => rfl
  | a :: l, h => by rw [List.filterMap_cons, List.filterMap_cons, h a (by simp), fm_congr (l := l) fun x hx => h x (by simp [hx])]
theorem fm_all (l : List Value) : (List.range l.length).filterMap (fun m => l[m]?) = l := by
  induction l with
  | nil => rfl
  | cons a l ih => simpa [List.range_succ_eq_map, Function.comp_def] using ih
theorem back_items (xs : Array Value) : ((List.range xs.size).filterMap fun (m : Nat) => xs[(((xs.size : Nat) : Int) - 1 + (m : Int) * (-1)).toNat]?) = xs.toList.reverse := by
  have e : ∀ m ∈ List.range xs.size, xs[(((xs.size : Nat) : Int) - 1 + (m : Int) * (-1)).toNat]? = xs.toList.reverse[m]? := fun m hm => by
    have hm' : m < xs.size := by simpa using hm
    have e1 : (((xs.size : Nat) : Int) - 1 + (m : Int) * (-1)).toNat = xs.size - 1 - m := by omega
    rw [e1, List.getElem?_reverse (by simpa using hm'), Array.length_toList, Array.getElem?_toList]
  rw [fm_congr e]
  simpa using fm_all xs.toList.reverse
/-- the item of a tuple at such a slice: a new tuple, the other way about -/
theorem back_tuple (ht : PyProof.Rows.IsTup s.heap t its) (hs : s.heap.IsSliceOf sl vl vu vs) (a : IsPart vl none) (b : IsPart vu none) (c : IsPart vs (some (-1))) (hz : its.size ≤ sizeLine)
    (q : Q (.ref s.heap.objs.size) { s with heap := s.heap.push { cls := .type "tuple", data := .seq its.toList.reverse.toArray } }) : wpAny (model prog w) A (getItem (.ref t) (.ref sl)) Q E s := by
  have tyS : s.TypeIs (.ref sl) "slice" := by obtain ⟨ob, g1, g2, _⟩ := hs; exact ⟨ob, g1, g2⟩
  have tyT := ht.typeIs
  have room : sizeOk (.seq its.toList.reverse.toArray) := by simpa [sizeOk] using hz
  have code : ∀ {B : Around} {G : PySem.Fin → Shared → Prop} {X : Value → Shared → Prop}, G (.done (.ret (.ref s.heap.objs.size))) { s with heap := s.heap.push { cls := .type "tuple", data := .seq its.toList.reverse.toArray } } →
      wpAny (model prog w) B (Builtin.«tuple.__getitem__» ⟨[.ref t, .ref sl], []⟩) G X s := fun {B G X} g => by
    unfold Builtin.«tuple.__getitem__»
    refine wpAny_bind (m := slotArgs _ _ _) (wpAny_pure (PyProof.Rows.tupleItemsOf_ ht ?_ |> wpAny_bind))
    refine wpAny_bind (wpAny_typeOf tyS ?_)
    rw [if_pos (by decide)]
    refine wpAny_bind (back_places hs a b c ?_)
    have notWhole : ¬ (((its.size : Nat) : Int) - 1 == 0 && (-1 : Int) == 1 && its.size == its.size) = true := by simp
    dsimp only
    rw [if_neg notWhole, back_items]
    exact wpAny_bind (m := Builtin.Tuple.tupleExact _) (wpAny_newObj_type (wpAny_pure g) room)
  unfold getItem
  exact wpAny_holding (wpAny_bind (wpAny_sequenceKey tyT (by decide) (wpAny_bind (wpAny_callSpecial?_slot tyT PyProof.Rows.slot_tuple_getitem
    (wpAny_call_entry PyProof.Rows.slot_tuple_getitem tyT PyProof.Rows.entry_tuple_getitem (code ⟨_, rfl, wpAny_pure q⟩) (PyProof.Rows.args_tuple_getitem _ _))))))
end
section
variable {X : Cx} {K : PySem.W.Frag}
/-- what t[::-1] asks: a tuple; it gives a new one -/
def rBack (K : PySem.W.Frag) (x : V) (H : Hp) (Q : VK) : Prop := ∃ a xs, x = .ref a ∧ SqT K H a xs ∧ ∀ p, H p = none → Q (.ref p) (upd H p (.tup xs.reverse))
/-- a slice's part that leaves the heap -/
theorem part_at {pins : List (Addr × Obj)} {σ : St} {H1 : Hp} {s1 : Shared} {oe : Option Expr} {tp : TO} {o : Option Int} {G : Value → Shared → Prop} (p : PO X oe tp) (I : Inv X pins σ H1 s1) (h : ∀ R : Option Int → Hp → Prop, R o H1 → tp σ H1 R)
    (k : ∀ v s2, Inv X pins σ H1 s2 → IsPart v o → G v s2) : wpAny (model X.prog X.w) X.A (evalPart oe X.env) G X.xe s1 :=
  thn (p.run pins s1 σ H1 (fun o' H' => o' = o ∧ H' = H1) I (h _ ⟨rfl, rfl⟩)) fun v s2 ⟨_, _, I2, ip, e1, e2⟩ => k v s2 (e2 ▸ I2) (e1 ▸ ip)
theorem pe_back {e : Expr} {te : TE} {j : Nat} {p1 p2 p3 p4 : Pos} (he : PE X e te) : PE X (.Subscript e (.Slice none none (some (.UnaryOp .USub (.Constant (.int 1) j p1) p2)) p3) p4) (tUn (rBack X.K) te) := by
  constructor
  intro pins s0 σ H0 Q I0 asked
  apply PyProof.Rows.Subscript_
  refine thn (he.run pins s0 σ H0 _ I0 asked) ?_
  rintro v s1 ⟨x, H1, I1, rx, a, xs, ex, hx, q⟩
  subst ex
  cases rx
  refine wpAny_Slice (part_at po_none I1 (fun _ r => r) fun vl s2 I2 pl => part_at po_none I2 (fun _ r => r) fun vu s3 I3 pu =>
    part_at (po_some (pe_un un_neg pe_int)) I3 (fun _ r => ⟨1, rfl, -1, rfl, r⟩) fun vs s4 I4 pv => ?_)
  have J : Inv X pins σ H1 { s4 with heap := s4.heap.push { cls := .type "slice", data := .fields #[vl, vu, vs] } } := I4.kept (t' := s4.toks) fun _ _ g => Heap.get?_push_of_some _ g
  obtain ⟨us, ru, tu, zu⟩ := J.tuple hx
  refine PyProof.Rows.tail_any (ops := [.ref a, .ref s4.heap.objs.size]) tu.typeIs PyProof.Rows.slot_tuple_getitem.lookup ?_ (by with_unfolding_all rfl)
  refine back_tuple tu (Heap.IsSliceOf.new _ vl vu vs) pl pu pv (by rw [List.size_toArray, ← ru.length]; exact zu) ?_
  refine ⟨.ref _, _, J.laid (t' := s4.toks) (o := .tup xs.reverse) (fun _ _ g => Heap.get?_push_of_some _ g) (Nat.le_refl _) ⟨?_, us.reverse, ru.reverse, ?_⟩, rfl, q _ (J.hok.fresh (Nat.le_refl _))⟩
  · simpa using zu
  · exact PyProof.Rows.IsTup.new _ _
theorem kpe_back (K : PySem.W.Frag) (hK : X.K = K) {e : Expr} {te : TE} {j : Nat} {p1 p2 p3 p4 : Pos} (he : PE X e te) : PE X (.Subscript e (.Slice none none (some (.UnaryOp .USub (.Constant (.int 1) j p1) p2)) p3) p4) (tUn (rBack K) te) := by subst hK; exact pe_back he
def pBack : O → Option O
  | .dat (.tuple ds) => some (.dat (.tuple ds.reverse))
  | _ => none
theorem dps_back {F : Hp} : ∀ {vs : List V} {ds : List D}, DpAll K F vs ds → DpAll K F vs.reverse ds.reverse
  | _, _, .nil => .nil
  | _, _, .cons h hs => by rw [List.reverse_cons, List.reverse_cons]; exact dps_app (dps_back hs) (.cons h .nil)
theorem um_back : UnM K (rBack K) pBack := fun oa o F A x ps P e r k => by
  unfold pBack at e
  split at e
  · cases e
    cases r with
    | dat r =>
      obtain ⟨a, xs, rfl, h1, h2⟩ := dp_tup r
      exact fun H w Q c => ⟨a, xs, rfl, st_mono w.f h1, fun p hp => c _ _ _ _ (w.newF hp) (k _ _ _ [] ⟨same_upd (w.fn hp), fun x u _ e => e, fun x hx => by cases hx⟩ (by simp) (.dat (.tup (.inl (.inl upd_same)) (dps_back (dps_mono (same_upd (w.fn hp)) h2)))))⟩
  · cases e
end
end M
namespace M
open PySem PySem.Spec L2 Z
/-! ### constants of the module -/
def isTy (s : String) : Value → Bool
  | .type n => n == s
  | _ => false
theorem isTy_eq {s : String} {v : Value} (h : isTy s v = true) : v = .type s := by
  unfold isTy at h
  split at h
  · rw [eq_of_beq h]
  · cases h
mutual
def constIn (K : PySem.W.Frag) : Nat → Value → D → Bool
  | 0, _, _ => false
  | _ + 1, .none, .none => true
  | _ + 1, .bool a, .bool b => a == b
  | _ + 1, .int i _, .int j => i == j
  | _ + 1, .str x _, .str y => x == y
  | n + 1, .ref a, .tuple ds => match K.lookup a with
    | some o => isTy "tuple" o.cls && (match o.data with
      | .seq its _ => decide (its.size ≤ sizeLine) && constAll K n its.toList ds
      | _ => false)
    | none => false
  | n + 1, .ref a, .list ds => match K.lookup a with
    | some o => isTy "list" o.cls && o.dict.isNone && (match o.data with
      | .seq its _ => decide (its.size ≤ sizeLine) && constAll K n its.toList ds
      | _ => false)
    | none => false
  | _ + 1, _, _ => false
def constAll (K : PySem.W.Frag) : Nat → List Value → List D → Bool
  | 0, _, _ => false
  | _ + 1, [], [] => true
  | n + 1, v :: vs, d :: ds => constIn K n v d && constAll K n vs ds
  | _ + 1, _, _ => false
end
section
variable {K : PySem.W.Frag} {F : Hp}
mutual
theorem const_rel : ∀ {n : Nat} {u : Value} {d : D}, constIn K n u d = true → ∃ v, RelV v u ∧ Dp K F v d
  | 0, _, _, h => by simp [constIn] at h
  | n + 1, u, d, h => by
    unfold constIn at h
    split at h
    · rename_i h0; cases h0
    · exact ⟨.non, rfl, .non⟩
    · rw [eq_of_beq h]; exact ⟨.bl _, rfl, .bl _⟩
    · rw [eq_of_beq h]; exact ⟨.int _, ⟨_, rfl⟩, .int _⟩
    · rw [eq_of_beq h]; exact ⟨.str _, ⟨_, rfl⟩, .str _⟩
    · rename_i n' a ds h0
      cases h0
      split at h
      · rename_i o e1
        rw [Bool.and_eq_true_iff] at h
        obtain ⟨h1, h2⟩ := h
        split at h2
        · rename_i its m e2
          rw [Bool.and_eq_true_iff] at h2
          obtain ⟨vs, r, d⟩ := const_all h2.2
          exact ⟨.ref a, rfl, .tup (.inr ⟨o, its, m, e1, isTy_eq h1, e2, of_decide_eq_true h2.1, r⟩) d⟩
        · cases h2
      · cases h
    · rename_i n' a ds h0
      cases h0
      split at h
      · rename_i o e1
        rw [Bool.and_eq_true_iff, Bool.and_eq_true_iff] at h
        obtain ⟨⟨h1, h3⟩, h2⟩ := h
        split at h2
        · rename_i its m e2
          rw [Bool.and_eq_true_iff] at h2
          obtain ⟨vs, r, d⟩ := const_all h2.2
          exact ⟨.ref a, rfl, .lst (.inr ⟨o, its, m, e1, isTy_eq h1, by simpa using h3, e2, of_decide_eq_true h2.1, r⟩) d⟩
        · cases h2
      · cases h
    · cases h
theorem const_all : ∀ {n : Nat} {us : List Value} {ds : List D}, constAll K n us ds = true → ∃ vs, Vals vs us ∧ DpAll K F vs ds
  | 0, _, _, h => by simp [constAll] at h
  | n + 1, us, ds, h => by
    unfold constAll at h
    split at h
    · rename_i h0; cases h0
    · exact ⟨[], .nil, .nil⟩
    · rename_i n' v vs d ds h0
      cases h0
      rw [Bool.and_eq_true_iff] at h
      obtain ⟨x, r, dx⟩ := const_rel h.1
      obtain ⟨xs, rs, dxs⟩ := const_all h.2
      exact ⟨x :: xs, .cons r rs, .cons dx dxs⟩
    · cases h
end
theorem const_ok {n : Nat} {a : Addr} {d : D} (h : constIn K n (.ref a) d = true) : Dp K F (.ref a) d := by
  obtain ⟨v, r, dv⟩ := const_rel (F := F) h
  have : v = .ref a := by
    cases v with
    | int i => obtain ⟨t, e⟩ := r; cases e
    | str i => obtain ⟨t, e⟩ := r; cases e
    | ref b => cases r; rfl
    | _ => first | (cases r; done) | (obtain ⟨t, e⟩ := r; cases e)
  rw [← this]; exact dv
end
end M
namespace M
open PySem PySem.Spec L2 Z
/-! ### the rules with the written part named (so that a comprehension's block can use them) -/
section
variable {X : Cx} (K : PySem.W.Frag) (hK : X.K = K)
include hK
theorem kAdd : OpR X (binaryOp .Add) (uAdd K) := by subst hK; exact oAdd
theorem kEq (hu : X.A.units + 64 < cLine) : OpR X (compareOp .Eq) (uEq K) := by subst hK; exact oEq hu
theorem kNe (hu : X.A.units + 64 < cLine) : OpR X (compareOp .NotEq) (uNe K) := by subst hK; exact oNe hu
theorem kIn (hu : X.A.units + 65 < cLine) : OpR X (compareOp .In) (uIn K) := by subst hK; exact oIn hu
theorem kNotIn (hu : X.A.units + 65 < cLine) : OpR X (compareOp .NotIn) (uNotIn K) := by subst hK; exact oNotIn hu
theorem kSl : SlR X (uSl K) := by subst hK; exact oSl
theorem kIx : IxR X (rIx K) := by subst hK; exact ix_seq
theorem kLen : CallR X (.builtin "len") (rLenQ K) := by subst hK; exact cLen
theorem kMin (hc : X.calm = true) : CallR X (.builtin "min") (uMin K) := by subst hK; exact cMin hc
theorem kMax (hc : X.calm = true) : CallR X (.builtin "max") (uMax K) := by subst hK; exact cMax hc
theorem kList : CallR X (.type "list") (rListOf K) := by subst hK; exact cList
theorem kTuple : CallR X (.type "tuple") (rTupOf K) := by subst hK; exact cTuple
theorem kIsi : CallR X (.builtin "isinstance") (rIsi K) := by subst hK; exact cIsi
theorem kpg_tup {es : List Expr} {k : Nat} {t : TGs} {n : Nat} {pos : Pos} (hc : X.calm = true) (h : PGs X es t)
    (hn : (assignEach es X.env).length = n := by rfl) (hst : (assignEach es X.env).findIdx? (·.1) = none := by rfl) : PG X (.Tuple es k pos) (gTup K n t) := by subst hK; exact pg_tup hc h hn hst
theorem kpi_list {tg l : Expr} {tl : TE} (hl : PE X l tl) : PI X tg l (iList K tl) := by subst hK; exact pi_list hl
theorem kpi_tup {tg l : Expr} {tl : TE} (hl : PE X l tl) : PI X tg l (iTup K tl) := by subst hK; exact pi_tup hl
end
/-! ### x += n -/
section
variable {K : PySem.W.Frag}
def pAddI := int2 fun i j => some (.int (i + j))
theorem om_addI : OpM K (ipI fun i j => i + j) pAddI := om_int2 fun i j d F A P e k => by cases e; exact fun H w Q c => ⟨i, j, rfl, rfl, c _ _ _ _ w (k _ fun _ => .int _)⟩
theorem om_subI : OpM K (ipI fun i j => i - j) pSub := om_int2 fun i j d F A P e k => by cases e; exact fun H w Q c => ⟨i, j, rfl, rfl, c _ _ _ _ w (k _ fun _ => .int _)⟩
end
end M
namespace M
open PySem
/-! ### what a mirror comes to -/
def W1 {α : Type} (x : Option α) (P : α → Prop) : Prop := ∃ r, x = some r ∧ P r
def W2 {α β : Type} (x : Option (α × β)) (P : α → β → Prop) : Prop := ∃ r e, x = some (r, e) ∧ P r e
theorem W1.mono {α : Type} {x : Option α} {P Q : α → Prop} (h : W1 x P) (k : ∀ r, P r → Q r) : W1 x Q := by
  obtain ⟨r, e, q⟩ := h; exact ⟨r, e, k r q⟩
theorem W2.mono {α β : Type} {x : Option (α × β)} {P Q : α → β → Prop} (h : W2 x P) (k : ∀ r e, P r e → Q r e) : W2 x Q := by
  obtain ⟨r, e, q, z⟩ := h; exact ⟨r, e, q, k r e z⟩
theorem W2.eq {α β : Type} {x : Option (α × β)} {r : α} {e : β} {P : α → β → Prop} (h : x = some (r, e)) (k : P r e) : W2 x P := ⟨r, e, h, k⟩
theorem W2.to {α β : Type} {x : Option (α × β)} {a : α} {b : β} (h : W2 x fun r e => r = a ∧ e = b) : x = some (a, b) := by
  obtain ⟨r, e, h, rfl, rfl⟩ := h; exact h
theorem W1.eq {α : Type} {x : Option α} {r : α} {P : α → Prop} (h : x = some r) (k : P r) : W1 x P := ⟨r, h, k⟩
section
variable {ε : Env} {P : Rs → Env → Prop} {ma mb mc me mo mi : mB} {i : Nat} {d : D} {o oa ob : O}
theorem w_varD (h : M.slotAt ε i = some (.dat d)) (q : P (.val (.dat d)) ε) : W2 (mVar i ε) P := ⟨_, _, by simp only [mVar, h], q⟩
theorem w_varL {xs : List O} (h : M.slotAt ε i = some (.lst xs)) (q : P (.slot i) ε) : W2 (mVar i ε) P := ⟨_, _, by simp only [mVar, h], q⟩
theorem w_varT {xs : List O} (h : M.slotAt ε i = some (.tup xs)) (q : P (.slot i) ε) : W2 (mVar i ε) P := ⟨_, _, by simp only [mVar, h], q⟩
theorem w_varM {kvs : List (L2.Key × D)} (h : M.slotAt ε i = some (.dic kvs)) (q : P (.slot i) ε) : W2 (mVar i ε) P := ⟨_, _, by simp only [mVar, h], q⟩
theorem w_varK {kvs : List (L2.Key × D)} (h : M.slotAt ε i = some (.lck kvs)) (q : P (.slot i) ε) : W2 (mVar i ε) P := ⟨_, _, by simp only [mVar, h], q⟩
theorem w_c (q : P (.val (.dat d)) ε) : W2 (mC d ε) P := ⟨_, _, rfl, q⟩
theorem w_op2 {f : O → O → Option O} {a b : Rs} (ha : a.get ε = some oa) (hb : b.get ε = some ob) (h : W1 (f oa ob) fun o => P (.val o) ε) : W2 (op2 f a b ε) P := by
  obtain ⟨o, e, q⟩ := h
  exact ⟨.val o, ε, by simp only [op2, ha, hb, e], q⟩
theorem w_op {f : O → O → Option O} (h : W2 (ma ε) fun a ε1 => W2 (mb ε1) fun b ε2 => W2 (op2 f a b ε2) P) : W2 (mOp f ma mb ε) P := by
  obtain ⟨a, ε1, e1, b, ε2, e2, r, ε3, e3, q⟩ := h
  exact ⟨r, ε3, by simp only [mOp, e1, e2, e3], q⟩
theorem w_un {f : O → Option O} (h : W2 (ma ε) fun a ε1 => ∃ oa, a.get ε1 = some oa ∧ W1 (f oa) fun o => P (.val o) ε1) : W2 (mUn f ma ε) P := by
  obtain ⟨a, ε1, e1, oa, e2, o, e3, q⟩ := h
  exact ⟨.val o, ε1, by simp only [mUn, e1, e2, e3], q⟩
theorem w_isi {T : String} (h : W2 (ma ε) fun a ε1 => ∃ oa, a.get ε1 = some oa ∧ W1 (pIsi T oa) fun o => P (.val o) ε1) : W2 (mIsi T ma ε) P := w_un h
section
variable {PT : Bool → Env → Prop} {mt mu : mT}
theorem w_test (h : W2 (me ε) fun r ε1 => W1 (boolOf r) fun b => PT b ε1) : W2 (mTest me ε) PT := by
  obtain ⟨r, ε1, e1, b, e2, q⟩ := h
  exact ⟨b, ε1, by simp only [mTest, e1, e2], q⟩
theorem w_bool {b : Bool} {PB : Bool → Prop} (q : PB b) : W1 (boolOf (.val (.dat (.bool b)))) PB := ⟨b, rfl, q⟩
theorem w_and (h : W2 (mt ε) fun b ε1 => if b = true then W2 (mu ε1) PT else PT false ε1) : W2 (mAnd mt mu ε) PT := by
  obtain ⟨b, ε1, e1, q⟩ := h
  cases b with
  | true =>
    obtain ⟨c, ε2, e2, q⟩ := (show W2 (mu ε1) PT from by simpa using q)
    exact ⟨c, ε2, by simp only [mAnd, e1, e2], q⟩
  | false => exact ⟨false, ε1, by simp only [mAnd, e1], by simpa using q⟩
theorem w_or (h : W2 (mt ε) fun b ε1 => if b = true then PT true ε1 else W2 (mu ε1) PT) : W2 (mOr mt mu ε) PT := by
  obtain ⟨b, ε1, e1, q⟩ := h
  cases b with
  | true => exact ⟨true, ε1, by simp only [mOr, e1], by simpa using q⟩
  | false =>
    obtain ⟨c, ε2, e2, q⟩ := (show W2 (mu ε1) PT from by simpa using q)
    exact ⟨c, ε2, by simp only [mOr, e1, e2], q⟩
theorem w_not (h : W2 (mt ε) fun b ε1 => PT (!b) ε1) : W2 (mNot mt ε) PT := by
  obtain ⟨b, ε1, e1, q⟩ := h
  exact ⟨!b, ε1, by simp only [mNot, e1], q⟩
theorem w_yes (h : PT true ε) : W2 (mYes ε) PT := ⟨true, ε, rfl, h⟩
end
theorem w_andV (h : W2 (mTest ma ε) fun b ε1 => if b = true then W2 (mb ε1) P else P (.val (.dat (.bool false))) ε1) : W2 (mAndV ma mb ε) P := by
  obtain ⟨b, ε1, e1, q⟩ := h
  cases b with
  | true =>
    obtain ⟨c, ε2, e2, q⟩ := (show W2 (mb ε1) P from by simpa using q)
    exact ⟨c, ε2, by simp only [mAndV, e1, e2], q⟩
  | false => exact ⟨.val (.dat (.bool false)), ε1, by simp only [mAndV, e1], by simpa using q⟩
theorem w_orV (h : W2 (mTest ma ε) fun b ε1 => if b = true then P (.val (.dat (.bool true))) ε1 else W2 (mb ε1) P) : W2 (mOrV ma mb ε) P := by
  obtain ⟨b, ε1, e1, q⟩ := h
  cases b with
  | true => exact ⟨.val (.dat (.bool true)), ε1, by simp only [mOrV, e1], by simpa using q⟩
  | false =>
    obtain ⟨c, ε2, e2, q⟩ := (show W2 (mb ε1) P from by simpa using q)
    exact ⟨c, ε2, by simp only [mOrV, e1, e2], q⟩
theorem w_notV (h : W2 (mTest ma ε) fun b ε1 => P (.val (.dat (.bool (!b)))) ε1) : W2 (mNotV ma ε) P := by
  obtain ⟨b, ε1, e1, q⟩ := h
  exact ⟨_, ε1, by simp only [mNotV, e1], q⟩
theorem w_if {mt : mT} (h : W2 (mt ε) fun b ε1 => if b = true then W2 (ma ε1) P else W2 (mb ε1) P) : W2 (mIf mt ma mb ε) P := by
  obtain ⟨b, ε1, e1, q⟩ := h
  cases b with
  | true =>
    obtain ⟨c, ε2, e2, q⟩ := (show W2 (ma ε1) P from by simpa using q)
    exact ⟨c, ε2, by simp only [mIf, e1, e2], q⟩
  | false =>
    obtain ⟨c, ε2, e2, q⟩ := (show W2 (mb ε1) P from by simpa using q)
    exact ⟨c, ε2, by simp only [mIf, e1, e2], q⟩
theorem w_chain {f g : O → O → Option O} (h : W2 (ma ε) fun a ε1 => W2 (mb ε1) fun b ε2 => W2 (op2 f a b ε2) fun r ε3 => W1 (boolOf r) fun k => if k = true then W2 (mc ε3) fun c ε4 => W2 (op2 g b c ε4) P else P (.val (.dat (.bool false))) ε3) :
    W2 (mChain f g ma mb mc ε) P := by
  obtain ⟨a, ε1, e1, b, ε2, e2, r, ε3, e3, k, e4, q⟩ := h
  cases k with
  | true =>
    obtain ⟨c, ε4, e5, r2, ε5, e6, q⟩ := (show W2 (mc ε3) fun c ε4 => W2 (op2 g b c ε4) P from by simpa using q)
    exact ⟨r2, ε5, by simp only [mChain, e1, e2, e3, e4, e5, e6], q⟩
  | false => exact ⟨.val (.dat (.bool false)), ε3, by simp only [mChain, e1, e2, e3, e4], by simpa using q⟩
/-! arguments -/
section
variable {PA : List Rs → Env → Prop} {mr m : mA}
theorem w_nil (q : PA [] ε) : W2 (mNil ε) PA := ⟨_, _, rfl, q⟩
theorem w_cons (h : W2 (ma ε) fun a ε1 => W2 (mr ε1) fun rs ε2 => PA (a :: rs) ε2) : W2 (mCons ma mr ε) PA := by
  obtain ⟨a, ε1, e1, rs, ε2, e2, q⟩ := h
  exact ⟨_, ε2, by simp only [mCons, e1, e2], q⟩
theorem w_tup (h : W2 (m ε) fun rs ε1 => W2 (frzAll rs ε1) fun ds ε2 => ds.length ≤ lim ∧ P (.val (.dat (.tuple ds))) ε2) : W2 (mTup m ε) P := by
  obtain ⟨rs, ε1, e1, ds, ε2, e2, hl, q⟩ := h
  exact ⟨_, ε2, by simp only [mTup, e1, e2, if_pos hl], q⟩
theorem w_lst (h : W2 (m ε) fun rs ε1 => W2 (frzAll rs ε1) fun ds ε2 => ds.length ≤ lim ∧ P (.val (.lst (ds.map .dat))) ε2) : W2 (mLst m ε) P := by
  obtain ⟨rs, ε1, e1, ds, ε2, e2, hl, q⟩ := h
  exact ⟨_, ε2, by simp only [mLst, e1, e2, if_pos hl], q⟩
theorem w_call {mf : mF} (h : W2 (m ε) fun rs ε1 => W2 (outAll rs ε1) fun os ε2 => W2 (mf os) fun o os' => P (.val o) (inAll rs os' ε2)) : W2 (mCall mf m ε) P := by
  obtain ⟨rs, ε1, e1, os, ε2, e2, o, os', e3, q⟩ := h
  exact ⟨_, _, by simp only [mCall, e1, e2, e3], q⟩
theorem w_cb {f : List O → Option O} (h : W2 (m ε) fun rs ε1 => W1 (getAll rs ε1) fun os => W1 (f os) fun o => P (.val o) ε1) : W2 (mCB f m ε) P := by
  obtain ⟨rs, ε1, e1, os, e2, o, e3, q⟩ := h
  exact ⟨_, ε1, by simp only [mCB, e1, e2, e3], q⟩
end
/-! slices -/
section
variable {PO : Option Int → Env → Prop} {ml mh : mO}
theorem w_noPart (q : PO none ε) : W2 (mNoPart ε) PO := ⟨_, _, rfl, q⟩
theorem w_part (h : W2 (ma ε) fun r ε1 => ∃ j, r = .val (.dat (.int j)) ∧ PO (some j) ε1) : W2 (mPart ma ε) PO := by
  obtain ⟨r, ε1, e1, j, rfl, q⟩ := h
  exact ⟨_, ε1, by simp only [mPart, e1], q⟩
theorem w_sl (h : W2 (ma ε) fun a ε1 => W2 (ml ε1) fun l ε2 => W2 (mh ε2) fun u ε3 => ∃ oa, a.get ε3 = some oa ∧ W1 (pSl oa l u) fun o => P (.val o) ε3) : W2 (mSl ma ml mh ε) P := by
  obtain ⟨a, ε1, e1, l, ε2, e2, u, ε3, e3, oa, e4, o, e5, q⟩ := h
  exact ⟨_, ε3, by simp only [mSl, e1, e2, e3, e4, e5], q⟩
end
/-! statements -/
variable {PS : Fl → Env → Prop} {ms mu : mS}
def SeqK (K : Env → Prop) (PS : Fl → Env → Prop) : Fl → Env → Prop
  | .nx, ε => K ε
  | f, ε => PS f ε
theorem sk_nx {K : Env → Prop} (h : K ε) : SeqK K PS .nx ε := h
theorem sk_bk {K : Env → Prop} (h : PS .bk ε) : SeqK K PS .bk ε := h
theorem sk_ct {K : Env → Prop} (h : PS .ct ε) : SeqK K PS .ct ε := h
theorem sk_ret {K : Env → Prop} (h : PS (.ret o) ε) : SeqK K PS (.ret o) ε := h
def ForK (K : Env → Prop) (PS : Fl → Env → Prop) : Fl → Env → Prop
  | .nx, ε => K ε
  | .ct, ε => K ε
  | .bk, ε => PS .nx ε
  | .ret o, ε => PS (.ret o) ε
theorem fk_nx {K : Env → Prop} (h : K ε) : ForK K PS .nx ε := h
theorem fk_bk {K : Env → Prop} (h : PS .nx ε) : ForK K PS .bk ε := h
theorem fk_ct {K : Env → Prop} (h : K ε) : ForK K PS .ct ε := h
theorem fk_ret {K : Env → Prop} (h : PS (.ret o) ε) : ForK K PS (.ret o) ε := h
def DefK (W : List Nat) (os : List O) (PF : O → List (Option O) → Prop) : Fl → Env → Prop
  | .ret o, ε => PF o (outs W 0 os ε)
  | .nx, ε => PF (.dat .none) (outs W 0 os ε)
  | _, _ => False
theorem dk_ret {W : List Nat} {os : List O} {PF : O → List (Option O) → Prop} (h : PF o (outs W 0 os ε)) : DefK W os PF (.ret o) ε := h
theorem dk_nx {W : List Nat} {os : List O} {PF : O → List (Option O) → Prop} (h : PF (.dat .none) (outs W 0 os ε)) : DefK W os PF .nx ε := h
theorem w_seq (h : W2 (ms ε) (SeqK (fun ε1 => W2 (mu ε1) PS) PS)) : W2 (mSeq ms mu ε) PS := by
  obtain ⟨f, ε1, e1, q⟩ := h
  cases f with
  | nx =>
    obtain ⟨g, ε2, e2, q⟩ := q
    exact ⟨g, ε2, by simp only [mSeq, e1, e2], q⟩
  | bk => exact ⟨_, ε1, by simp only [mSeq, e1], q⟩
  | ct => exact ⟨_, ε1, by simp only [mSeq, e1], q⟩
  | ret o => exact ⟨_, ε1, by simp only [mSeq, e1], q⟩
theorem w_next (q : PS .nx ε) : W2 (mNext ε) PS := ⟨_, _, rfl, q⟩
theorem w_brk (q : PS .bk ε) : W2 (mBk ε) PS := ⟨_, _, rfl, q⟩
theorem w_cont (q : PS .ct ε) : W2 (mCt ε) PS := ⟨_, _, rfl, q⟩
theorem w_drop (h : W2 (me ε) fun _ ε1 => PS .nx ε1) : W2 (mDrop me ε) PS := by
  obtain ⟨r, ε1, e1, q⟩ := h
  exact ⟨_, ε1, by simp only [mDrop, e1], q⟩
theorem w_ret (h : W2 (me ε) fun r ε1 => W2 (outR r ε1) fun o ε2 => PS (.ret o) ε2) : W2 (mRet me ε) PS := by
  obtain ⟨r, ε1, e1, o, ε2, e2, q⟩ := h
  exact ⟨_, ε2, by simp only [mRet, e1, e2], q⟩
theorem w_retN (q : PS (.ret (.dat .none)) ε) : W2 (mRetN ε) PS := ⟨_, _, rfl, q⟩
theorem w_ifS {mt : mT} (h : W2 (mt ε) fun b ε1 => if b = true then W2 (ms ε1) PS else W2 (mu ε1) PS) : W2 (mIfS mt ms mu ε) PS := by
  obtain ⟨b, ε1, e1, q⟩ := h
  cases b with
  | true =>
    obtain ⟨c, ε2, e2, q⟩ := (show W2 (ms ε1) PS from by simpa using q)
    exact ⟨c, ε2, by simp only [mIfS, e1, e2], q⟩
  | false =>
    obtain ⟨c, ε2, e2, q⟩ := (show W2 (mu ε1) PS from by simpa using q)
    exact ⟨c, ε2, by simp only [mIfS, e1, e2], q⟩
theorem w_asg {mg : mG} (h : W2 (me ε) fun r ε1 => W2 (takR r ε1) fun o ε2 => W1 (mg o ε2) fun ε3 => PS .nx ε3) : W2 (mAsg me mg ε) PS := by
  obtain ⟨r, ε1, e1, o, ε2, e2, ε3, e3, q⟩ := h
  exact ⟨_, ε3, by simp only [mAsg, e1, e2, e3], q⟩
theorem w_set (h : W2 (me ε) fun r ε1 => W2 (takR r ε1) fun o ε2 => PS .nx (ε2.set i (some o))) : W2 (mSet i me ε) PS := by
  obtain ⟨r, ε1, e1, o, ε2, e2, q⟩ := h
  exact ⟨_, _, by simp only [mSet, mAsg, e1, e2, gN], q⟩
theorem w_aug {f : O → O → Option O} (h : W2 (mVar i ε) fun a ε0 => W2 (me ε0) fun b ε1 => W2 (op2 f a b ε1) fun r ε2 => ∃ o, r = .val o ∧ PS .nx (ε2.set i (some o))) : W2 (mAug i f me ε) PS := by
  obtain ⟨a, ε0, e0, b, ε1, e1, r, ε2, e2, o, rfl, q⟩ := h
  exact ⟨_, _, by simp only [mAug, e0, e1, e2], q⟩
theorem w_put (h : W2 (me ε) fun r ε1 => W2 (mo ε1) fun ro ε2 => W2 (mi ε2) fun ri ε3 => ∃ j k, ro = .slot j ∧ ri = .val (.dat (.int k)) ∧ W2 (frzR r ε3) fun d ε4 =>
    ∃ os ds n, M.slotAt ε4 j = some (.lst os) ∧ allDat os = some ds ∧ L2.ixN ds.length k = some n ∧ PS .nx (ε4.set j (some (.lst ((ds.set n d).map .dat))))) : W2 (mPutIx mo mi me ε) PS := by
  obtain ⟨r, ε1, e1, ro, ε2, e2, ri, ε3, e3, j, k, rfl, rfl, d, ε4, e4, os, ds, n, e5, e6, e7, q⟩ := h
  exact ⟨_, _, by simp only [mPutIx, e1, e2, e3, e4, e5, e6, e7], q⟩
theorem w_app {m : mA} (h : W2 (mo ε) fun ro ε1 => ∃ i xs, ro = .slot i ∧ M.slotAt ε1 i = some (.lst xs) ∧ W2 (m ε1) fun rs ε2 => ∃ r, rs = [r] ∧ W2 (frzR r ε2) fun d ε3 => ∃ os ds, M.slotAt ε3 i = some (.lst os) ∧ allDat os = some ds ∧ ds.length ≤ lim ∧
    P (.val (.dat .none)) (ε3.set i (some (.lst ((ds ++ [d]).map .dat))))) : W2 (mApp mo m ε) P := by
  obtain ⟨ro, ε1, e1, i, xs, rfl, e2, rs, ε2, e3, r, rfl, d, ε3, e4, os, ds, e5, e6, hl, q⟩ := h
  exact ⟨_, _, by simp only [mApp, e1, e2, e3, e4, e5, e6, if_pos hl], q⟩
theorem w_ext {m : mA} (h : W2 (mo ε) fun ro ε1 => ∃ i xs, ro = .slot i ∧ M.slotAt ε1 i = some (.lst xs) ∧ W2 (m ε1) fun rs ε2 => ∃ r, rs = [r] ∧ ∃ es' os ds es, r.get ε2 = some (.lst es') ∧ M.slotAt ε2 i = some (.lst os) ∧ allDat os = some ds ∧ allDat es' = some es ∧ ds.length + es.length ≤ lim ∧
    P (.val (.dat .none)) (ε2.set i (some (.lst ((ds ++ es).map .dat))))) : W2 (mExt mo m ε) P := by
  obtain ⟨ro, ε1, e1, i, xs, rfl, e2, rs, ε2, e3, r, rfl, es', os, ds, es, e4, e5, e6, e7, hl, q⟩ := h
  exact ⟨_, _, by simp only [mExt, e1, e2, e3, e4, e5, e6, e7, if_pos hl], q⟩
theorem w_for {mi : mI} {mg : mG} (h : W2 (mi ε) fun ds ε1 => W2 (forGo mg ms ds ε1) PS) : W2 (mFor mi mg ms ε) PS := by
  obtain ⟨ds, ε1, e1, f, ε2, e2, q⟩ := h
  exact ⟨f, ε2, by simp only [mFor, e1, e2], q⟩
/-- a loop by what holds ahead of each turn: I i ε, or it leaves -/
theorem w_forI {mg : mG} {ds : List D} (I : Nat → Env → Prop) (h0 : I 0 ε) (hd : ∀ ε, I ds.length ε → PS .nx ε)
    (hs : ∀ i d ε, ds[i]? = some d → I i ε → W1 (mg (.dat d) ε) fun ε1 => W2 (ms ε1) (ForK (fun ε2 => I (i + 1) ε2) PS)) : W2 (forGo mg ms ds ε) PS := by
  have key : ∀ (l : List D) (i : Nat) (ε : Env), ds.drop i = l → i ≤ ds.length → I i ε → W2 (forGo mg ms l ε) PS := by
    intro l
    induction l with
    | nil =>
      intro i ε hl hle hi
      have : ds.length ≤ i := by
        rcases Nat.lt_or_ge i ds.length with z | z
        · rw [List.drop_eq_getElem_cons z] at hl; cases hl
        · exact z
      have e : i = ds.length := by omega
      subst e
      exact ⟨.nx, ε, by simp only [forGo], hd ε hi⟩
    | cons d l ih =>
      intro i ε hl hle hi
      have hlt : i < ds.length := by
        rcases Nat.lt_or_ge i ds.length with z | z
        · exact z
        · rw [List.drop_eq_nil_of_le z] at hl; cases hl
      rw [List.drop_eq_getElem_cons hlt] at hl
      injection hl with h1 h2
      obtain ⟨ε1, e1, f, ε2, e2, q⟩ := hs i d ε (by rw [List.getElem?_eq_getElem hlt, h1]) hi
      cases f with
      | nx =>
        obtain ⟨g, ε3, e3, q⟩ := ih (i + 1) ε2 h2 (by omega) q
        exact ⟨g, ε3, by simp only [forGo, e1, e2, e3], q⟩
      | ct =>
        obtain ⟨g, ε3, e3, q⟩ := ih (i + 1) ε2 h2 (by omega) q
        exact ⟨g, ε3, by simp only [forGo, e1, e2, e3], q⟩
      | bk => exact ⟨_, ε2, by simp only [forGo, e1, e2], q⟩
      | ret o => exact ⟨_, ε2, by simp only [forGo, e1, e2], q⟩
  exact key ds 0 ε (by simp) (Nat.zero_le _) h0
/-- a comprehension by what holds ahead of each turn -/
theorem w_lcI {vs : List Nat} {mg : mG} {mt : mT} {ds : List D} {PL : List D → Env → Prop} (I : Nat → List D → Env → Prop) (h0 : I 0 [] ε) (hd : ∀ acc ε, I ds.length acc ε → PL acc ε)
    (hs : ∀ i d acc ε, ds[i]? = some d → I i acc ε → W1 (mg (.dat d) ε) fun ε1 => W2 (mt ε1) fun b ε2 => if b = true then W2 (me ε2) fun r ε3 => W2 (frzR r ε3) fun y ε4 => acc.length ≤ lim ∧ I (i + 1) (acc ++ [y]) (wipeE ε4 vs) else I (i + 1) acc (wipeE ε2 vs)) : W2 (lcGo vs mg mt me ds ε []) PL := by
  have key : ∀ (l : List D) (i : Nat) (acc : List D) (ε : Env), ds.drop i = l → i ≤ ds.length → I i acc ε → W2 (lcGo vs mg mt me l ε acc) PL := by
    intro l
    induction l with
    | nil =>
      intro i acc ε hl hle hi
      have : ds.length ≤ i := by
        rcases Nat.lt_or_ge i ds.length with z | z
        · rw [List.drop_eq_getElem_cons z] at hl; cases hl
        · exact z
      have e : i = ds.length := by omega
      subst e
      exact ⟨acc, ε, by simp only [lcGo], hd acc ε hi⟩
    | cons d l ih =>
      intro i acc ε hl hle hi
      have hlt : i < ds.length := by
        rcases Nat.lt_or_ge i ds.length with z | z
        · exact z
        · rw [List.drop_eq_nil_of_le z] at hl; cases hl
      rw [List.drop_eq_getElem_cons hlt] at hl
      injection hl with h1 h2
      obtain ⟨ε1, e1, b, ε2, e2, q⟩ := hs i d acc ε (by rw [List.getElem?_eq_getElem hlt, h1]) hi
      cases b with
      | true =>
        obtain ⟨r, ε3, e3, y, ε4, e4, hlim, q⟩ := (show W2 (me ε2) fun r ε3 => W2 (frzR r ε3) fun y ε4 => acc.length ≤ lim ∧ I (i + 1) (acc ++ [y]) (wipeE ε4 vs) from by simpa using q)
        obtain ⟨g, ε5, e5, q⟩ := ih (i + 1) (acc ++ [y]) _ h2 (by omega) q
        exact ⟨g, ε5, by simp only [lcGo, e1, e2, e3, e4, if_pos hlim, e5], q⟩
      | false =>
        obtain ⟨g, ε5, e5, q⟩ := ih (i + 1) acc _ h2 (by omega) (by simpa using q)
        exact ⟨g, ε5, by simp only [lcGo, e1, e2, e5], q⟩
  exact key ds 0 [] ε (by simp) (Nat.zero_le _) h0
theorem w_rng1 {m : mA} {PI : List D → Env → Prop} (h : W2 (m ε) fun rs ε1 => ∃ j, rs = [.val (.dat (.int j))] ∧ -(2 ^ 62) ≤ j ∧ j < 2 ^ 62 ∧ PI (intsD 0 j.toNat) ε1) : W2 (mRng1 m ε) PI := by
  obtain ⟨rs, ε1, e1, j, rfl, h1, h2, q⟩ := h
  exact ⟨_, ε1, by simp only [mRng1, e1, if_pos (And.intro h1 h2)], q⟩
theorem w_rng2 {m : mA} {PI : List D → Env → Prop} (h : W2 (m ε) fun rs ε1 => ∃ i j, rs = [.val (.dat (.int i)), .val (.dat (.int j))] ∧ (-(2 ^ 62) ≤ i ∧ i < 2 ^ 62 ∧ -(2 ^ 62) ≤ j ∧ j < 2 ^ 62) ∧ PI (intsD i (j - i).toNat) ε1) : W2 (mRng2 m ε) PI := by
  obtain ⟨rs, ε1, e1, i, j, rfl, h1, q⟩ := h
  exact ⟨_, ε1, by simp only [mRng2, e1, if_pos h1], q⟩
theorem w_iL {PI : List D → Env → Prop} (h : W2 (me ε) fun r ε1 => W2 (frzR r ε1) fun d ε2 => ∃ ds, d = .list ds ∧ PI ds ε2) : W2 (mIL me ε) PI := by
  obtain ⟨r, ε1, e1, d, ε2, e2, ds, rfl, q⟩ := h
  exact ⟨ds, ε2, by simp only [mIL, e1, e2], q⟩
theorem w_iT {PI : List D → Env → Prop} (h : W2 (me ε) fun r ε1 => W2 (frzR r ε1) fun d ε2 => ∃ ds, d = .tuple ds ∧ PI ds ε2) : W2 (mIT me ε) PI := by
  obtain ⟨r, ε1, e1, d, ε2, e2, ds, rfl, q⟩ := h
  exact ⟨ds, ε2, by simp only [mIT, e1, e2], q⟩
theorem w_lc {vs : List Nat} {mi : mI} {mg : mG} {mt : mT} (h : W2 (mi ε) fun ds ε1 => W2 (lcGo vs mg mt me ds (wipeE ε1 vs) []) fun acc ε2 => P (.val (.lst (acc.map .dat))) (restE vs ε1 ε2)) : W2 (mLc vs mi mg mt me ε) P := by
  obtain ⟨ds, ε1, e1, acc, ε2, e2, q⟩ := h
  exact ⟨_, _, by simp only [mLc, e1, e2], q⟩
theorem f_val {PD : D → Env → Prop} (q : PD d ε) : W2 (frzR (.val (.dat d)) ε) PD := ⟨_, _, rfl, q⟩
theorem fa_nil {PD : List D → Env → Prop} (q : PD [] ε) : W2 (frzAll [] ε) PD := ⟨_, _, rfl, q⟩
theorem fa_cons {PD : List D → Env → Prop} {r : Rs} {rs : List Rs} (h : W2 (frzR r ε) fun d ε1 => W2 (frzAll rs ε1) fun ds ε2 => PD (d :: ds) ε2) : W2 (frzAll (r :: rs) ε) PD := by
  obtain ⟨d, ε1, e1, ds, ε2, e2, q⟩ := h
  exact ⟨_, ε2, by simp only [frzAll, e1, e2], q⟩
theorem t_val {PO : O → Env → Prop} (q : PO o ε) : W2 (takR (.val o) ε) PO := ⟨_, _, rfl, q⟩
theorem o_val {PO : O → Env → Prop} (q : PO o ε) : W2 (outR (.val o) ε) PO := ⟨_, _, rfl, q⟩
theorem oa_nil {PO : List O → Env → Prop} (q : PO [] ε) : W2 (outAll [] ε) PO := ⟨_, _, rfl, q⟩
theorem oa_val {PO : List O → Env → Prop} {rs : List Rs} (h : W2 (outAll rs ε) fun os ε2 => PO (o :: os) ε2) : W2 (outAll (.val o :: rs) ε) PO := by
  obtain ⟨os, ε2, e2, q⟩ := h
  exact ⟨_, ε2, by simp only [outAll, outR, e2], q⟩
theorem oa_slot {PO : List O → Env → Prop} {rs : List Rs} (hs : M.slotAt ε i = some o) (h : W2 (outAll rs (ε.set i none)) fun os ε2 => PO (o :: os) ε2) : W2 (outAll (.slot i :: rs) ε) PO := by
  obtain ⟨os, ε2, e2, q⟩ := h
  exact ⟨_, ε2, by simp only [outAll, outR, hs, e2], q⟩
theorem f_slot {PD : D → Env → Prop} {os : List O} {ds : List D} (hs : M.slotAt ε i = some (.lst os)) (ha : allDat os = some ds) (q : PD (.list ds) (ε.set i (some (.dat (.list ds))))) : W2 (frzR (.slot i) ε) PD := by
  cases allDat_eq ha
  refine ⟨_, _, ?_, q⟩
  simp only [frzR, hs, O.pl, O.er, plL_dat, erL_dat, if_true]
theorem t_slot {PO : O → Env → Prop} {os : List O} {ds : List D} (hs : M.slotAt ε i = some (.lst os)) (ha : allDat os = some ds) (q : PO (.dat (.list ds)) (ε.set i (some (.dat (.list ds))))) : W2 (takR (.slot i) ε) PO := by
  obtain ⟨d, ε1, e1, rfl, rfl⟩ := f_slot (PD := fun d e => d = .list ds ∧ e = ε.set i (some (.dat (.list ds)))) hs ha ⟨rfl, rfl⟩
  exact ⟨_, _, by simp only [takR, e1], q⟩
theorem f_lst {PD : D → Env → Prop} {os : List O} {ds : List D} (ha : allDat os = some ds) (q : PD (.list ds) ε) : W2 (frzR (.val (.lst os)) ε) PD := by
  cases allDat_eq ha
  refine ⟨_, _, ?_, q⟩
  simp only [frzR, O.pl, O.er, plL_dat, erL_dat, if_true]
theorem o_slot {PO : O → Env → Prop} (hs : M.slotAt ε i = some o) (q : PO o (ε.set i none)) : W2 (outR (.slot i) ε) PO := ⟨_, _, by simp only [outR, hs], q⟩
theorem ga_nil {PO : List O → Prop} (q : PO []) : W1 (getAll [] ε) PO := ⟨_, rfl, q⟩
theorem ga_val {PO : List O → Prop} {rs : List Rs} (h : W1 (getAll rs ε) fun os => PO (o :: os)) : W1 (getAll (.val o :: rs) ε) PO := by
  obtain ⟨os, e, q⟩ := h
  exact ⟨_, by simp only [getAll, Rs.get, e], q⟩
theorem ga_slot {PO : List O → Prop} {rs : List Rs} (hs : M.slotAt ε i = some o) (h : W1 (getAll rs ε) fun os => PO (o :: os)) : W1 (getAll (.slot i :: rs) ε) PO := by
  obtain ⟨os, e, q⟩ := h
  exact ⟨_, by simp only [getAll, Rs.get, hs, e], q⟩
theorem g_n {PE : Env → Prop} (q : PE (ε.set i (some o))) : W1 (gN i o ε) PE := ⟨_, rfl, q⟩
theorem g_t {PE : Env → Prop} {n : Nat} {gs : mGs} {ds : List D} (hl : ds.length = n) (h : W1 (gs ds ε) PE) : W1 (gT n gs (.dat (.tuple ds)) ε) PE := by
  obtain ⟨e, h, q⟩ := h
  exact ⟨e, by simp only [gT, if_pos hl, h], q⟩
theorem g_sn {PE : Env → Prop} (q : PE ε) : W1 (gsN [] ε) PE := ⟨_, rfl, q⟩
theorem g_sc {PE : Env → Prop} {g : mG} {gs : mGs} {ds : List D} (h : W1 (g (.dat d) ε) fun ε1 => W1 (gs ds ε1) PE) : W1 (gsC g gs (d :: ds) ε) PE := by
  obtain ⟨e1, h1, e2, h2, q⟩ := h
  exact ⟨e2, by simp only [gsC, h1, h2], q⟩
/-! isinstance -/
abbrev tInt : D → Bool
  | .int _ => true
  | .bool _ => true
  | _ => false
abbrev tBool : D → Bool
  | .bool _ => true
  | _ => false
abbrev tStr : D → Bool
  | .str _ => true
  | _ => false
abbrev tTup : D → Bool
  | .tuple _ => true
  | _ => false
abbrev tLst : D → Bool
  | .list _ => true
  | _ => false
theorem kB_NoneType_int : L2.kitB "NoneType" "int" = some false := by decide +kernel
theorem kB_bool_int : L2.kitB "bool" "int" = some true := by decide +kernel
theorem kB_int_int : L2.kitB "int" "int" = some true := by decide +kernel
theorem kB_str_int : L2.kitB "str" "int" = some false := by decide +kernel
theorem kB_list_int : L2.kitB "list" "int" = some false := by decide +kernel
theorem kB_tuple_int : L2.kitB "tuple" "int" = some false := by decide +kernel
theorem kB_dict_int : L2.kitB "dict" "int" = some false := by decide +kernel
theorem isi_int (d : D) : pIsi "int" (.dat d) = some (.dat (.bool (tInt d))) := by
  cases d <;> simp only [pIsi, O.pl, O.er, Z.tyD, if_true, kB_NoneType_int, kB_bool_int, kB_int_int, kB_str_int, kB_list_int, kB_tuple_int, kB_dict_int]
theorem kB_NoneType_bool : L2.kitB "NoneType" "bool" = some false := by decide +kernel
theorem kB_bool_bool : L2.kitB "bool" "bool" = some true := by decide +kernel
theorem kB_int_bool : L2.kitB "int" "bool" = some false := by decide +kernel
theorem kB_str_bool : L2.kitB "str" "bool" = some false := by decide +kernel
theorem kB_list_bool : L2.kitB "list" "bool" = some false := by decide +kernel
theorem kB_tuple_bool : L2.kitB "tuple" "bool" = some false := by decide +kernel
theorem kB_dict_bool : L2.kitB "dict" "bool" = some false := by decide +kernel
theorem isi_bool (d : D) : pIsi "bool" (.dat d) = some (.dat (.bool (tBool d))) := by
  cases d <;> simp only [pIsi, O.pl, O.er, Z.tyD, if_true, kB_NoneType_bool, kB_bool_bool, kB_int_bool, kB_str_bool, kB_list_bool, kB_tuple_bool, kB_dict_bool]
theorem kB_NoneType_str : L2.kitB "NoneType" "str" = some false := by decide +kernel
theorem kB_bool_str : L2.kitB "bool" "str" = some false := by decide +kernel
theorem kB_int_str : L2.kitB "int" "str" = some false := by decide +kernel
theorem kB_str_str : L2.kitB "str" "str" = some true := by decide +kernel
theorem kB_list_str : L2.kitB "list" "str" = some false := by decide +kernel
theorem kB_tuple_str : L2.kitB "tuple" "str" = some false := by decide +kernel
theorem kB_dict_str : L2.kitB "dict" "str" = some false := by decide +kernel
theorem isi_str (d : D) : pIsi "str" (.dat d) = some (.dat (.bool (tStr d))) := by
  cases d <;> simp only [pIsi, O.pl, O.er, Z.tyD, if_true, kB_NoneType_str, kB_bool_str, kB_int_str, kB_str_str, kB_list_str, kB_tuple_str, kB_dict_str]
theorem kB_NoneType_tuple : L2.kitB "NoneType" "tuple" = some false := by decide +kernel
theorem kB_bool_tuple : L2.kitB "bool" "tuple" = some false := by decide +kernel
theorem kB_int_tuple : L2.kitB "int" "tuple" = some false := by decide +kernel
theorem kB_str_tuple : L2.kitB "str" "tuple" = some false := by decide +kernel
theorem kB_list_tuple : L2.kitB "list" "tuple" = some false := by decide +kernel
theorem kB_tuple_tuple : L2.kitB "tuple" "tuple" = some true := by decide +kernel
theorem kB_dict_tuple : L2.kitB "dict" "tuple" = some false := by decide +kernel
theorem isi_tuple (d : D) : pIsi "tuple" (.dat d) = some (.dat (.bool (tTup d))) := by
  cases d <;> simp only [pIsi, O.pl, O.er, Z.tyD, if_true, kB_NoneType_tuple, kB_bool_tuple, kB_int_tuple, kB_str_tuple, kB_list_tuple, kB_tuple_tuple, kB_dict_tuple]
theorem kB_NoneType_list : L2.kitB "NoneType" "list" = some false := by decide +kernel
theorem kB_bool_list : L2.kitB "bool" "list" = some false := by decide +kernel
theorem kB_int_list : L2.kitB "int" "list" = some false := by decide +kernel
theorem kB_str_list : L2.kitB "str" "list" = some false := by decide +kernel
theorem kB_list_list : L2.kitB "list" "list" = some true := by decide +kernel
theorem kB_tuple_list : L2.kitB "tuple" "list" = some false := by decide +kernel
theorem kB_dict_list : L2.kitB "dict" "list" = some false := by decide +kernel
theorem isi_list (d : D) : pIsi "list" (.dat d) = some (.dat (.bool (tLst d))) := by
  cases d <;> simp only [pIsi, O.pl, O.er, Z.tyD, if_true, kB_NoneType_list, kB_bool_list, kB_int_list, kB_str_list, kB_list_list, kB_tuple_list, kB_dict_list]
/-! ways -/
theorem i_t {A B : Prop} (h : A) : if true = true then A else B := by simpa using h
theorem i_f {A B : Prop} (h : B) : if false = true then A else B := by simpa using h
theorem i_nF {A B : Prop} (h : A) : if (!false) = true then A else B := by simpa using h
theorem i_nT {A B : Prop} (h : B) : if (!true) = true then A else B := by simpa using h
theorem i_T {b : Bool} {A B : Prop} (hb : b = true) (h : A) : if b = true then A else B := by rw [if_pos hb]; exact h
theorem i_F {b : Bool} {A B : Prop} (hb : b = false) (h : B) : if b = true then A else B := by subst hb; simpa using h
theorem i_d {c A B : Prop} [Decidable c] (h1 : c → A) (h2 : ¬ c → B) : if decide c = true then A else B := by
  by_cases h : c
  · rw [if_pos (decide_eq_true h)]; exact h1 h
  · rw [if_neg (by simp [h])]; exact h2 h
theorem i_nd {c A B : Prop} [Decidable c] (h1 : ¬ c → A) (h2 : c → B) : if (!decide c) = true then A else B := by
  by_cases h : c
  · rw [if_neg (by simp [h])]; exact h2 h
  · rw [if_pos (by simp [h])]; exact h1 h
theorem i_b {b : Bool} {A B : Prop} (h1 : b = true → A) (h2 : b = false → B) : if b = true then A else B := by
  cases b with
  | true => rw [if_pos rfl]; exact h1 rfl
  | false => rw [if_neg Bool.false_ne_true]; exact h2 rfl
theorem i_nb {b : Bool} {A B : Prop} (h1 : b = false → A) (h2 : b = true → B) : if (!b) = true then A else B := by
  cases b with
  | true => rw [if_neg (by simp)]; exact h2 rfl
  | false => rw [if_pos (by simp)]; exact h1 rfl
/-! in -/
theorem n_inL {b : O} {ds : List D} {Q : O → Prop} (ha : asL b = some ds) (h1 : SeqAt.shaped d = true) (h2 : SeqAt.shaped (.list ds) = true) (q : Q (.dat (.bool (inTest d ds)))) : W1 (pIn (.dat d) b) Q := by
  refine ⟨_, ?_, q⟩
  unfold pIn pInB
  split
  · rename_i k e
    split at e
    · cases ha
    · rw [ha] at e
      simp only [shp, O.pl, O.er, h1, h2, Bool.true_and, if_true] at e
      cases e; rfl
  · rename_i e
    split at e
    · cases ha
    · rw [ha] at e
      simp only [shp, O.pl, O.er, h1, h2, Bool.true_and, if_true] at e
      cases e
theorem n_notInL {b : O} {ds : List D} {Q : O → Prop} (ha : asL b = some ds) (h1 : SeqAt.shaped d = true) (h2 : SeqAt.shaped (.list ds) = true) (q : Q (.dat (.bool (!inTest d ds)))) : W1 (pNotIn (.dat d) b) Q := by
  obtain ⟨o, e, q'⟩ := n_inL (Q := fun o => o = .dat (.bool (inTest d ds))) ha h1 h2 rfl
  subst q'
  refine ⟨_, ?_, q⟩
  unfold pIn at e
  unfold pNotIn
  split at e
  · rename_i k e1
    cases e
    rfl
  · cases e
theorem n_inT {ds : List D} {Q : O → Prop} (h1 : flatD d = true) (h2 : ds.all flatD = true) (q : Q (.dat (.bool (inTest d ds)))) : W1 (pIn (.dat d) (.dat (.tuple ds))) Q := ⟨_, by simp only [pIn, pInB, h1, h2, Bool.true_and, if_true], q⟩
/-! items, slices, joins -/
theorem n_ixM {os : List O} {ds : List D} {x : Int} {Q : O → Prop} (ha : allDat os = some ds) (h0 : 0 ≤ x) (h1 : x < (ds.length : Int)) (q : ∀ d ∈ ds, Q (.dat d)) : W1 (pIx (.lst os) (.dat (.int x))) Q := by
  have hl : x.toNat < ds.length := by omega
  have e : L2.atI ds x = some ds[x.toNat] := by
    unfold L2.atI L2.ixN
    rw [if_pos h0, if_pos h1]
    simp [hl]
  exact ⟨.dat ds[x.toNat], by simp only [pIx, asL, ha, e], q _ (List.getElem_mem hl)⟩
theorem n_ixT {ds : List D} {x : Int} {Q : O → Prop} (h0 : 0 ≤ x) (h1 : x < (ds.length : Int)) (q : ∀ d, ds[x.toNat]? = some d → Q (.dat d)) : W1 (pIx (.dat (.tuple ds)) (.dat (.int x))) Q := by
  have hl : x.toNat < ds.length := by omega
  have e : L2.atI ds x = some ds[x.toNat] := by
    unfold L2.atI L2.ixN
    rw [if_pos h0, if_pos h1]
    simp [hl]
  exact ⟨.dat ds[x.toNat], by simp only [pIx, e], q _ (by simp [hl])⟩
theorem n_ixTM {ds : List D} {x : Int} {Q : O → Prop} (h0 : 0 ≤ x) (h1 : x < (ds.length : Int)) (q : ∀ d, d ∈ ds → Q (.dat d)) : W1 (pIx (.dat (.tuple ds)) (.dat (.int x))) Q := n_ixT h0 h1 fun d hd => q d (List.mem_of_getElem? hd)
theorem n_addT {xs ys : List D} {Q : O → Prop} (hl : xs.length + ys.length ≤ lim) (q : Q (.dat (.tuple (xs ++ ys)))) : W1 (pAdd (.dat (.tuple xs)) (.dat (.tuple ys))) Q := ⟨_, by simp only [pAdd, if_pos hl], q⟩
theorem cutD_sub {ds : List D} {lo hi : Option Int} : ∀ e ∈ Z.cutD ds lo hi, e ∈ ds := fun e he => List.mem_of_mem_drop (List.mem_of_mem_take he)
theorem cutD_len {ds : List D} {lo hi : Option Int} : (Z.cutD ds lo hi).length ≤ ds.length := by
  unfold Z.cutD
  rw [List.length_take, List.length_drop]
  omega
theorem n_neRefl {Q : O → Prop} (h : SeqAt.shaped d = true) (q : Q (.dat (.bool false))) : W1 (pNe (.dat d) (.dat d)) Q := ⟨_, by simp only [pNe, shp, O.pl, O.er, h, Bool.true_and, if_true, SeqAt.eqv_refl d (SeqAt.canLay_of_shaped h), Bool.not_true], q⟩
theorem lc_nil {vs : List Nat} {mg : mG} {mt : mT} {acc : List D} {PL : List D → Env → Prop} (q : PL acc ε) : W2 (lcGo vs mg mt me [] ε acc) PL := ⟨_, _, rfl, q⟩
theorem lc_cons {vs : List Nat} {mg : mG} {mt : mT} {acc ds : List D} {PL : List D → Env → Prop}
    (h : W1 (mg (.dat d) ε) fun ε1 => W2 (mt ε1) fun b ε2 => if b = true then W2 (me ε2) fun r ε3 => W2 (frzR r ε3) fun y ε4 => acc.length ≤ lim ∧ W2 (lcGo vs mg mt me ds (wipeE ε4 vs) (acc ++ [y])) PL else W2 (lcGo vs mg mt me ds (wipeE ε2 vs) acc) PL) : W2 (lcGo vs mg mt me (d :: ds) ε acc) PL := by
  obtain ⟨ε1, e1, b, ε2, e2, q⟩ := h
  cases b with
  | true =>
    obtain ⟨r, ε3, e3, y, ε4, e4, hl, x, ε5, e5, q⟩ := (show W2 (me ε2) fun r ε3 => W2 (frzR r ε3) fun y ε4 => acc.length ≤ lim ∧ W2 (lcGo vs mg mt me ds (wipeE ε4 vs) (acc ++ [y])) PL from by simpa using q)
    exact ⟨x, ε5, by simp only [lcGo, e1, e2, e3, e4, if_pos hl, e5], q⟩
  | false =>
    obtain ⟨x, ε5, e5, q⟩ := (show W2 (lcGo vs mg mt me ds (wipeE ε2 vs) acc) PL from by simpa using q)
    exact ⟨x, ε5, by simp only [lcGo, e1, e2, e5], q⟩
theorem fg_nil {mg : mG} (q : PS .nx ε) : W2 (forGo mg ms [] ε) PS := ⟨_, _, rfl, q⟩
theorem fg_cons {mg : mG} {ds : List D} (h : W1 (mg (.dat d) ε) fun ε1 => W2 (ms ε1) (ForK (fun ε2 => W2 (forGo mg ms ds ε2) PS) PS)) : W2 (forGo mg ms (d :: ds) ε) PS := by
  obtain ⟨ε1, e1, f, ε2, e2, q⟩ := h
  cases f with
  | nx => obtain ⟨g, ε3, e3, q⟩ := q; exact ⟨g, ε3, by simp only [forGo, e1, e2, e3], q⟩
  | ct => obtain ⟨g, ε3, e3, q⟩ := q; exact ⟨g, ε3, by simp only [forGo, e1, e2, e3], q⟩
  | bk => exact ⟨_, ε2, by simp only [forGo, e1, e2], q⟩
  | ret o => exact ⟨_, ε2, by simp only [forGo, e1, e2], q⟩
/-! numbers -/
section
variable {x y : Int} {Q : O → Prop}
theorem n_mod (h : 0 < y) (q : Q (.dat (.int (x % y)))) : W1 (pMod (.dat (.int x)) (.dat (.int y))) Q := ⟨_, by simp only [pMod, int2, if_pos h], q⟩
theorem n_div (h : 0 < y) (h' : y.natAbs.log2 < 9000) (q : Q (.dat (.int (x / y)))) : W1 (pDiv (.dat (.int x)) (.dat (.int y))) Q := ⟨_, by simp only [pDiv, int2, if_pos (And.intro h h')], q⟩
theorem log_lt {n : Nat} (h : x.natAbs < 2 ^ n) (hn : 0 < n) : x.natAbs.log2 < n := PySem.Flt.log2_lt_of hn h
theorem n_mul (h : x.natAbs.log2 + y.natAbs.log2 < 1000000) (q : Q (.dat (.int (x * y)))) : W1 (pMul (.dat (.int x)) (.dat (.int y))) Q := ⟨_, by simp only [pMul, pMulI, int2, if_pos h], q⟩
theorem n_mulS (h1 : x.natAbs < 18446744073709551616) (h2 : y.natAbs < 18446744073709551616) (q : Q (.dat (.int (x * y)))) : W1 (pMul (.dat (.int x)) (.dat (.int y))) Q := n_mul (by have a := log_lt (n := 64) (by simpa using h1) (by decide); have b := log_lt (n := 64) (by simpa using h2) (by decide); omega) q
theorem n_eqI (q : Q (.dat (.bool (decide (x = y))))) : W1 (pEq (.dat (.int x)) (.dat (.int y))) Q := by
  refine ⟨_, ?_, q⟩
  have e : PyData.eqv (.int x) (.int y) = decide (x = y) := by simp only [PyData.eqv]; rfl
  simp only [pEq, shp, O.pl, O.er, SeqAt.shaped, PyData.canLay0, PyData.depth, e]
  rfl
theorem n_neI (q : Q (.dat (.bool (!decide (x = y))))) : W1 (pNe (.dat (.int x)) (.dat (.int y))) Q := by
  refine ⟨_, ?_, q⟩
  have e : PyData.eqv (.int x) (.int y) = decide (x = y) := by simp only [PyData.eqv]; rfl
  simp only [pNe, shp, O.pl, O.er, SeqAt.shaped, PyData.canLay0, PyData.depth, e]
  rfl
theorem n_pow (h : 0 ≤ y ∧ y ≤ 1000000 ∧ x.natAbs < 2 ^ 64) (q : Q (.dat (.int (x ^ y.toNat)))) : W1 (pPow (.dat (.int x)) (.dat (.int y))) Q := ⟨_, by simp only [pPow, int2, if_pos h], q⟩
end
/-- a def -/
theorem w_def {j n : Nat} {W : List Nat} {os : List O} {PF : O → List (Option O) → Prop} (hl : os.length = j) (h : W2 (ms (os.map some ++ List.replicate (n - j) none)) (DefK W os PF)) : W2 (mDef j n W ms os) PF := by
  obtain ⟨f, ε, e1, q⟩ := h
  cases f with
  | nx => exact ⟨_, _, by simp only [mDef, if_pos hl, e1], q⟩
  | bk => exact q.elim
  | ct => exact q.elim
  | ret o => exact ⟨_, _, by simp only [mDef, if_pos hl, e1], q⟩
end
end M
namespace M
open PySem
section
variable {o : O} {ds : List D} {Q : O → Prop}
theorem n_tupleL (ha : asL o = some ds) (q : Q (.dat (.tuple ds))) : W1 (one pTuple [o]) Q := by
  refine ⟨_, ?_, q⟩
  cases o with
  | dat d => cases d <;> first | (cases ha; done) | (simp only [one, pTuple, ha])
  | lst xs => simp only [one, pTuple, ha]
  | tup xs => cases ha
  | dic kvs => cases ha
  | lck kvs => cases ha
  | dtt w kvs => cases ha
  | lkn w kvs => cases ha
theorem n_lenL (ha : asL o = some ds) (q : Q (.dat (.int ds.length))) : W1 (one pLen [o]) Q := by
  refine ⟨_, ?_, q⟩
  cases o with
  | dat d => cases d <;> first | (cases ha; done) | (simp only [one, pLen, ha])
  | lst xs => simp only [one, pLen, ha]
  | tup xs => cases ha
  | dic kvs => cases ha
  | lck kvs => cases ha
  | dtt w kvs => cases ha
  | lkn w kvs => cases ha
theorem n_listL (ha : asL o = some ds) (q : Q (.lst (ds.map .dat))) : W1 (one pList [o]) Q := by
  refine ⟨_, ?_, q⟩
  cases o with
  | dat d => cases d <;> first | (cases ha; done) | (simp only [one, pList, ha])
  | lst xs => simp only [one, pList, ha]
  | tup xs => cases ha
  | dic kvs => cases ha
  | lck kvs => cases ha
  | dtt w kvs => cases ha
  | lkn w kvs => cases ha
theorem asL_map : asL (.lst (ds.map .dat)) = some ds := by simp only [asL, allDat_map]
end
theorem isi_lstT {ds : List D} : pIsi "tuple" (.lst (ds.map .dat)) = some (.dat (.bool false)) := by simp only [pIsi, O.pl, O.er, plL_dat, if_true, Z.tyD, kB_list_tuple]
end M
namespace M
open PySem PySem.Spec L2 Z
/-! ### a flat constant of the module, by its object -/
def flat1 : Value → D → Bool
  | .none, .none => true
  | .bool a, .bool b => a == b
  | .int i _, .int j => i == j
  | .str x _, .str y => x == y
  | _, _ => false
def flatAll : List Value → List D → Bool
  | [], [] => true
  | v :: vs, d :: ds => flat1 v d && flatAll vs ds
  | _, _ => false
def const1 (o : Obj) : D → Bool
  | .tuple ds => isTy "tuple" o.cls && (match o.data with
    | .seq its _ => decide (its.size ≤ sizeLine) && flatAll its.toList ds
    | _ => false)
  | .list ds => isTy "list" o.cls && o.dict.isNone && (match o.data with
    | .seq its _ => decide (its.size ≤ sizeLine) && flatAll its.toList ds
    | _ => false)
  | _ => false
theorem flat1_ok {K : PySem.W.Frag} {F : Hp} {u : Value} {d : D} (h : flat1 u d = true) : ∃ v, RelV v u ∧ Dp K F v d := by
  unfold flat1 at h
  split at h
  · exact ⟨.non, rfl, .non⟩
  · rw [eq_of_beq h]; exact ⟨.bl _, rfl, .bl _⟩
  · rw [eq_of_beq h]; exact ⟨.int _, ⟨_, rfl⟩, .int _⟩
  · rw [eq_of_beq h]; exact ⟨.str _, ⟨_, rfl⟩, .str _⟩
  · cases h
theorem flatAll_ok {K : PySem.W.Frag} {F : Hp} : ∀ {us : List Value} {ds : List D}, flatAll us ds = true → ∃ vs, Vals vs us ∧ DpAll K F vs ds
  | [], [], _ => ⟨[], .nil, .nil⟩
  | [], _ :: _, h => by simp [flatAll] at h
  | _ :: _, [], h => by simp [flatAll] at h
  | u :: us, d :: ds, h => by
    rw [flatAll, Bool.and_eq_true_iff] at h
    obtain ⟨x, r, dx⟩ := flat1_ok (K := K) (F := F) h.1
    obtain ⟨xs, rs, dxs⟩ := flatAll_ok (K := K) (F := F) h.2
    exact ⟨x :: xs, .cons r rs, .cons dx dxs⟩
theorem const1_ok {K : PySem.W.Frag} {F : Hp} {a : Addr} {o : Obj} {d : D} (hl : K.lookup a = some o) (h : const1 o d = true) : Dp K F (.ref a) d := by
  unfold const1 at h
  split at h
  · rw [Bool.and_eq_true_iff] at h
    obtain ⟨h1, h2⟩ := h
    split at h2
    · rename_i its m e2
      rw [Bool.and_eq_true_iff] at h2
      obtain ⟨vs, r, d⟩ := flatAll_ok (K := K) (F := F) h2.2
      exact .tup (.inr ⟨o, its, m, hl, isTy_eq h1, e2, of_decide_eq_true h2.1, r⟩) d
    · cases h2
  · rw [Bool.and_eq_true_iff, Bool.and_eq_true_iff] at h
    obtain ⟨⟨h1, h3⟩, h2⟩ := h
    split at h2
    · rename_i its m e2
      rw [Bool.and_eq_true_iff] at h2
      obtain ⟨vs, r, d⟩ := flatAll_ok (K := K) (F := F) h2.2
      exact .lst (.inr ⟨o, its, m, hl, isTy_eq h1, by simpa using h3, e2, of_decide_eq_true h2.1, r⟩) d
    · cases h2
  · cases h
end M
namespace M
open PySem
/-! ### things that are laid and not deep -/
def goodB (d : D) : Bool := d.canLay0 && decide (d.depth ≤ 5)
abbrev Good (d : D) : Prop := goodB d = true
theorem Good.both {d : D} (h : Good d) : d.canLay0 = true ∧ d.depth ≤ 5 := by
  have h' : (d.canLay0 && decide (d.depth ≤ 5)) = true := h
  simp only [Bool.and_eq_true, decide_eq_true_eq] at h'
  exact h'
theorem Good.shaped {d : D} (h : Good d) : SeqAt.shaped d = true := by
  have h' := h.both
  simp only [SeqAt.shaped, Bool.and_eq_true, decide_eq_true_eq]
  exact ⟨h'.1, by omega⟩
theorem Good.lay {d : D} (h : Good d) : d.canLay0 = true := h.both.1
theorem good_int (i : Int) : Good (.int i) := rfl
theorem layAll : ∀ {es : List D}, (∀ e ∈ es, Good e) → PyData.canLayAll0 es = true
  | [], _ => rfl
  | a :: l, hg => by
    rw [PyData.canLayAll0, (hg a (by simp)).lay, Bool.true_and]
    exact layAll fun e he => hg e (by simp [he])
theorem dep_le {n : Nat} : ∀ {es : List D}, (∀ e ∈ es, e.depth ≤ n) → PyData.depthAll es ≤ n
  | [], _ => Nat.zero_le _
  | a :: l, hg => by
    have h1 := dep_le (n := n) fun e he => hg e (List.mem_cons_of_mem a he)
    have h2 := hg a (by simp)
    rw [PyData.depthAll]
    omega
theorem shapedT {es : List D} (hg : ∀ e ∈ es, Good e) : SeqAt.shaped (.tuple es) = true := by
  have := dep_le fun e he => (hg e he).both.2
  simp only [SeqAt.shaped, PyData.canLay0, layAll hg, PyData.depth, Bool.true_and, decide_eq_true_eq]
  exact decide_eq_true (Nat.le_trans (Nat.succ_le_succ this) (show 6 ≤ 64 by decide))
theorem shapedL {es : List D} (hg : ∀ e ∈ es, Good e) : SeqAt.shaped (.list es) = true := by
  have := dep_le fun e he => (hg e he).both.2
  simp only [SeqAt.shaped, PyData.canLay0, layAll hg, PyData.depth, Bool.true_and, decide_eq_true_eq]
  exact decide_eq_true (Nat.le_trans (Nat.succ_le_succ this) (show 6 ≤ 64 by decide))
theorem eqv_int {i j : Int} : PyData.eqv (.int i) (.int j) = decide (i = j) := by simp only [PyData.eqv]; rfl
theorem ne_nilT {es : List D} (hg : ∀ e ∈ es, Good e) : pNe (.dat (.tuple es)) (.dat (.tuple [])) = some (.dat (.bool (!decide (es = [])))) := by
  have h3 : SeqAt.shaped (.tuple []) = true := by with_unfolding_all rfl
  simp only [pNe, shp, O.pl, O.er, shapedT hg, h3, Bool.true_and, if_true]
  cases es <;> simp [PyData.eqv, PyData.eqvAll]
theorem ne_nilL {es : List D} (hg : ∀ e ∈ es, Good e) : pNe (.lst (es.map .dat)) (.lst []) = some (.dat (.bool (!decide (es = [])))) := by
  have h3 : SeqAt.shaped (.list []) = true := by with_unfolding_all rfl
  simp only [pNe, shp, O.pl, O.er, plL_dat, erL_dat, plL, erL, shapedL hg, h3, Bool.true_and, if_true]
  cases es <;> simp [PyData.eqv, PyData.eqvAll]
theorem frz_rep {r : O} {es : List D} (hr : r = .dat (.tuple es) ∨ r = .lst (es.map .dat)) (hg : ∀ e ∈ es, Good e) : ∃ d : D, d.canLay0 = true ∧ (d = .tuple es ∨ d = .list es) ∧ ∀ ε, frzR (.val r) ε = some (d, ε) := by
  have ha := layAll hg
  rcases hr with rfl | rfl
  · exact ⟨.tuple es, by rw [PyData.canLay0]; exact ha, .inl rfl, fun ε => rfl⟩
  · exact ⟨.list es, by rw [PyData.canLay0]; exact ha, .inr rfl, fun ε => by simp only [frzR, O.pl, O.er, plL_dat, erL_dat, if_true]⟩
/-! ### whole numbers between bounds, words of a list -/
def whole (d : D) (lo hi : Int) : Bool := match d with
  | .int i => decide (lo ≤ i) && decide (i ≤ hi)
  | _ => false
def word (d : D) (ws : List D) : Bool := match d with
  | .str s => inTest (.str s) ws
  | _ => false
theorem whole_int {d : D} {lo hi : Int} (h : whole d lo hi = true) : ∃ i, d = .int i ∧ lo ≤ i ∧ i ≤ hi := by
  unfold whole at h
  split at h
  · simp only [Bool.and_eq_true, decide_eq_true_eq] at h
    exact ⟨_, rfl, h⟩
  · cases h
theorem log_small {m : Int} (h0 : 0 < m) (h : m < 9223372036854775808) : m.natAbs.log2 < 9000 := by
  have := log_lt (x := m) (n := 64) (by omega) (by decide)
  omega
/-! ### ranges -/
theorem ints_get {m i : Nat} {d : D} (hd : (intsD 0 m)[i]? = some d) : d = .int i ∧ i < m := by
  have hi : i < m := by
    rcases Nat.lt_or_ge i m with z | z
    · exact z
    · rw [List.getElem?_eq_none (by simpa [intsD] using z)] at hd; cases hd
  simp [intsD, hi] at hd
  exact ⟨hd.symm, hi⟩
/-! ### a comprehension whose parts are functions of the item alone -/
section
variable {ε : Env} {me : mB}
theorem w_lcP {vs : List Nat} {mg : mG} {mt : mT} {ds : List D} {PL : List D → Env → Prop} (p : D → Bool) (f : D → D) (hl : ds.length ≤ lim)
    (h : ∀ d ∈ ds, W1 (mg (.dat d) ε) fun ε1 => W2 (mt ε1) fun b ε2 => b = p d ∧ if b = true then W2 (me ε2) fun r ε3 => W2 (frzR r ε3) fun y ε4 => y = f d ∧ wipeE ε4 vs = ε else wipeE ε2 vs = ε)
    (q : PL ((ds.filter p).map f) ε) : W2 (lcGo vs mg mt me ds ε []) PL := by
  refine w_lcI (fun i acc ε' => ε' = ε ∧ acc = ((ds.take i).filter p).map f) ⟨rfl, rfl⟩ (fun acc ε' hh => ?_) (fun i d acc ε' hd hh => ?_)
  · obtain ⟨rfl, rfl⟩ := hh
    rw [List.take_length]; exact q
  · obtain ⟨rfl, rfl⟩ := hh
    have hi : i < ds.length := by
      rcases Nat.lt_or_ge i ds.length with z | z
      · exact z
      · rw [List.getElem?_eq_none z] at hd; cases hd
    obtain ⟨ε1, e1, b, ε2, e2, rfl, q2⟩ := h d (List.mem_of_getElem? hd)
    refine ⟨ε1, e1, _, ε2, e2, ?_⟩
    have hlen : (((ds.take i).filter p).map f).length ≤ lim := by
      rw [List.length_map]
      refine Nat.le_trans (List.length_filter_le _ _) ?_
      rw [List.length_take]; omega
    have ht : ds.take (i + 1) = ds.take i ++ [d] := by rw [List.take_add_one, hd]; rfl
    cases hp : p d with
    | true =>
      rw [hp] at q2
      obtain ⟨r, ε3, e3, y, ε4, e4, rfl, e5⟩ := (show W2 (me ε2) fun r ε3 => W2 (frzR r ε3) fun y ε4 => y = f d ∧ wipeE ε4 vs = ε' from by simpa using q2)
      refine (i_t (A := _) ?_)
      exact ⟨r, ε3, e3, _, ε4, e4, hlen, e5, by rw [ht]; simp [hp]⟩
    | false =>
      rw [hp] at q2
      refine (i_f (B := _) ?_)
      exact ⟨by simpa using q2, by rw [ht]; simp [hp]⟩
end
theorem pw_5 : pPow (.dat (.int 10)) (.dat (.int 5)) = some (.dat (.int 100000)) := rfl
theorem pw_6 : pPow (.dat (.int 10)) (.dat (.int 6)) = some (.dat (.int 1000000)) := rfl
theorem pw_8 : pPow (.dat (.int 10)) (.dat (.int 8)) = some (.dat (.int 100000000)) := rfl
theorem pw_9 : pPow (.dat (.int 10)) (.dat (.int 9)) = some (.dat (.int 1000000000)) := rfl
theorem pw_19 : pPow (.dat (.int 10)) (.dat (.int 19)) = some (.dat (.int 10000000000000000000)) := rfl
end M
namespace M
open PySem PySem.Spec L2 Z
/-! ### enumerate(a tuple) -/
abbrev tIt (t : Addr) : Obj := { cls := .type "tuple_iterator", data := .fields #[.ref t, .int 0 0] }
abbrev enO (i : Addr) : Obj := { cls := .type "enumerate", data := .fields #[.none, .bool false, .ref i, rawInt 0, .none, .none] }
theorem enumT_new {t : Addr} {us : Array Value} : Meets (Builtin.«enumerate.__new__» ⟨[.type "enumerate", .ref t], []⟩) (fun _ R s =>
    s.heap.IsTuple t us ∧ R (.ok (.ret (.ref (s.heap.push (tIt t)).objs.size))) { s with heap := (s.heap.push (tIt t)).push (enO s.heap.objs.size) }) :=
  .of_wp fun P w Ar R ⟨hp, g, d, tk, os⟩ ⟨ht, out⟩ => by
    have known := sub_enumerate
    have it : ∀ {Ar' : Around} {E : Value → Shared → Prop} {Q : Value → Shared → Prop}, Q (.ref hp.objs.size) ⟨hp.push (tIt t), g, d, tk, os⟩ → wpAny (model P w) Ar' (pyIter (.ref t)) Q E ⟨hp, g, d, tk, os⟩ := fun q => wpAny_pyIter_tuple ht q
    wp_walk using it
    refine wpAny_stack_any fun _ => wpAny_pure ?_
    split
    · generalize (_ == Value.type "enumerate") = short
      cases short <;> (wp_walk using it; exact ⟨_, rfl, out⟩)
    · wp_walk using it
      exact ⟨_, rfl, out⟩
section
variable {P : Program} {w : World} {Ar : Around} {E : Value → Shared → Prop} {s : Shared}
theorem enumT_call {t : Addr} {us : Array Value} {Q : Value → Shared → Prop} (ht : s.heap.IsTuple t us)
    (q : Q (.ref (s.heap.objs.size + 1)) { s with heap := (s.heap.push (tIt t)).push (enO s.heap.objs.size) }) : wpAny (model P w) Ar (call (.type "enumerate") [.ref t]) Q E s := by
  have hz : (s.heap.push (tIt t)).objs.size = s.heap.objs.size + 1 := Heap.size_push ..
  refine callType_new F.called_enumerate (by decide) (F.typeCall_enumerate_1 _) (F.newCall_enumerate_1 _) (fun obj => F.args_object_init_2 obj _) F.entry_enumerate_new enumT_new ⟨ht, ?_⟩
  have he := Heap.get?_push_size (s.heap.push (tIt t)) (o := enO s.heap.objs.size) rfl
  show _ ∧ _
  rw [hz] at he ⊢
  exact ⟨⟨_, he, rfl⟩, q⟩
end
/-- the tuple at a, each item in a new pair behind its place -/
def IteT (K : PySem.W.Frag) (a : Addr) : It where
  go := fun i H => ∃ (xs : List V) (x : V), SqT K H a xs ∧ xs[i]? = some x
  yld := fun i H v H' => ∃ T x, v = .ref T ∧ H T = none ∧ H' = upd H T (.tup [.int (i : Nat), x]) ∧ ∀ xs, SqT K H a xs → xs[i]? = some x
  stop := fun i H => ∃ xs : List V, SqT K H a xs ∧ xs.length = i
theorem turn_enumT {P : Program} {w : World} {K : PySem.W.Frag} {elts : List Expr} {kk : Nat} {tpos : Pos} {a e it : Addr} (hne : e ≠ it) (hai : a ≠ it) (hae : a ≠ e) :
    Turn P w K (.Tuple elts kk tpos) (IteT K a) [e, it] e (fun i h => (∃ old, IsEnum h e it ((i : Nat) : Int) old) ∧ h.IsTupleIter it a i) := by
  refine ⟨by simp, fun i h ⟨⟨old, he⟩, o, ho, hc, hd⟩ b hb => ?_, fun i h h' ⟨⟨old, he⟩, hi⟩ k => ⟨⟨old, k e (by simp) _ he⟩, hi.at fun o q => k it (by simp) o q⟩, ?_, ?_, fun Ar i s Q E ⟨⟨_, he⟩, _⟩ q => wpAny_pyIter_enum he q⟩
  · rcases List.mem_cons.mp hb with rfl | hb
    · exact ⟨_, he, fun v q => nomatch q⟩
    · cases List.mem_singleton.mp hb
      exact ⟨o, ho, fun v q => by rw [hd] at q; cases q⟩
  · intro X hP hw hK hc i pins s σ H E I hf ⟨⟨old, he⟩, hit⟩ ⟨xs, x, hq, hx⟩
    subst hP hw hK
    obtain ⟨its, rv, tp, -⟩ := I.tuple hq
    have ⟨u, hu, ru⟩ := rv.get hx
    have hil : it < s.heap.objs.size := let ⟨_, q, _⟩ := hit; Heap.lt_size q
    have hel := Heap.lt_size he
    have hlt : i < its.toArray.size := by
      rw [List.size_toArray]
      rcases Nat.lt_or_ge i its.length with z | z
      · exact z
      · rw [List.getElem?_eq_none z] at hu; cases hu
    have dr : Draws X.prog X.w X.A.in1 it [it, a] _ _ _ := Draws.tuple (show X.A.in1.handled = none from I.ok.hd hc) it a hai its.toArray
    refine wpAny_pyNext_enum_itemD dr he ⟨hit, tp⟩ hlt hne (by simp [hne, Ne.symm hae]) fun y h1 tk hy out st1 hT hsz hk => ?_
    have hy' : y = u := by
      have : its.toArray[i]? = some u := by simpa using hu
      rw [this] at hy; exact (Option.some.inj hy).symm
    subst hy'
    refine ⟨_, rfl, wpAny_letOwnedTupleGo_enum (s := { s with heap := h1, toks := tk + 1 }) out fun h2 he2 sb => ?_⟩
    have hT2 := (sb.2 _ (Nat.ne_of_gt hel)).trans hT
    have new : ObjOk X.prog X.w (upd H s.heap.objs.size (.tup [.int (i : Nat), x])) h2 s.heap.objs.size (.tup [.int (i : Nat), x]) :=
      ⟨show 2 ≤ sizeLine by decide, [.int i tk, y], .cons ⟨_, rfl⟩ (.cons ru .nil), _, hT2, rfl, _, rfl⟩
    refine ⟨.ref s.heap.objs.size, _, I.turnedNew (t' := tk + 1) (ch := [e, it]) (fun b ob hb q => ?_) hf (Nat.le_refl _) new, rfl, ⟨_, x, rfl, I.hok.fresh (Nat.le_refl _), rfl, fun ys hy => by rw [I.tuple_inj hy hq]; exact hx⟩, ⟨⟨y, ?_⟩, st1.1.at fun o q => (sb.2 it (Ne.symm hne)).trans q⟩, fun b hb => ?_⟩
    · simp only [List.mem_cons, List.not_mem_nil, or_false, not_or] at hb
      exact (sb.2 b hb.1).trans (hk b ob hb.1 hb.2 q)
    · rw [show ((i + 1 : Nat) : Int) = (i : Int) + 1 by omega]; exact he2
    · have : b < s.heap.objs.size := by
        rcases List.mem_cons.mp hb with rfl | hb
        · exact hel
        · cases List.mem_singleton.mp hb; exact hil
      rw [upd_ne (Nat.ne_of_lt this)]
      exact (hf b hb).1
  · intro X hP hw hK hc i pins s σ H E I hf ⟨⟨old, he⟩, hit⟩ ⟨xs, hq, hx⟩
    subst hP hw hK
    obtain ⟨its, rv, tp, -⟩ := I.tuple hq
    have ⟨f0, f1, _, f3, f4, f5⟩ := hf it (by simp)
    have hi : its.toArray.size = i := by rw [List.size_toArray, ← rv.length]; exact hx
    have dr : Draws X.prog X.w X.A.in1 it [it, a] _ _ _ := Draws.tuple (show X.A.in1.handled = none from I.ok.hd hc) it a hai its.toArray
    have st : s.heap.IsTupleIter it a its.toArray.size ∧ s.heap.IsTuple a its.toArray := by rw [hi]; exact ⟨hit, tp⟩
    refine wpAny_pyNext_enum_endD dr he st fun h1 eb => ⟨rfl, I.turned (t' := s.toks) (fun b o hb q => eb b o hb q) f0 f1 f3 f4 f5⟩
/-- enumerate(x), x a list or a tuple -/
def iEnumA (K : PySem.W.Frag) (ta : TA) : TI := fun σ H R => ta σ H fun vs H1 => ∃ a xs, vs = [.ref a] ∧ ((SqL K H1 a xs ∧ R (Ite K a) H1) ∨ (SqT K H1 a xs ∧ R (IteT K a) H1))
theorem pi_enumA {X : Cx} (K : PySem.W.Frag) (hK : X.K = K) {e : Expr} {ta : TA} {p pos tpos : Pos} {elts : List Expr} {kk : Nat} (hg : Gl X "enumerate") (hm : X.mg "enumerate" = none) (ha : PA X [e] ta) (hs : starEach [e] X.env = [(false, eval e X.env)] := by rfl) :
    PI X (.Tuple elts kk tpos) (.Call (.Name "enumerate" p) [e] [] pos) (iEnumA K ta) := by
  subst hK
  refine ⟨fun pins s σ H R I h => PyProof.Rows.Call_ (ld_blt I hg hm PyProof.Rows.boot_enumerate (PyProof.Rows.callWith_type1 (thn (ha.run pos pins s σ H _ I h) fun us s1 ⟨vs, H1, I1, r1, a, xs, ex, q1⟩ => ?_) hs rfl))⟩
  subst ex
  cases r1 with
  | cons r rr =>
    cases rr
    cases r
    have frs : ∀ b ∈ [s1.heap.objs.size + 1, s1.heap.objs.size], FpOk X pins H1 b := fun b hb => by
      have low : s1.heap.objs.size ≤ b := by
        simp only [List.mem_cons, List.not_mem_nil, or_false] at hb
        rcases hb with rfl | rfl <;> omega
      exact I1.fpOk low (I1.hok.fresh low)
    rcases q1 with ⟨hq, q⟩ | ⟨hq, q⟩
    · obtain ⟨its, rv, lp, -⟩ := I1.list hq
      refine call_enumerate_list lp.isList fun h' he hit hsz hk => wpAny_pyIter_enum he ?_
      exact ⟨_, _, _, _, H1, rfl, I1.kept (t' := s1.toks) hk, turn_enum a _ _, ⟨⟨.none, he⟩, hit, Nat.succ_ne_self _⟩, frs, q⟩
    · obtain ⟨its, rv, tp, -⟩ := I1.tuple hq
      have hl : a < s1.heap.objs.size := let ⟨_, z, _⟩ := tp; Heap.lt_size z
      have hz : (s1.heap.push (tIt a)).objs.size = s1.heap.objs.size + 1 := Heap.size_push ..
      have g0 : ((s1.heap.push (tIt a)).push (enO s1.heap.objs.size)).get? s1.heap.objs.size = some (tIt a) := Heap.get?_push_of_some _ (Heap.get?_push_size _ rfl)
      have g1 : ((s1.heap.push (tIt a)).push (enO s1.heap.objs.size)).get? (s1.heap.objs.size + 1) = some (enO s1.heap.objs.size) := by
        have := Heap.get?_push_size (s1.heap.push (tIt a)) (o := enO s1.heap.objs.size) rfl
        rw [hz] at this; exact this
      refine enumT_call tp (wpAny_pyIter_enum (it := s1.heap.objs.size) (i := 0) (old := .none) g1 ?_)
      exact ⟨_, _, _, _, H1, rfl, I1.kept (t' := s1.toks) fun b ob z => Heap.get?_push_of_some _ (Heap.get?_push_of_some _ z), turn_enumT (e := s1.heap.objs.size + 1) (it := s1.heap.objs.size) (Nat.succ_ne_self _) (Nat.ne_of_lt hl) (Nat.ne_of_lt (Nat.lt_succ_of_lt hl)), ⟨⟨.none, g1⟩, ⟨_, g0, rfl, rfl⟩⟩, frs, q⟩
end M
namespace M
open PySem PySem.Spec L2 Z
/-! ### a table of the module: int and text keys, flat values -/
abbrev Tab := List (Key × D)
def EntOk (w : World) : List DictEntry → Tab → Prop
  | [], [] => True
  | e :: es, (k, d) :: kvs => (keyIs k e.key = true ∧ e.hash = keyH w k ∧ flat1 e.val d = true) ∧ EntOk w es kvs
  | _, _ => False
/-- the table stands at a in the written part -/
def TabAt (K : PySem.W.Frag) (w : World) (a : Addr) (T : Tab) : Prop := ∃ es n, K.lookup a = some ⟨.type "dict", none, .dict es n, #[]⟩ ∧ (a == sysModules) = false ∧ EntOk w es.toList T
def tabGet (T : Tab) (k : Key) : Option D := (T.find? fun p => decide (p.1 = k)).map (·.2)
theorem ent_keys {w : World} : ∀ {es : List DictEntry} {T : Tab}, EntOk w es T → ∀ e ∈ es, ∃ k, keyIs k e.key = true ∧ e.hash = keyH w k
  | _ :: _, [], h, _, _ => h.elim
  | e :: es, (k, d) :: T, h, x, hx => by
    rcases List.mem_cons.mp hx with z | z
    · subst z; exact ⟨k, h.1.1, h.1.2.1⟩
    · exact ent_keys h.2 x z
theorem key_other {k j : Key} {v : Value} (h : keyIs k v = true) : keyIs j v = decide (k = j) := by
  obtain ⟨i, t, rfl, rfl⟩ | ⟨x, t, rfl, rfl⟩ := keyIs_shape h
  · cases j with
    | inl i' => rw [key_ll]; simp [keyIs, Value.isInt]
    | inr y => rw [key_lr]; rfl
  · cases j with
    | inl i' => rw [key_rl]; rfl
    | inr y =>
      rw [key_rr]
      by_cases e : x = y
      · simp [keyIs, Value.isStrOf, e]
      · simp [keyIs, Value.isStrOf, e]
theorem ent_find {w : World} {k : Key} : ∀ {es : List DictEntry} {T : Tab}, EntOk w es T → match tabGet T k with
    | some d => ∃ u, (es.find? fun e => keyIs k e.key).map (·.val) = some u ∧ flat1 u d = true
    | none => (es.find? fun e => keyIs k e.key).map (·.val) = none
  | [], [], _ => rfl
  | [], _ :: _, h => h.elim
  | _ :: _, [], h => h.elim
  | e :: es, (j, d) :: T, h => by
    have hk := key_other (j := k) h.1.1
    by_cases z : j = k
    · subst z
      simp only [tabGet, List.find?_cons, h.1.1, decide_true, Option.map_some]
      exact ⟨e.val, rfl, h.1.2.2⟩
    · have ih := ent_find (k := k) h.2
      rw [decide_eq_false z] at hk
      simp only [tabGet, List.find?_cons, hk, decide_eq_false z] at ih ⊢
      exact ih
section
variable {X : Cx} {a : Addr} {T : Tab}
theorem tab_map {h : Heap} {es : Array DictEntry} {n : Nat} (K : X.K.In h) (hl : X.K.lookup a = some ⟨.type "dict", none, .dict es n, #[]⟩) (he : EntOk X.w es.toList T) : h.MapOf (mixKind X.prog X.w) a fun k => findBy keyIs es k :=
  ⟨_, es, n, K _ _ hl, ⟨rfl, rfl, rfl⟩, rfl, fun e m => ent_keys he e (Array.mem_toList_iff.mpr m), fun _ => rfl⟩
theorem find_list {es : Array DictEntry} {k : Key} : findBy keyIs es k = (es.toList.find? fun e => keyIs k e.key).map (·.val) := by
  unfold findBy
  rw [Array.find?_toList]
def rInTab (a : Addr) (T : Tab) : R2 := fun x y H Q => ∃ k, x = kV k ∧ y = .ref a ∧ Q (.bl (tabGet T k).isSome) H
theorem key_val {k : Key} {u : Value} (r : RelV (kV k) u) : keyIs k u = true := by
  cases k with
  | inl i => obtain ⟨t, rfl⟩ := r; exact keyIs_int i t
  | inr x => obtain ⟨t, rfl⟩ := r; exact keyIs_str x t
theorem op_inTab (h : TabAt X.K X.w a T) : OpR X (compareOp .In) (rInTab a T) := by
  intro pins s σ H x y v u Q I rx ry asked
  obtain ⟨k, rfl, rfl, q⟩ := asked
  obtain ⟨es, n, hl, low, he⟩ := h
  cases ry
  refine wpAny_in_of (knd := mixKind X.prog X.w) (k := k) (key_val rx) low (tab_map I.kIn hl he) ⟨.bl (tabGet T k).isSome, H, I.tok _, ?_, q⟩
  have f := ent_find (k := k) he
  rw [find_list]
  cases g : tabGet T k with
  | none => rw [g] at f; simp only at f; rw [f]; rfl
  | some d => rw [g] at f; obtain ⟨z, e1, _⟩ := f; rw [e1]; rfl
/-- T[k], k being there -/
def rIxTab (a : Addr) (T : Tab) : R2 := fun x y H Q => ∃ k d, x = .ref a ∧ y = kV k ∧ tabGet T k = some d ∧ ∀ v, (∀ K F, Dp K F v d) → Q v H
theorem ix_tab (h : TabAt X.K X.w a T) : IxR X (rIxTab a T) := by
  intro ea eb pins s σ H x y v u Q I rx ry asked plain
  obtain ⟨k, d, rfl, rfl, g, q⟩ := asked
  obtain ⟨es, n, hl, low, he⟩ := h
  cases rx
  have m := tab_map (T := T) I.kIn hl he
  have f := ent_find (k := k) he
  rw [g] at f
  obtain ⟨z, e1, fz⟩ := f
  have val : ∃ c, RelV c z ∧ ∀ K F, Dp K F c d := by
    unfold flat1 at fz
    split at fz
    · exact ⟨.non, rfl, fun _ _ => .non⟩
    · rw [eq_of_beq fz]; exact ⟨.bl _, rfl, fun _ _ => .bl _⟩
    · rw [eq_of_beq fz]; exact ⟨.int _, ⟨_, rfl⟩, fun _ _ => .int _⟩
    · rw [eq_of_beq fz]; exact ⟨.str _, ⟨_, rfl⟩, fun _ _ => .str _⟩
    · cases fz
  obtain ⟨c, rc, dc⟩ := val
  refine PyProof.Rows.tail_any m.typeIs slot_dict_getitem.lookup (wpAny_getItem_of (knd := mixKind X.prog X.w) (k := k) (key_val ry) m (v := z) ?_ ⟨c, H, I.tok _, rc, q c dc⟩) plain
  rw [find_list]; exact e1
end
section
variable {K : PySem.W.Frag} {a : Addr} {T : Tab} {ta : TE} {ma : mB}
def keyOf : D → Option Key
  | .int i => some (.inl i)
  | .str x => some (.inr x)
  | _ => none
theorem keyOf_eq {F : Hp} {v : V} {d : D} {k : Key} (h : keyOf d = some k) (r : Dp K F v d) : v = kV k := by
  unfold keyOf at h
  split at h
  · cases h; exact dp_int r
  · cases h; exact dp_str r
  · cases h
def pInTab (T : Tab) : O → Option O
  | .dat d => match keyOf d with
    | some k => some (.dat (.bool (tabGet T k).isSome))
    | none => none
  | _ => none
def pIxTab (T : Tab) : O → Option O
  | .dat d => match keyOf d with
    | some k => match tabGet T k with
      | some e => some (.dat e)
      | none => none
    | none => none
  | _ => none
theorem um_inTab : UnM K (fun x => rInTab a T x (.ref a)) (pInTab T) := fun oa o F A x ps P e r k => by
  unfold pInTab at e
  split at e
  · split at e
    · rename_i j g
      cases e
      cases r with
      | dat r => cases keyOf_eq g r; exact fun H w Q c => ⟨j, rfl, rfl, c _ _ _ _ w (ret_dat k (.bl _))⟩
    · cases e
  · cases e
theorem um_ixTab : UnM K (fun y => rIxTab a T (.ref a) y) (pIxTab T) := fun oa o F A x ps P e r k => by
  unfold pIxTab at e
  split at e
  · split at e
    · rename_i j g
      split at e
      · rename_i d g2
        cases e
        cases r with
        | dat r => cases keyOf_eq g r; exact fun H w Q c => ⟨j, d, rfl, rfl, g2, fun v hv => c _ _ _ _ w (ret_dat k (hv K F))⟩
      · cases e
    · cases e
  · cases e
theorem sn_inTab (ha : Sn K ta ma) : Sn K (tOp (rInTab a T) ta (tC (.ref a))) (mUn (pInTab T) ma) := fun ε r ε' σ F A fp P e q n k => sn_un um_inTab ha ε r ε' σ F A fp P e q n k
theorem sn_ixTab (ha : Sn K ta ma) : Sn K (tOp (rIxTab a T) (tC (.ref a)) ta) (mUn (pIxTab T) ma) := fun ε r ε' σ F A fp P e q n k => sn_un um_ixTab ha ε r ε' σ F A fp P e q n k
end
end M
namespace M
open PySem PySem.Spec L2 Z
/-! ### enumerate, zip: walks of pairs -/
def enumD (ds : List D) : List D := ds.zipIdx.map fun p => .tuple [.int (p.2 : Nat), p.1]
def zipD (ds es : List D) : List D := (ds.zip es).map fun p => .tuple [p.1, p.2]
theorem enumD_len {ds : List D} : (enumD ds).length = ds.length := by simp [enumD]
theorem enumD_get {ds : List D} {i : Nat} : (enumD ds)[i]? = (ds[i]?).map fun d => .tuple [.int (i : Nat), d] := by
  simp [enumD, List.getElem?_zipIdx]
  cases ds[i]? <;> simp
section
variable {K : PySem.W.Frag} {F1 : Hp} {a b : Addr} {xs ys : List V} {ds es : List D}
/-- a pair that is made anew stays -/
theorem pair_new {F A H H' : Hp} {v x y : V} {T : Addr} {c d : D} (w : Wd F A H) (hv : v = .ref T) (hn : H T = none) (hH : H' = upd H T (.tup [x, y])) (hx : Dp K F x c) (hy : Dp K F y d) :
    ∃ F', Wd F' A H' ∧ Same F F' ∧ Dp K F' v (.tuple [c, d]) := by
  subst hv hH
  have s := same_upd (o := .tup [x, y]) (w.fn hn)
  exact ⟨_, w.newF hn, s, .tup (.inl (.inl upd_same)) (.cons (dp_mono s hx) (.cons (dp_mono s hy) .nil))⟩
theorem wks_enumT (h : SqT K F1 a xs) (hd : DpAll K F1 xs ds) : Wks K (IteT K a) F1 (enumD ds) := by
  have hl := dps_len hd
  refine ⟨fun i H hi ⟨F, A, w, s⟩ => ?_, fun H ⟨F, A, w, s⟩ => ⟨xs, st_mono (s.trans w.f) h, by rw [enumD_len]; exact hl⟩, fun i H v H' hi ⟨F, A, w, s⟩ y F2 A2 w2 s2 => ?_⟩
  · rw [enumD_len, ← hl] at hi
    exact ⟨xs, xs[i], st_mono (s.trans w.f) h, by simp [hi]⟩
  · obtain ⟨T, x, e1, e2, e3, e4⟩ := y
    obtain ⟨d, g1, g2⟩ := dps_at hd (e4 xs (st_mono (s.trans w.f) h))
    obtain ⟨F', w', s', d'⟩ := pair_new w2 e1 e2 e3 (Dp.int (K := K) (i : Nat)) (dp_mono s2 g2)
    exact ⟨F', w', s', _, by rw [enumD_get, g1]; rfl, d'⟩
theorem wks_enumL (h : SqL K F1 a xs) (hd : DpAll K F1 xs ds) : Wks K (Ite K a) F1 (enumD ds) := by
  have hl := dps_len hd
  refine ⟨fun i H hi ⟨F, A, w, s⟩ => ?_, fun H ⟨F, A, w, s⟩ => ⟨xs, sq_mono (s.trans w.f) h, by rw [enumD_len, hl]; exact Nat.le_refl _⟩, fun i H v H' hi ⟨F, A, w, s⟩ y F2 A2 w2 s2 => ?_⟩
  · rw [enumD_len, ← hl] at hi
    exact ⟨xs, xs[i], sq_mono (s.trans w.f) h, by simp [hi]⟩
  · obtain ⟨T, x, e1, e2, e3, e4⟩ := y
    obtain ⟨d, g1, g2⟩ := dps_at hd (e4 xs (sq_mono (s.trans w.f) h))
    obtain ⟨F', w', s', d'⟩ := pair_new w2 e1 e2 e3 (Dp.int (K := K) (i : Nat)) (dp_mono s2 g2)
    exact ⟨F', w', s', _, by rw [enumD_get, g1]; rfl, d'⟩
theorem zipD_len : (zipD ds es).length = min ds.length es.length := by simp [zipD]
theorem zipD_get {i : Nat} {c d : D} (h1 : ds[i]? = some c) (h2 : es[i]? = some d) : (zipD ds es)[i]? = some (.tuple [c, d]) := by
  simp [zipD, List.getElem?_zip_eq_some.mpr (show ds[i]? = some (c, d).1 ∧ es[i]? = some (c, d).2 from ⟨h1, h2⟩)]
theorem wks_zipT (h : SqT K F1 a xs) (hd : DpAll K F1 xs ds) (h' : SqT K F1 b ys) (he : DpAll K F1 ys es) : Wks K (RZ.ItzT K a b) F1 (zipD ds es) := by
  have hl := dps_len hd
  have hm := dps_len he
  refine ⟨fun i H hi ⟨F, A, w, s⟩ => ?_, fun H ⟨F, A, w, s⟩ => ⟨xs, ys, st_mono (s.trans w.f) h, st_mono (s.trans w.f) h', by rw [zipD_len]; omega⟩, fun i H v H' hi ⟨F, A, w, s⟩ y F2 A2 w2 s2 => ?_⟩
  · rw [zipD_len] at hi
    exact ⟨xs, ys, xs[i]'(by omega), ys[i]'(by omega), st_mono (s.trans w.f) h, st_mono (s.trans w.f) h', by simp [show i < xs.length by omega], by simp [show i < ys.length by omega]⟩
  · obtain ⟨T, x, z, e1, e2, e3, e4, e5⟩ := y
    obtain ⟨c, g1, g2⟩ := dps_at hd (e4 xs (st_mono (s.trans w.f) h))
    obtain ⟨d, g3, g4⟩ := dps_at he (e5 ys (st_mono (s.trans w.f) h'))
    obtain ⟨F', w', s', d'⟩ := pair_new w2 e1 e2 e3 (dp_mono s2 g2) (dp_mono s2 g4)
    exact ⟨F', w', s', _, zipD_get g1 g3, d'⟩
theorem wks_zipL (h : SqL K F1 a xs) (hd : DpAll K F1 xs ds) (h' : SqL K F1 b ys) (he : DpAll K F1 ys es) : Wks K (Itz K a b) F1 (zipD ds es) := by
  have hl := dps_len hd
  have hm := dps_len he
  refine ⟨fun i H hi ⟨F, A, w, s⟩ => ?_, fun H ⟨F, A, w, s⟩ => ⟨xs, ys, sq_mono (s.trans w.f) h, sq_mono (s.trans w.f) h', by rw [zipD_len]; omega⟩, fun i H v H' hi ⟨F, A, w, s⟩ y F2 A2 w2 s2 => ?_⟩
  · rw [zipD_len] at hi
    exact ⟨xs, ys, xs[i]'(by omega), ys[i]'(by omega), sq_mono (s.trans w.f) h, sq_mono (s.trans w.f) h', by simp [show i < xs.length by omega], by simp [show i < ys.length by omega]⟩
  · obtain ⟨T, x, z, e1, e2, e3, e4, e5⟩ := y
    obtain ⟨c, g1, g2⟩ := dps_at hd (e4 xs (sq_mono (s.trans w.f) h))
    obtain ⟨d, g3, g4⟩ := dps_at he (e5 ys (sq_mono (s.trans w.f) h'))
    obtain ⟨F', w', s', d'⟩ := pair_new w2 e1 e2 e3 (dp_mono s2 g2) (dp_mono s2 g4)
    exact ⟨F', w', s', _, zipD_get g1 g3, d'⟩
end
section
variable {K : PySem.W.Frag} {t : TA} {m : mA}
def mEnum (m : mA) : mI := fun ε => match m ε with
  | some (rs, ε1) => match frzAll rs ε1 with
    | some ([.list ds], ε2) => some (enumD ds, ε2)
    | some ([.tuple ds], ε2) => some (enumD ds, ε2)
    | _ => none
  | none => none
theorem si_enum (h : SnA K t m) : SnI K (iEnumA K t) (mEnum m) := fun ε ds ε' σ F A fp H e q n w R k => by
  unfold mEnum at e
  split at e
  · rename_i rs ε1 e1
    refine h.fact e1 q n H w _ fun vs F1 A1 H1 w1 ⟨fp1, np1, s1, n1, q1, x1⟩ => ?_
    split at e
    · rename_i ds' ε2 e2
      cases e
      obtain ⟨F2, A2, fp2, w2, s2, n2, q2, d2⟩ := frz_all w1 q1 n1 x1 e2
      cases d2 with
      | cons d2 dn =>
        cases dn
        obtain ⟨a, xs, rfl, h1, h2⟩ := dp_lst d2
        exact ⟨a, xs, rfl, .inl ⟨sq_mono w2.f h1, k _ F2 A2 fp2 H1 w2 (s1.trans s2) n2 q2 (wks_enumL h1 h2)⟩⟩
    · rename_i ds' ε2 e2
      cases e
      obtain ⟨F2, A2, fp2, w2, s2, n2, q2, d2⟩ := frz_all w1 q1 n1 x1 e2
      cases d2 with
      | cons d2 dn =>
        cases dn
        obtain ⟨a, xs, rfl, h1, h2⟩ := dp_tup d2
        exact ⟨a, xs, rfl, .inr ⟨st_mono w2.f h1, k _ F2 A2 fp2 H1 w2 (s1.trans s2) n2 q2 (wks_enumT h1 h2)⟩⟩
    · cases e
  · cases e
def mZip (m : mA) : mI := fun ε => match m ε with
  | some (rs, ε1) => match frzAll rs ε1 with
    | some ([.list ds, .list es], ε2) => some (zipD ds es, ε2)
    | some ([.tuple ds, .tuple es], ε2) => some (zipD ds es, ε2)
    | _ => none
  | none => none
theorem si_zip (h : SnA K t m) : SnI K (RZ.iZipA K t) (mZip m) := fun ε ds ε' σ F A fp H e q n w R k => by
  unfold mZip at e
  split at e
  · rename_i rs ε1 e1
    refine h.fact e1 q n H w _ fun vs F1 A1 H1 w1 ⟨fp1, np1, s1, n1, q1, x1⟩ => ?_
    split at e
    · rename_i ds' es' ε2 e2
      cases e
      obtain ⟨F2, A2, fp2, w2, s2, n2, q2, d2⟩ := frz_all w1 q1 n1 x1 e2
      cases d2 with
      | cons d2 dn => cases dn with
        | cons d3 dn =>
          cases dn
          obtain ⟨a, xs, rfl, h1, h2⟩ := dp_lst d2
          obtain ⟨b, ys, rfl, h3, h4⟩ := dp_lst d3
          exact ⟨a, b, xs, ys, rfl, .inl ⟨sq_mono w2.f h1, sq_mono w2.f h3, k _ F2 A2 fp2 H1 w2 (s1.trans s2) n2 q2 (wks_zipL h1 h2 h3 h4)⟩⟩
    · rename_i ds' es' ε2 e2
      cases e
      obtain ⟨F2, A2, fp2, w2, s2, n2, q2, d2⟩ := frz_all w1 q1 n1 x1 e2
      cases d2 with
      | cons d2 dn => cases dn with
        | cons d3 dn =>
          cases dn
          obtain ⟨a, xs, rfl, h1, h2⟩ := dp_tup d2
          obtain ⟨b, ys, rfl, h3, h4⟩ := dp_tup d3
          exact ⟨a, b, xs, ys, rfl, .inr ⟨st_mono w2.f h1, st_mono w2.f h3, k _ F2 A2 fp2 H1 w2 (s1.trans s2) n2 q2 (wks_zipT h1 h2 h3 h4)⟩⟩
    · cases e
  · cases e
end
/-! ### T.get(k) of a table of the module -/
section
variable {X : Cx} {a : Addr} {T : Tab}
def tGetTab (a : Addr) (T : Tab) (te : TE) : TE := fun σ H Q => te σ H fun y H1 => ∃ k, y = kV k ∧ ∀ v, (∀ K F, Dp K F v ((tabGet T k).getD .none)) → Q v H1
theorem flat_val {z : Value} {d : D} (h : flat1 z d = true) : ∃ c, RelV c z ∧ ∀ K F, Dp K F c d := by
  unfold flat1 at h
  split at h
  · exact ⟨.non, rfl, fun _ _ => .non⟩
  · rw [eq_of_beq h]; exact ⟨.bl _, rfl, fun _ _ => .bl _⟩
  · rw [eq_of_beq h]; exact ⟨.int _, ⟨_, rfl⟩, fun _ _ => .int _⟩
  · rw [eq_of_beq h]; exact ⟨.str _, ⟨_, rfl⟩, fun _ _ => .str _⟩
  · cases h
theorem pe_getTab {K : PySem.W.Frag} {w : World} (hK : X.K = K) (hw : X.w = w) (h : TabAt K w a T) {o e : Expr} {te : TE} {apos cpos : Pos} (ho : PE X o (tC (.ref a))) (he : PE X e te) (m : M1 X o "get" apos e cpos) : PE X (.Call (.Attribute o "get" apos) [e] [] cpos) (tGetTab a T te) := by
  subst hK hw
  obtain ⟨es, n, hl, low, hen⟩ := h
  refine ⟨fun pins s σ H Q I hh => wpAny_Call_method m.base m.few m.line F.plainAttrs_dict F.slot_dict_get F.type_dict_get (thn (ho.run pins s σ H (fun x H1 => x = .ref a ∧ H1 = H) I ⟨rfl, rfl⟩) fun u s1 ⟨x, H1, I1, rx, ex, eH⟩ => ?_)⟩
  subst ex eH
  cases rx
  have mp := tab_map (T := T) I1.kIn hl hen
  refine ⟨mp.typeIs, fun b eb => ⟨_, (by cases eb; exact I1.kIn _ _ hl), rfl⟩, ?_⟩
  rw [m.trees]
  refine Calls.callWith_builtin rfl (Calls.evalArgs_plain (Calls.spliced_cons (thn (he.run pins s1 σ H1 _ I1 hh) fun iv s2 ⟨y, H2, I2, ry, k, ek, q2⟩ => Calls.spliced_nil ?_)))
  subst ek
  have mp2 := tab_map (T := T) I2.kIn hl hen
  refine call_meetsIn F.slot_dict_get mp2.typeIs F.entry_dict_get (F.args_dict_get_2 _ _) (meets_dict_get (mixKind X.prog X.w) a (key_val ry) low) ⟨_, mp2, ?_⟩
  have f := ent_find (k := k) hen
  rw [find_list]
  cases g : tabGet T k with
  | none =>
    rw [g] at f q2
    simp only at f
    rw [f]
    exact ⟨.non, H2, I2.tok _, rfl, q2 _ fun _ _ => .non⟩
  | some d =>
    rw [g] at f q2
    obtain ⟨z, e1, fz⟩ := f
    obtain ⟨c, rc, dc⟩ := flat_val fz
    rw [e1]
    exact ⟨c, H2, I2.tok _, rc, q2 c dc⟩
end
section
variable {K : PySem.W.Frag} {a : Addr} {T : Tab} {ta : TE} {ma : mB}
def pGetTab (T : Tab) : O → Option O
  | .dat d => match keyOf d with
    | some k => some (.dat ((tabGet T k).getD .none))
    | none => none
  | _ => none
theorem sn_getTab (ha : Sn K ta ma) : Sn K (tGetTab a T ta) (mUn (pGetTab T) ma) := fun ε rr ε' σ F A fp P e q n k => by
  obtain ⟨r, oa, o, e1, e2, e3, rfl⟩ := mUn_eq e
  intro H w Q c
  refine ha.fact e1 q n H w _ fun y F1 A1 H1 w1 ⟨fp1, np1, s1, n1, q1, x1⟩ => ?_
  obtain ⟨ps, p1⟩ := x1.rp q1 e2
  unfold pGetTab at e3
  split at e3
  · split at e3
    · rename_i j g
      cases e3
      cases p1 with
      | dat p1 =>
        cases keyOf_eq g p1
        exact ⟨j, rfl, fun v hv => c _ _ _ _ w1 (k v F1 A1 fp1 [] ((s1.sub fun x hx => by simp at hx; simp [hx])) (nod' (List.nodup_append.mp n1).1) q1 (.dat (hv K F1)))⟩
    · cases e3
  · cases e3
end
/-! the rules with the written part named -/
section
variable {X : Cx} {K : PySem.W.Frag} {w : World} {a : Addr} {T : Tab}
theorem kInTab (hK : X.K = K) (hw : X.w = w) (h : TabAt K w a T) : OpR X (compareOp .In) (rInTab a T) := by subst hK hw; exact op_inTab h
theorem kIxTab (hK : X.K = K) (hw : X.w = w) (h : TabAt K w a T) : IxR X (rIxTab a T) := by subst hK hw; exact ix_tab h
end
end M
namespace M
open PySem PySem.Spec L2 Z
/-! ### lists of one kind -/
def boolsD : List D → Option (List Bool)
  | [] => some []
  | .bool b :: ds => match boolsD ds with
    | some bs => some (b :: bs)
    | none => none
  | _ :: _ => none
def numsD : List D → Option (List Int)
  | [] => some []
  | .int i :: ds => match numsD ds with
    | some is => some (i :: is)
    | none => none
  | _ :: _ => none
theorem boolsD_eq : ∀ {ds : List D} {bs : List Bool}, boolsD ds = some bs → ds = bs.map .bool
  | [], _, h => by cases h; rfl
  | .bool b :: ds, _, h => by
    unfold boolsD at h
    split at h
    · rename_i bs e
      cases h
      rw [boolsD_eq e]; rfl
    · cases h
  | .none :: _, _, h => by cases h
  | .int _ :: _, _, h => by cases h
  | .str _ :: _, _, h => by cases h
  | .list _ :: _, _, h => by cases h
  | .tuple _ :: _, _, h => by cases h
  | .dict _ :: _, _, h => by cases h
theorem numsD_eq : ∀ {ds : List D} {bs : List Int}, numsD ds = some bs → ds = bs.map .int
  | [], _, h => by cases h; rfl
  | .int b :: ds, _, h => by
    unfold numsD at h
    split at h
    · rename_i bs e
      cases h
      rw [numsD_eq e]; rfl
    · cases h
  | .none :: _, _, h => by cases h
  | .bool _ :: _, _, h => by cases h
  | .str _ :: _, _, h => by cases h
  | .list _ :: _, _, h => by cases h
  | .tuple _ :: _, _, h => by cases h
  | .dict _ :: _, _, h => by cases h
@[simp] theorem boolsD_map : ∀ (bs : List Bool), boolsD (bs.map .bool) = some bs
  | [] => rfl
  | b :: bs => by simp [boolsD, boolsD_map bs]
@[simp] theorem numsD_map : ∀ (bs : List Int), numsD (bs.map .int) = some bs
  | [] => rfl
  | b :: bs => by simp [numsD, numsD_map bs]
section
variable {K : PySem.W.Frag}
theorem dps_bools {F : Hp} : ∀ {vs : List V} {bs : List Bool}, DpAll K F vs (bs.map .bool) → vs = bs.map V.bl
  | _, [], .nil => rfl
  | _, b :: bs, .cons h hs => by cases h; rw [dps_bools hs]; rfl
theorem dps_nums {F : Hp} : ∀ {vs : List V} {bs : List Int}, DpAll K F vs (bs.map .int) → vs = bs.map V.int
  | _, [], .nil => rfl
  | _, b :: bs, .cons h hs => by cases h; rw [dps_nums hs]; rfl
def pAll (o : O) : Option O := match asL o with
  | some ds => match boolsD ds with
    | some bs => some (.dat (.bool (bs.all id)))
    | none => none
  | none => none
theorem cm_all : CbM K (rAll K) (one pAll) := cm_one fun oa o F A x ps P e r k => by
  unfold pAll at e
  split at e
  · rename_i ds h0
    split at e
    · rename_i bs h1
      cases e
      cases boolsD_eq h1
      obtain ⟨a, xs, rfl, h2, h3⟩ := asL_rp h0 r
      cases dps_bools h3
      exact fun H w Q c => ⟨a, bs, rfl, h2.at w, c _ _ _ _ w (ret_dat k (.bl _))⟩
    · cases e
  · cases e
def pSum (o : O) : Option O := match asL o with
  | some ds => match numsD ds with
    | some bs => some (.dat (.int bs.sum))
    | none => none
  | none => none
theorem cm_sum : CbM K (rSum K) (one pSum) := cm_one fun oa o F A x ps P e r k => by
  unfold pSum at e
  split at e
  · rename_i ds h0
    split at e
    · rename_i bs h1
      cases e
      cases numsD_eq h1
      obtain ⟨a, xs, rfl, h2, h3⟩ := asL_rp h0 r
      cases dps_nums h3
      exact fun H w Q c => ⟨a, bs, rfl, h2.at w, c _ _ _ _ w (ret_dat k (.int _))⟩
    · cases e
  · cases e
/-- the greatest, the least -/
def topI : List Int → Option Int
  | [] => none
  | x :: xs => some (xs.foldl max x)
def lowI : List Int → Option Int
  | [] => none
  | x :: xs => some (xs.foldl min x)
theorem foldl_max {xs : List Int} : ∀ {x : Int}, (xs.foldl max x = x ∨ xs.foldl max x ∈ xs) ∧ x ≤ xs.foldl max x ∧ ∀ y ∈ xs, y ≤ xs.foldl max x := by
  induction xs with
  | nil => intro x; exact ⟨.inl rfl, Int.le_refl _, fun y hy => by cases hy⟩
  | cons z xs ih =>
    intro x
    obtain ⟨h1, h2, h3⟩ := ih (x := max x z)
    rw [List.foldl_cons]
    refine ⟨?_, by omega, fun y hy => ?_⟩
    · rcases h1 with h | h
      · rcases Int.le_total x z with q | q
        · exact .inr (by rw [h, Int.max_eq_right q]; simp)
        · exact .inl (by rw [h, Int.max_eq_left q])
      · exact .inr (by simp [h])
    · rcases List.mem_cons.mp hy with rfl | hy
      · omega
      · exact h3 y hy
theorem foldl_min {xs : List Int} : ∀ {x : Int}, (xs.foldl min x = x ∨ xs.foldl min x ∈ xs) ∧ xs.foldl min x ≤ x ∧ ∀ y ∈ xs, xs.foldl min x ≤ y := by
  induction xs with
  | nil => intro x; exact ⟨.inl rfl, Int.le_refl _, fun y hy => by cases hy⟩
  | cons z xs ih =>
    intro x
    obtain ⟨h1, h2, h3⟩ := ih (x := min x z)
    rw [List.foldl_cons]
    refine ⟨?_, by omega, fun y hy => ?_⟩
    · rcases h1 with h | h
      · rcases Int.le_total x z with q | q
        · exact .inl (by rw [h, Int.min_eq_left q])
        · exact .inr (by rw [h, Int.min_eq_right q]; simp)
      · exact .inr (by simp [h])
    · rcases List.mem_cons.mp hy with rfl | hy
      · omega
      · exact h3 y hy
theorem topI_spec {xs : List Int} {m : Int} (h : topI xs = some m) : m ∈ xs ∧ ∀ y ∈ xs, y ≤ m := by
  cases xs with
  | nil => cases h
  | cons x xs =>
    cases h
    obtain ⟨h1, h2, h3⟩ := foldl_max (xs := xs) (x := x)
    refine ⟨?_, fun y hy => ?_⟩
    · rcases h1 with h | h
      · rw [h]; simp
      · simp [h]
    · rcases List.mem_cons.mp hy with rfl | hy
      · exact h2
      · exact h3 y hy
theorem lowI_spec {xs : List Int} {m : Int} (h : lowI xs = some m) : m ∈ xs ∧ ∀ y ∈ xs, m ≤ y := by
  cases xs with
  | nil => cases h
  | cons x xs =>
    cases h
    obtain ⟨h1, h2, h3⟩ := foldl_min (xs := xs) (x := x)
    refine ⟨?_, fun y hy => ?_⟩
    · rcases h1 with h | h
      · rw [h]; simp
      · simp [h]
    · rcases List.mem_cons.mp hy with rfl | hy
      · exact h2
      · exact h3 y hy
def pTop (o : O) : Option O := match asL o with
  | some ds => match numsD ds with
    | some bs => match topI bs with
      | some m => some (.dat (.int m))
      | none => none
    | none => none
  | none => none
theorem cm_top : CbM K (uMax K) (one pTop) := cm_one fun oa o F A x ps P e r k => by
  unfold pTop at e
  split at e
  · rename_i ds h0
    split at e
    · rename_i bs h1
      split at e
      · rename_i m h4
        cases e
        cases numsD_eq h1
        obtain ⟨a, xs, rfl, h2, h3⟩ := asL_rp h0 r
        cases dps_nums h3
        have sp := topI_spec h4
        refine fun H w Q c => .inr ⟨a, bs, rfl, h2.at w, List.length_pos_of_mem sp.1, fun m' hm hy => ?_⟩
        have : m' = m := Int.le_antisymm (sp.2 m' hm) (hy m sp.1)
        subst this
        exact c _ _ _ _ w (ret_dat k (.int _))
      · cases e
    · cases e
  · cases e
def pLow (o : O) : Option O := match asL o with
  | some ds => match numsD ds with
    | some bs => match lowI bs with
      | some m => some (.dat (.int m))
      | none => none
    | none => none
  | none => none
theorem cm_low : CbM K (uMin K) (one pLow) := cm_one fun oa o F A x ps P e r k => by
  unfold pLow at e
  split at e
  · rename_i ds h0
    split at e
    · rename_i bs h1
      split at e
      · rename_i m h4
        cases e
        cases numsD_eq h1
        obtain ⟨a, xs, rfl, h2, h3⟩ := asL_rp h0 r
        cases dps_nums h3
        have sp := lowI_spec h4
        refine fun H w Q c => .inr ⟨a, bs, rfl, h2.at w, List.length_pos_of_mem sp.1, fun m' hm hy => ?_⟩
        have : m' = m := Int.le_antisymm (hy m sp.1) (sp.2 m' hm)
        subst this
        exact c _ _ _ _ w (ret_dat k (.int _))
      · cases e
    · cases e
  · cases e
/-! ### methods of lists that only read -/
def MetM (K : PySem.W.Frag) (r : V → List V → Hp → VK → Prop) (f : O → List O → Option O) : Prop := ∀ oa os o F A x vs ps (P : PV), f oa os = some o → Rp K F A x oa ps → Each K F A vs os →
  (∀ v F' A' np, Step [] np F A F' A' → np.Nodup → Rp K F' A' v o np → P v F' A') → Wp (r x vs) F A P
def mMet (f : O → List O → Option O) (mo : mB) (m : mA) : mB := fun ε => match mo ε with
  | some (r, ε1) => match r.get ε1 with
    | some o1 => match asL o1 with
      | some _ => match m ε1 with
        | some (rs, ε2) => match r.get ε2 with
          | some oa => match getAll rs ε2 with
            | some os => match f oa os with
              | some o => some (.val o, ε2)
              | none => none
            | none => none
          | none => none
        | none => none
      | none => none
    | none => none
  | none => none
theorem sl_tyV {F A H : Hp} {a : Addr} {xs : List V} (h : Sl K F A a xs) (w : Wd F A H) : tyV K "list" (.ref a) H := .inl ⟨rfl, xs, h.at w⟩
theorem sn_met {r : V → List V → Hp → VK → Prop} {f : O → List O → Option O} {to : TE} {mo : mB} {t : TA} {m : mA} (hr : MetM K r f) (ho : Sn K to mo) (ha : SnA K t m) : Sn K (tBM K "list" r to t) (mMet f mo m) := fun ε rr ε' σ F A fp P e q n k => by
  unfold mMet at e
  split at e
  · rename_i ra ε1 e1
    split at e
    · rename_i o1 e2
      split at e
      · rename_i ds e3
        split at e
        · rename_i rs ε2 e4
          split at e
          · rename_i oa e5
            split at e
            · rename_i os e6
              split at e
              · rename_i o e7
                cases e
                refine e_bm (ho ε ra ε1 σ F A fp _ e1 q n fun x F1 A1 fp1 np1 s1 n1 q1 x1 => ⟨fun H w => ?_, ?_⟩)
                · obtain ⟨ps, p1⟩ := x1.rp q1 e2
                  obtain ⟨a, xs, rfl, h1, h2⟩ := asL_rp e3 p1
                  exact sl_tyV h1 w
                · refine ha ε1 rs _ σ F1 A1 fp1 _ e4 q1 (List.nodup_append.mp n1).1 fun vs F2 A2 fp2 np2 s2 n2 q2 x2 => ?_
                  obtain ⟨ps, p1⟩ := (x1.step s2 n1).rp q2 e5
                  refine hr oa os o F2 A2 x vs ps P e7 p1 (get_all q2 x2 e6) fun v F' A' np s n' p => ?_
                  obtain ⟨g1, g2⟩ := s.grow q2.in (List.nodup_append.mp n2).1 n'
                  exact k v F' A' fp2 np (((s1.sub fun x hx => by simp [hx]).trans (s2.sub fun x hx => by simp [hx])).trans g1) g2 (q2.grow s) p
              · cases e
            · cases e
          · cases e
        · cases e
      · cases e
    · cases e
  · cases e
/-! l.count(x), items of any kind -/
def rCountD (K : PySem.W.Frag) : V → List V → Hp → VK → Prop := fun x xs H Q => ∃ (a : Addr) (y : V) (d : D) (ds : List D), x = .ref a ∧ xs = [y] ∧ Dp K H (.ref a) (.list ds) ∧ Dp K H y d ∧ SeqAt.shaped (.list ds) = true ∧ SeqAt.shaped d = true ∧ Q (.int (ds.countP fun z => PyData.eqv z d : Nat)) H
theorem mt_countD {X : Cx} (hK : X.K = K) (hu : X.A.units + 65 < cLine) : MtR X "list.count" (rCountD K) := by
  subst hK
  rintro pins s σ H x xs v us Q I rx rxs ⟨a, y, d, ds, rfl, rfl, hl, hy, sl, sd, q⟩
  cases rx
  cases rxs with
  | cons ry rt =>
    rename_i uy ut
    cases rt
    have ⟨bs, r1⟩ := Dp.reads I d y uy hy ry
    have lay : PyData.canLayAll0 ds = true := SeqAt.canLay_of_shaped sl
    obtain ⟨a', xs, e, hs, ha⟩ := dp_lst hl
    cases e
    obtain ⟨its, rv, ⟨⟨c0, dd, d0, sls⟩, n, ho, e0, -, e1⟩, -⟩ := I.list hs
    cases e0; cases e1
    have ⟨as, h4⟩ := Dp.readsAll I ds _ its ha rv
    have hmap := SeqAt.readsAll_map ds its as lay h4
    refine call_meets F.slot_list_count ⟨_, ho, rfl⟩ F.entry_list_count (F.args_list_count_2 _ _) (SeqAt.list_countAt a its.toArray n dd sls uy fun u => PyData.eqv (SeqAt.readOf s.heap u) d)
      ⟨ho, SeqAt.items_eqAt (vs := its.toArray) (by simpa using h4) r1 lay (SeqAt.canLay_of_shaped sd) (PyProof.Rows.room_in_shaped sd hu), ⟨.int _, H, I.tok _, ⟨_, rfl⟩, ?_⟩⟩
    rw [show its.toArray.toList.countP (fun u => PyData.eqv (SeqAt.readOf s.heap u) d) = ds.countP fun z => PyData.eqv z d by rw [← hmap, List.countP_map]; rfl]
    exact q
def pCount (o : O) (os : List O) : Option O := match os with
  | [b] => match asL o with
    | some ds => if shp b && SeqAt.shaped (.list ds) then some (.dat (.int (ds.countP fun z => PyData.eqv z b.er : Nat))) else none
    | none => none
  | _ => none
theorem mm_count : MetM K (rCountD K) pCount := fun oa os o F A x vs ps P e r rs k => by
  unfold pCount at e
  split at e
  · rename_i b
    split at e
    · rename_i ds h0
      split at e
      · rename_i h
        cases e
        cases rs with
        | cons r2 rn =>
          cases rn
          rw [Bool.and_eq_true_iff] at h
          obtain ⟨p1, s1⟩ := shp_eq h.1
          obtain ⟨a, xs, rfl, h1, h2⟩ := asL_rp h0 r
          exact fun H w Q c => ⟨a, _, _, ds, rfl, rfl, dp_mono w.j (dpl_of w h1 h2), dp_mono w.j (r2.dp w p1), h.2, s1, c _ _ _ _ w (ret_dat k (.int _))⟩
      · cases e
    · cases e
  · cases e
end
end M
namespace M
open PySem PySem.Spec L2 Z
section
variable {X : Cx} (K : PySem.W.Frag) (hK : X.K = K)
include hK
theorem kAll (hc : X.calm = true) : CallR X (.builtin "all") (rAll K) := by subst hK; exact cr_all hc
theorem kSum (hc : X.calm = true) : CallR X (.builtin "sum") (rSum K) := by subst hK; exact cr_sum hc
theorem kzipA {e e2 : Expr} {ta : TA} {p pos tpos : Pos} {elts : List Expr} {kk : Nat} (hg : Gl X "zip") (hm : X.mg "zip" = none) (ha : PA X [e, e2] ta)
    (h1 : starEach [e, e2] X.env = (false, eval e X.env) :: starEach [e2] X.env := by rfl)
    (h2 : (backTo pos (starEach [e2] X.env)).any (·.1) = false := by rfl) : PI X (.Tuple elts kk tpos) (.Call (.Name "zip" p) [e, e2] [] pos) (RZ.iZipA K ta) := by subst hK; exact RZ.pi_zipA hg hm ha h1 h2
end
end M
namespace M
open PySem PySem.Spec L2 Z
/-- a table of the module, by its object -/
def TabObj (w : World) (a : Addr) (o : Obj) (T : Tab) : Prop := ∃ es n, o = ⟨.type "dict", none, .dict es n, #[]⟩ ∧ (a == sysModules) = false ∧ EntOk w es.toList T
theorem tabObj_at {K : PySem.W.Frag} {w : World} {a : Addr} {o : Obj} {T : Tab} (hl : K.lookup a = some o) (h : TabObj w a o T) : TabAt K w a T := by
  obtain ⟨es, n, rfl, h1, h2⟩ := h
  exact ⟨es, n, hl, h1, h2⟩
end M
namespace M
open PySem PySem.Spec L2 Z
/-! ### list(range(a, b)) whatever the size of a and b -/
/-- how the range at r is gone through: its iterator begins as the object o, and gives a, a + 1, .. -/
structure RgIt (P : Program) (w : World) (r : Addr) (a b : Int) (n : Nat) (o : Obj) (St : Addr → Nat → Heap → Prop) : Prop where
  opens : ∀ (Ar : Around) (E : Value → Shared → Prop) (s : Shared) (Q : Value → Shared → Prop) (t u v : Tok), IsRange s.heap r a b 1 t u v → Q (.ref s.heap.objs.size) { s with heap := s.heap.push o } → wpAny (model P w) Ar (pyIter (.ref r)) Q E s
  goes : ∀ (Ar : Around) (i : Addr), Ar.handled = none → Walks P w Ar i [i] [i] n (fun j v => ∃ t, v = .int (a + (j : Nat) * 1) t) (St i)
  first : ∀ (i : Addr) (h : Heap), h.get? i = some o → St i 0 h
  live : o.isFreed = false
section
variable {P : Program} {w : World} {Ar : Around} {E : Value → Shared → Prop} {s : Shared} {r : Addr} {a b : Int} {n : Nat} {o : Obj} {St : Addr → Nat → Heap → Prop} {t u v : Tok}
abbrev lo (c : Nat) (us : Array Value) : Obj := { cls := .type "list", dict := none, data := .seq us c, slots := #[] }
/-- what is to hold behind the filling of the list at l -/
def Filled (s : Shared) (l : Addr) (a : Int) (n : Nat) (R : Result → Shared → Prop) (res : Value) : Prop := ∀ h' tk us c, (∀ x ob, x ≠ l → s.heap.get? x = some ob → h'.get? x = some ob) → h'.get? l = some (lo c us) →
  ItemsOf (fun j v => ∃ t, v = .int (a + (j : Nat) * 1) t) us n → R (.ok (.ret res)) { s with heap := h', toks := tk }
abbrev Goal (P : Program) (w : World) (Ar : Around) (R : Result → Shared → Prop) (x : Sem Fin) (s : Shared) : Prop :=
  wpAny (model P w) Ar.in1 x (fun fin s' => match fin with | .done f => R (.ok f) s' | .again c' => c'.quiet = true ∧ codeAny (model P w) Ar c' R s') (fun e s' => R (.error e) s') s
theorem fill_list {R : Result → Shared → Prop} {l : Addr} {res : Value} {c₀ : Nat} (g : RgIt P w r a b n o St) (calm : Ar.handled = none) (hr : IsRange s.heap r a b 1 t u v) (hn : Builtin.Range.rangeSize a b 1 = n) (few : n ≤ 2 ^ 24)
    (hl : s.heap.get? l = some (lo c₀ #[])) (out : Filled s l a n R res) : Goal P w Ar R (Builtin.List.listExtendWith (.ref l) (.ref r) res) s := by
  have ne : l ≠ r := by rintro rfl; rw [hr] at hl; simp [lo] at hl
  have ll := Heap.lt_size hl
  have li : l ≠ s.heap.objs.size := Nat.ne_of_lt ll
  -- the loop, from any heap that holds the new iterator and the empty list
  have loop : ∀ (h : Heap) (c tk : Nat), h.get? s.heap.objs.size = some o → h.get? l = some (lo c #[]) → (∀ x ob, x ≠ l → s.heap.get? x = some ob → h.get? x = some ob) →
      codeAny (model P w) Ar (.builtin "list.extend.loop" ⟨[.ref l, .ref s.heap.objs.size, res], []⟩) R { s with heap := h, toks := tk } := fun h c tk h1 h2 h3 => by
    have W := (g.goes Ar.in1 s.heap.objs.size calm).toS
    refine codeAny_extend_loopS W (by rw [sizeLine_eq]; omega) l (by simpa using li) res n 0 _ #[] c rfl (Nat.zero_le _) (g.first _ _ h1) h2 (ItemsOf.nil _) fun s' us c' mv h4 h5 => ?_
    rw [mv.eq_with]
    refine out s'.heap s'.toks us c' (fun x ob hx e => mv.heap x ob (fun z => ?_) (h3 x ob hx e)) h4 h5
    rcases List.mem_cons.mp z with z | z
    · exact hx z
    · rw [List.mem_singleton.mp z] at e
      exact Nat.lt_irrefl _ (Heap.lt_size e)
  show wpAny _ _ (typeOf (.ref r) >>= _) _ _ _
  refine wpAny_bind (wpAny_typeOf ⟨_, hr, rfl⟩ ?_)
  rw [if_neg (by simp [Builtin.List.listSameRef, ne])]
  refine wpAny_bind (g.opens _ _ s _ t u v hr ?_)
  have keep : ∀ x ob, s.heap.get? x = some ob → (s.heap.push o).get? x = some ob := fun x ob e => Heap.get?_push_of_some o e
  have io : (s.heap.push o).get? s.heap.objs.size = some o := Heap.get?_push_size _ g.live
  refine wpAny_bind (wpAny_holding (wpAny_hint_range (keep _ _ hr) hn few ?_))
  refine wpAny_ite_split (fun _ => wpAny_bind (wpAny_rule (wpAny_bind ?_))) fun _ => ?_
  · show wpAny _ _ (updateSeq l (·.push .none) >>= fun _ => updateSeq l (·.pop)) _ _ _
    refine wpAny_bind (wpAny_updateSeq (keep _ _ hl) rfl ?_)
    have g1 := Heap.get?_update_self (Obj.mapSeq (·.push Value.none)) (keep _ _ hl) rfl
    refine wpAny_updateSeq (hz := by seq_fits) g1 rfl ?_
    have g2 := Heap.get?_update_self (Obj.mapSeq (·.pop)) g1 rfl
    have far : ∀ x ob, x ≠ l → (s.heap.push o).get? x = some ob → (((s.heap.push o).update l (Obj.mapSeq (·.push Value.none))).update l (Obj.mapSeq (·.pop))).get? x = some ob := fun x ob hx e => by
      rw [Heap.get?_update_other _ _ hx.symm, Heap.get?_update_other _ _ hx.symm]; exact e
    exact wpAny_pure ⟨plainId_quiet F.plain_extend_loop _, loop _ _ _ (far _ _ li.symm io) g2 fun x ob hx e => far x ob hx (keep x ob e)⟩
  · exact wpAny_pure ⟨plainId_quiet F.plain_extend_loop _, loop _ _ _ io (keep _ _ hl) fun x ob _ e => keep x ob e⟩
theorem list_new {Q : Value → Shared → Prop} (g : RgIt P w r a b n o St) (calm : Ar.handled = none) (hr : IsRange s.heap r a b 1 t u v) (hn : Builtin.Range.rangeSize a b 1 = n) (few : n ≤ 2 ^ 24)
    (q : ∀ h' tk us c, (∀ x ob, s.heap.get? x = some ob → h'.get? x = some ob) → h'.get? s.heap.objs.size = some (lo c us) → ItemsOf (fun j v => ∃ t, v = .int (a + (j : Nat) * 1) t) us n → Q (.ref s.heap.objs.size) { s with heap := h', toks := tk }) :
    wpAny (model P w) Ar (call (.type "list") [.ref r]) Q E s := by
  let s1 : Shared := { s with heap := s.heap.push (lo 0 #[]) }
  have new : s1.heap.get? s.heap.objs.size = some (lo 0 #[]) := Heap.get?_push_size _ rfl
  have old : ∀ x ob, s.heap.get? x = some ob → s1.heap.get? x = some ob := fun x ob e => Heap.get?_push_of_some _ e
  refine callType_codes (Q₁ := fun ov s' => ov = .ref s.heap.objs.size ∧ s' = s1)
    F.called_list (F.typeCall_list_1 _)
    F.entry_list_init (code_list_new _ ⟨rfl, rfl⟩) ?_
  rintro _ _ ⟨rfl, rfl⟩
  refine ⟨⟨_, new, rfl⟩, F.args_list_init_2 _ _, ?_⟩
  show wpAny _ _ (Builtin.List.listItems (.ref s.heap.objs.size) >>= fun was => Builtin.List.listUpdate (.ref s.heap.objs.size) (fun _ => #[]) >>= fun _ => letGo was.toList.reverse >>= fun _ => Builtin.List.listExtendWith (.ref s.heap.objs.size) (.ref r) .none) _ _ s1
  refine wpAny_bind ?_
  unfold Builtin.List.listItems
  refine wpAny_bind (wpAny_seqItems new rfl (wpAny_pure ?_))
  refine wpAny_bind ?_
  show wpAny _ _ (updateSeq s.heap.objs.size fun _ => #[]) _ _ s1
  refine wpAny_updateSeq new rfl (wpAny_bind (wpAny_letGo ?_))
  have g1 := Heap.get?_update_self (Obj.mapSeq fun _ => (#[] : Array Value)) new rfl
  have far : ∀ x ob, x ≠ s.heap.objs.size → s1.heap.get? x = some ob → (s1.heap.update s.heap.objs.size (Obj.mapSeq fun _ => (#[] : Array Value))).get? x = some ob := fun x ob hx e => by
    rw [Heap.get?_update_other _ _ hx.symm]; exact e
  refine fill_list (Ar := Ar.in1) g calm (far _ _ (Nat.ne_of_lt (Heap.lt_size hr)) (old _ _ hr)) hn few g1 fun h' tk us c h1 h2 h3 => ?_
  exact ⟨rfl, q h' tk us c (fun x ob e => h1 x ob (Nat.ne_of_lt (Heap.lt_size e)) (far x ob (Nat.ne_of_lt (Heap.lt_size e)) (old x ob e))) h2 h3⟩
end
section
variable {P : Program} {w : World} {r : Addr} {a b : Int} {n : Nat}
theorem rg_long (big : Builtin.Range.small a b 1 = false) (hn : Builtin.Range.rangeSize a b 1 = n) : RgIt P w r a b n { cls := .type "longrange_iterator", data := .fields #[rawInt a, rawInt (Builtin.Range.rangeSize a b 1), rawInt 1] }
    (fun i j h => IsLongIter h i (a + (j : Nat) * 1) ((n : Int) - (j : Nat)) 1) where
  opens := fun _ _ _ _ _ _ _ hr q => wpAny_pyIter_longrange hr big q
  goes := fun _ i calm => Walks.longrange calm i a 1 n
  first := fun i h e => by
    show h.get? i = _
    rw [e, hn]; simp
  live := rfl
theorem rg_small (sm : Builtin.Range.small a b 1 = true) (hn : Builtin.Range.rangeSize a b 1 = n) : RgIt P w r a b n { cls := .type "range_iterator", data := .fields #[rawInt a, rawInt (Builtin.Range.rangeSize a b 1), rawInt 1] }
    (fun i j h => IsRangeIter h i (a + (j : Nat) * 1) ((n : Int) - (j : Nat)) 1) where
  opens := fun _ _ _ _ _ _ _ hr q => wpAny_pyIter_range hr sm q
  goes := fun _ i calm => Walks.range calm i a 1 n
  first := fun i h e => by
    show h.get? i = _
    rw [e, hn]; simp
  live := rfl
end
section
variable {X : Cx} {e : Expr} {te : St → Hp → (Int → Int → Hp → Prop) → Prop}
def tLstAny (te : St → Hp → (Int → Int → Hp → Prop) → Prop) : TE := fun σ H Q => te σ H fun a b H1 => (b - a).toNat ≤ 2 ^ 24 ∧ ∀ p, H1 p = none → Q (.ref p) (upd H1 p (.lst (rgV a b)))
theorem pe_listAny {p pos : Pos} (hc : X.calm = true) (hg : Gl X "list") (hm : X.mg "list" = none) (he : PRg X e te) (na : starEach [e] X.env = (false, eval e X.env) :: starEach [] X.env := by rfl) : PE X (.Call (.Name "list" p) [e] [] pos) (tLstAny te) := by
  refine ⟨fun pins s σ H Q I h => PyProof.Rows.Call_ (ld_blt I hg hm PyProof.Rows.boot_list (PyProof.Rows.callWith_type1 (PyProof.Rows.args_cons (thn (he pins s σ H _ I h) fun x s1 ⟨r, a, b, t, u, v, H1, ex, hr, I1, few, q⟩ => PyProof.Rows.args_nil ?_) na) na))⟩
  subst ex
  have sz := PyProof.Rows.rangeSize_nat a b
  have lay : ∀ h' tk us c, (∀ x ob, s1.heap.get? x = some ob → h'.get? x = some ob) → h'.get? s1.heap.objs.size = some (lo c us) → ItemsOf (fun j v => ∃ t, v = .int (a + (j : Nat) * 1) t) us (b - a).toNat → EP X pins σ Q (.ref s1.heap.objs.size) { s1 with heap := h', toks := tk } := fun h' tk us c hk hl hi => by
    have new : ObjOk X.prog X.w (upd H1 s1.heap.objs.size (.lst (rgV a b))) h' s1.heap.objs.size (.lst (rgV a b)) := ⟨by rw [rgV_length, sizeLine_eq]; omega, us.toList, c, vals_rg hi, by rw [Array.toArray_toList]; exact hl⟩
    exact ⟨.ref _, _, I1.laid hk (Nat.le_refl _) new, rfl, q _ (I1.hok.fresh (Nat.le_refl _))⟩
  cases sm : Builtin.Range.small a b 1 with
  | true => exact list_new (rg_small sm sz) (I1.ok.hd hc) hr sz few lay
  | false => exact list_new (rg_long sm sz) (I1.ok.hd hc) hr sz few lay
end
section
variable {K : PySem.W.Frag} {ta tb : TE} {ma mb : mB}
def mLRg2 (ma mb : mB) : mB := fun ε => match ma ε with
  | some (.val (.dat (.int i)), ε1) => match mb ε1 with
    | some (.val (.dat (.int j)), ε2) => if (j - i).toNat ≤ 2 ^ 20 then some (.val (.lst ((intsD i (j - i).toNat).map .dat)), ε2) else none
    | _ => none
  | _ => none
theorem sn_lrg2 (ha : Sn K ta ma) (hb : Sn K tb mb) : Sn K (tLstAny (tRg2 ta tb)) (mLRg2 ma mb) := fun ε rr ε' σ F A fp P e q n k => by
  unfold mLRg2 at e
  split at e
  · rename_i i ε1 e1
    split at e
    · rename_i j ε2 e2
      split at e
      · rename_i hj
        cases e
        intro H w Q c
        refine ha.fact e1 q n H w _ fun x F1 A1 H1 w1 ⟨fp1, np1, s1, n1, q1, x1⟩ => ?_
        refine hb.fact e2 q1 (List.nodup_append.mp n1).1 H1 w1 _ fun y F2 A2 H2 w2 ⟨fp2, np2, s2, n2, q2, x2⟩ => ?_
        cases x1 with
        | dat x1 => cases x2 with
          | dat x2 =>
            cases dp_int x1; cases dp_int x2
            refine ⟨i, j, rfl, rfl, Nat.le_trans hj (by decide), fun p hp => ?_⟩
            have hA := w2.an hp
            have st : Step [] [p] F2 A2 F2 (upd A2 p (.lst (rgV i j))) := ⟨Same.refl _, fun x u _ e => by rw [upd_ne (ne_of_none e hA)]; exact e, fun x hx => by simp at hx; subst hx; exact .inr hA⟩
            rw [List.append_nil] at s1 n1 s2 n2
            obtain ⟨g1, g2⟩ := st.grow q2.in n2 (by simp)
            exact c _ _ _ _ (w2.newA hp) (k _ _ _ fp2 [p] ((s1.trans s2).trans g1) g2 (q2.grow st) (.lst upd_same (rpAll_dat (dps_rg i j))))
      · cases e
    · cases e
  · cases e
end
theorem w_lrg2 {ε : Env} {P : Rs → Env → Prop} {ma mb : mB} (h : W2 (ma ε) fun a ε1 => ∃ i, a = .val (.dat (.int i)) ∧ W2 (mb ε1) fun b ε2 => ∃ j, b = .val (.dat (.int j)) ∧ (j - i).toNat ≤ 2 ^ 20 ∧ P (.val (.lst ((intsD i (j - i).toNat).map .dat))) ε2) : W2 (mLRg2 ma mb ε) P := by
  obtain ⟨_, ε1, e1, i, rfl, _, ε2, e2, j, rfl, hj, q⟩ := h
  exact ⟨_, ε2, by simp only [mLRg2, e1, e2, if_pos hj], q⟩
theorem w_lrg1 {ε : Env} {P : Rs → Env → Prop} {ma : mB} (h : W2 (ma ε) fun a ε1 => ∃ j : Int, a = .val (.dat (.int j)) ∧ (-(2 ^ 62) ≤ j ∧ j < 2 ^ 62 ∧ j.toNat ≤ 2 ^ 24) ∧ P (.val (.lst ((intsD 0 j.toNat).map .dat))) ε1) : W2 (mLRg1 ma ε) P := by
  obtain ⟨_, ε1, e1, j, rfl, hj, q⟩ := h
  exact ⟨_, ε1, by simp only [mLRg1, e1, if_pos hj], q⟩
end M
namespace M
open PySem PySem.Spec L2 Z
/-! ### dicts that are owned: keys ints and texts, values data -/
def valD (kvs : List (Key × D)) (k : Key) : Option D := (kvs.find? fun kv => decide (kv.1 = k)).map (·.2)
def putD (kvs : List (Key × D)) (k : Key) (d : D) : List (Key × D) :=
  if (kvs.any fun kv => decide (kv.1 = k)) = true then kvs.map (fun kv => if kv.1 = k then (kv.1, d) else kv) else kvs ++ [(k, d)]
section
variable {K : PySem.W.Frag} {F A : Hp}
theorem KD.len : ∀ {xs : List (Key × V)} {kvs : List (Key × D)}, KD K F xs kvs → xs.length = kvs.length
  | _, _, .nil => rfl
  | _, _, .cons _ hs => by simp [hs.len]
theorem KD.val {k : Key} : ∀ {xs : List (Key × V)} {kvs : List (Key × D)}, KD K F xs kvs → match valD kvs k with
    | some d => ∃ v, valV xs k = some v ∧ Dp K F v d
    | none => valV xs k = none
  | _, _, .nil => rfl
  | _, _, .cons (k := j) (v := v) (d := d) h hs => by
    by_cases z : j = k
    · have e1 : ∀ r, valD ((j, d) :: r) k = some d := fun r => by simp [valD, z]
      rw [e1]
      exact ⟨v, valV_pos z, h⟩
    · have e1 : ∀ r, valD ((j, d) :: r) k = valD r k := fun r => by simp [valD, z]
      rw [e1, valV_neg (p := (j, v)) z]
      exact KD.val hs
theorem KD.any {k : Key} : ∀ {xs : List (Key × V)} {kvs : List (Key × D)}, KD K F xs kvs → (xs.any fun kv => decide (kv.1 = k)) = kvs.any fun kv => decide (kv.1 = k)
  | _, _, .nil => rfl
  | _, _, .cons h hs => by rw [List.any_cons, List.any_cons, KD.any hs]
theorem KD.repl {k : Key} {v : V} {d : D} (hv : Dp K F v d) : ∀ {xs : List (Key × V)} {kvs : List (Key × D)}, KD K F xs kvs → KD K F (xs.map fun kv => if kv.1 = k then (kv.1, v) else kv) (kvs.map fun kv => if kv.1 = k then (kv.1, d) else kv)
  | _, _, .nil => .nil
  | _, _, .cons (k := j) h hs => by
    rw [List.map_cons, List.map_cons]
    by_cases z : j = k
    · simp only [z, if_true]; exact .cons hv (KD.repl hv hs)
    · simp only [z, if_false]; exact .cons h (KD.repl hv hs)
theorem KD.snoc {k : Key} {v : V} {d : D} (hv : Dp K F v d) : ∀ {xs : List (Key × V)} {kvs : List (Key × D)}, KD K F xs kvs → KD K F (xs ++ [(k, v)]) (kvs ++ [(k, d)])
  | _, _, .nil => .cons hv .nil
  | _, _, .cons h hs => .cons h (KD.snoc hv hs)
theorem KD.put {k : Key} {v : V} {d : D} (hv : Dp K F v d) {xs : List (Key × V)} {kvs : List (Key × D)} (h : KD K F xs kvs) : KD K F (putK xs k v) (putD kvs k d) := by
  unfold putK putD
  rw [h.any]
  split
  · exact h.repl hv
  · exact h.snoc hv
/-- the dict in a slot -/
theorem slot_dic {ε : Env} {σ : St} {fp : List Addr} {i : Nat} {x : V} {kvs : List (Key × D)} (q : Rel K F A ε σ fp) (h : σ[i]? = some (some x)) (e : slotAt ε i = some (.dic kvs)) :
    ∃ p xs fp1, x = .ref p ∧ A p = some (.dK xs) ∧ KD K F xs kvs ∧ Rel K F A (ε.set i none) σ fp1 ∧ fp.Perm (p :: fp1) ∧ i < ε.length := by
  obtain ⟨v, ps, fp1, h1, h2, h3, h4⟩ := q.get (slotAt_eq e)
  rw [h] at h1
  cases h1
  have hl : i < ε.length := by
    rcases Nat.lt_or_ge i ε.length with z | z
    · exact z
    · have := slotAt_eq e
      rw [List.getElem?_eq_none z] at this; cases this
  cases h2 with
  | dic h5 h6 => exact ⟨_, _, fp1, rfl, h5, h6, h3, h4, hl⟩
theorem slot_putD {ε : Env} {σ : St} {fp1 fp : List Addr} {i : Nat} {p : Addr} {ys : List (Key × V)} {kvs : List (Key × D)} (q : Rel K F A (ε.set i none) σ fp1) (hx : σ[i]? = some (some (.ref p))) (hl : i < ε.length) (hn : fp.Nodup) (hp : fp.Perm (p :: fp1)) (hd : KD K F ys kvs) :
    ∃ fp', Rel K F (upd A p (.dK ys)) (ε.set i (some (.dic kvs))) σ fp' ∧ fp'.Nodup ∧ Step fp fp' F A F (upd A p (.dK ys)) := by
  have n1 : (p :: fp1).Nodup := hp.nodup_iff.mp hn
  have nd := List.nodup_cons.mp n1
  have q2 : Rel K F (upd A p (.dK ys)) (ε.set i none) σ fp1 := q.mono (Same.refl _) fun x hx u e => by
    rw [upd_ne fun z => nd.1 (by rw [← z]; exact hx)]; exact e
  obtain ⟨fp2, h1, h2⟩ := q2.back (i := i) (by simp [hl]) hx (.dic upd_same hd)
  rw [List.set_set] at h1
  refine ⟨fp2, h1, h2.nodup_iff.mpr n1, ⟨Same.refl _, fun x u hx e => ?_, fun x hx => .inl ?_⟩⟩
  · rw [upd_ne fun z => hx (hp.mem_iff.mpr (by rw [z]; simp))]; exact e
  · exact hp.mem_iff.mpr (h2.mem_iff.mp hx)
end
section
variable {K : PySem.W.Frag} {td ty tx te : TE} {mo mk mx me : mB} {W : List Nat}
/-- {} -/
def mDNew : mB := fun ε => some (.val (.dic []), ε)
theorem sn_dnew : Sn K tDNewK mDNew := fun ε r ε' σ F A fp P e q n k => by
  cases e
  intro H w Q c p hp
  have hA := w.an hp
  have st : Step [] [p] F A F (upd A p (.dK [])) := ⟨Same.refl _, fun x u _ e => by rw [upd_ne (ne_of_none e hA)]; exact e, fun x hx => by simp at hx; subst hx; exact .inr hA⟩
  obtain ⟨g1, g2⟩ := st.grow q.in n (by simp)
  exact c _ _ _ _ (w.newA hp) (k _ _ _ fp [p] g1 g2 (q.grow st) (.dic upd_same .nil))
/-- what stands in a slot as a dict, owned or locked -/
def dicAt (ε : Env) (i : Nat) : Option (List (Key × D)) := match slotAt ε i with
  | some (.dic kvs) => some kvs
  | some (.lck kvs) => some kvs
  | _ => none
theorem dicAt_rd {F A H : Hp} {ε : Env} {σ : St} {fp : List Addr} {i : Nat} {x : V} {kvs : List (Key × D)} (w : Wd F A H) (q : Rel K F A ε σ fp) (h : σ[i]? = some (some x)) (e : dicAt ε i = some kvs) : ∃ p xs, x = .ref p ∧ Rd H p (.dK xs) ∧ KD K F xs kvs := by
  unfold dicAt at e
  split at e
  · rename_i e1
    cases e
    obtain ⟨p, xs, fp1, rfl, h1, h2, _⟩ := slot_dic q h e1
    exact ⟨p, xs, rfl, .inl (w.a _ _ h1), h2⟩
  · rename_i e1
    cases e
    obtain ⟨v, ps, fp1, h1, h2, _, _⟩ := q.get (slotAt_eq e1)
    rw [h] at h1
    cases h1
    cases h2 with
    | lck h3 h4 => exact ⟨_, _, rfl, .inr ⟨_, w.f _ _ h3⟩, h4⟩
  · cases e
/-- d[k] -/
def mDIx (mo mk : mB) : mB := fun ε => match mo ε with
  | some (.slot i, ε1) => match mk ε1 with
    | some (.val (.dat d), ε2) => match keyOf d with
      | some k => match dicAt ε2 i with
        | some kvs => match valD kvs k with
          | some e => some (.val (.dat e), ε2)
          | none => none
        | none => none
      | none => none
    | _ => none
  | _ => none
theorem sn_dix (ho : Sn K td mo) (hk : Sn K ty mk) : Sn K (tDGet td ty) (mDIx mo mk) := fun ε rr ε' σ F A fp P e q n k => by
  unfold mDIx at e
  split at e
  · rename_i i ε1 e1
    split at e
    · rename_i d ε2 e2
      split at e
      · rename_i j e3
        split at e
        · rename_i kvs e4
          split at e
          · rename_i d' e5
            cases e
            intro H w Q c
            refine ho.fact e1 q n H w _ fun x F1 A1 H1 w1 ⟨fp1, np1, s1, n1, q1, x1⟩ => ?_
            refine hk.fact e2 q1 (List.nodup_append.mp n1).1 H1 w1 _ fun y F2 A2 H2 w2 ⟨fp2, np2, s2, n2, q2, x2⟩ => ?_
            obtain ⟨p, xs, rfl, h1, h2⟩ := dicAt_rd w2 q2 x1.2 e4
            cases x2 with
            | dat x2 =>
              cases keyOf_eq e3 x2
              have hv := h2.val (k := j)
              rw [e5] at hv
              obtain ⟨v, g1, g2⟩ := hv
              refine ⟨p, v, rfl, .inl ⟨xs, j, h1, rfl, g1.symm⟩, c _ _ _ _ w2 (k v F2 A2 fp2 [] ?_ ?_ q2 (.dat g2))⟩
              · exact (s1.sub fun x hx => by simp [hx]).trans (s2.sub fun x hx => by simp at hx; simp [hx])
              · exact nod' (List.nodup_append.mp n2).1
          · cases e
        · cases e
      · cases e
    · cases e
  · cases e
/-- d.get(k, x) -/
def mDGet2 (mo mk mx : mB) : mB := fun ε => match mo ε with
  | some (.slot i, ε1) => match dicAt ε1 i with
    | some _ => match mk ε1 with
      | some (.val (.dat d), ε2) => match keyOf d with
        | some k => match mx ε2 with
          | some (r, ε3) => match dicAt ε3 i with
            | some kvs => match valD kvs k with
              | some e => some (.val (.dat e), ε3)
              | none => some (r, ε3)
            | none => none
          | none => none
        | none => none
      | _ => none
    | none => none
  | _ => none
theorem sn_dget2 (ho : Sn K td mo) (hk : Sn K ty mk) (hx : Sn K tx mx) : Sn K (tDGet2 td ty tx) (mDGet2 mo mk mx) := fun ε rr ε' σ F A fp P e q n k => by
  unfold mDGet2 at e
  split at e
  · rename_i i ε1 e1
    split at e
    · rename_i kvs0 e0
      split at e
      · rename_i d ε2 e2
        split at e
        · rename_i j e3
          split at e
          · rename_i r ε3 e4
            split at e
            · rename_i kvs e5
              intro H w Q c
              refine ho.fact e1 q n H w _ fun x F1 A1 H1 w1 ⟨fp1, np1, s1, n1, q1, x1⟩ => ?_
              obtain ⟨p, xs0, rfl, h01, _⟩ := dicAt_rd w1 q1 x1.2 e0
              refine ⟨p, rfl, .inl ⟨xs0, h01⟩, ?_⟩
              refine hk.fact e2 q1 (List.nodup_append.mp n1).1 H1 w1 _ fun y F2 A2 H2 w2 ⟨fp2, np2, s2, n2, q2, x2⟩ => ?_
              refine hx.fact e4 q2 (List.nodup_append.mp n2).1 H2 w2 _ fun z F3 A3 H3 w3 ⟨fp3, np3, s3, n3, q3, x3⟩ => ?_
              obtain ⟨p', xs, e6, h1, h2⟩ := dicAt_rd w3 q3 x1.2 e5
              cases e6
              have s123 : Step fp (fp3 ++ np3) F A F3 A3 := ((s1.sub fun x hx => by simp [hx]).trans (s2.sub fun x hx => by simp [hx])).trans s3
              cases x2 with
              | dat x2 =>
                cases keyOf_eq e3 x2
                have hv := h2.val (k := j)
                split at e
                · rename_i d' e7
                  cases e
                  rw [e7] at hv
                  obtain ⟨v, g1, g2⟩ := hv
                  refine ⟨some v, .inl ⟨xs, j, h1, rfl, g1.symm⟩, c _ _ _ _ w3 (k v F3 A3 fp3 [] (s123.sub fun x hx => by simp at hx; simp [hx]) (nod' (List.nodup_append.mp n3).1) q3 (.dat (dp_mono (Same.refl _) g2)))⟩
                · rename_i e7
                  cases e
                  rw [e7] at hv
                  exact ⟨none, .inl ⟨xs, j, h1, rfl, hv.symm⟩, c _ _ _ _ w3 (k z F3 A3 fp3 np3 s123 n3 q3 x3)⟩
            · cases e
          · cases e
        · cases e
      · cases e
    · cases e
  · cases e
/-- k in d -/
def mDIn (neg : Bool) (mk mo : mB) : mB := fun ε => match mk ε with
  | some (.val (.dat d), ε1) => match keyOf d with
    | some k => match mo ε1 with
      | some (.slot i, ε2) => match dicAt ε2 i with
        | some kvs => some (.val (.dat (.bool (if neg then !(valD kvs k).isSome else (valD kvs k).isSome))), ε2)
        | none => none
      | _ => none
    | none => none
  | _ => none
theorem din_core {neg : Bool} (ho : Sn K td mo) (hk : Sn K ty mk) {ε ε' : Env} {rr : Rs} {σ : St} {F A : Hp} {fp : List Addr} {P : PV} (e : mDIn neg mk mo ε = some (rr, ε')) (q : Rel K F A ε σ fp) (n : fp.Nodup) (k : KB K fp F A σ ε' rr P) {H : Hp} (w : Wd F A H) {Q : VK} (c : Ce P Q) :
    ty σ H fun y H1 => td σ H1 fun x H2 => ∃ a o, x = .ref a ∧ DGet H2 a y o ∧ Q (.bl (if neg then !o.isSome else o.isSome)) H2 := by
  unfold mDIn at e
  split at e
  · rename_i d ε1 e1
    split at e
    · rename_i j e3
      split at e
      · rename_i i ε2 e2
        split at e
        · rename_i kvs e4
          cases e
          refine hk.fact e1 q n H w _ fun y F1 A1 H1 w1 ⟨fp1, np1, s1, n1, q1, x1⟩ => ?_
          refine ho.fact e2 q1 (List.nodup_append.mp n1).1 H1 w1 _ fun x F2 A2 H2 w2 ⟨fp2, np2, s2, n2, q2, x2⟩ => ?_
          obtain ⟨p, xs, rfl, h1, h2⟩ := dicAt_rd w2 q2 x2.2 e4
          cases x1 with
          | dat x1 =>
            cases keyOf_eq e3 x1
            have hv := h2.val (k := j)
            refine ⟨p, valV xs j, rfl, .inl ⟨xs, j, h1, rfl, rfl⟩, ?_⟩
            have hs : (valV xs j).isSome = (valD kvs j).isSome := by
              cases g : valD kvs j with
              | none => rw [g] at hv; simp only at hv; rw [hv]; rfl
              | some d' => rw [g] at hv; obtain ⟨v, g1, _⟩ := hv; rw [g1]; rfl
            rw [hs]
            exact c _ _ _ _ w2 (k _ F2 A2 fp2 [] ((s1.sub fun x hx => by simp [hx]).trans (s2.sub fun x hx => by simp at hx; simp [hx])) (nod' (List.nodup_append.mp n2).1) q2 (.dat (.bl _)))
        · cases e
      · cases e
    · cases e
  · cases e
theorem sn_din (hk : Sn K ty mk) (ho : Sn K td mo) : Sn K (tDIn ty td) (mDIn false mk mo) := fun ε rr ε' σ F A fp P e q n k H w Q c => by
  have := din_core ho hk e q n k w c
  simpa only [tDIn, Bool.false_eq_true, if_false] using this
theorem sn_dnotin (hk : Sn K ty mk) (ho : Sn K td mo) : Sn K (tDNotIn ty td) (mDIn true mk mo) := fun ε rr ε' σ F A fp P e q n k H w Q c => by
  have := din_core ho hk e q n k w c
  simpa only [tDNotIn, if_true] using this
/-- d[k] = e -/
def mDPut (mo mk me : mB) : mS := fun ε => match me ε with
  | some (r, ε1) => match mo ε1 with
    | some (.slot i, ε2) => match mk ε2 with
      | some (.val (.dat c), ε3) => match keyOf c with
        | some j => match frzR r ε3 with
          | some (d, ε4) => match slotAt ε4 i with
            | some (.dic kvs) => if kvs.length < lim then some (.nx, ε4.set i (some (.dic (putD kvs j d)))) else none
            | _ => none
          | none => none
        | none => none
      | _ => none
    | _ => none
  | none => none
theorem ss_dput (ho : Sn K td mo) (hk : Sn K ty mk) (he : Sn K te me) : SnS K W (sDPut td ty te) (mDPut mo mk me) := fun ε f ε' σ F A fp D e q n k => by
  unfold mDPut at e
  split at e
  · rename_i r ε1 e1
    split at e
    · rename_i i ε2 e2
      split at e
      · rename_i cd ε3 e3
        split at e
        · rename_i j e4
          split at e
          · rename_i d ε4 e5
            split at e
            · rename_i kvs e6
              split at e
              · rename_i hlim
                cases e
                intro H w C c
                refine he.fact e1 q n H w _ fun v F1 A1 H1 w1 ⟨fp1, np1, s1, n1, q1, x1⟩ => ?_
                have n1' := (List.nodup_append.mp n1).1
                refine ho.fact e2 q1 n1' H1 w1 _ fun x F2 A2 H2 w2 ⟨fp2, np2, s2, n2, q2, x2⟩ => ?_
                have n2' := (List.nodup_append.mp n2).1
                have s2' : Step fp1 fp2 F1 A1 F2 A2 := s2.sub fun x hx => by simp [hx]
                refine hk.fact e3 q2 n2' H2 w2 _ fun y F3 A3 H3 w3 ⟨fp3, np3, s3, n3, q3, x3⟩ => ?_
                have n3' := (List.nodup_append.mp n3).1
                have s23 := s2'.trans (s3.sub (fp2 := fp3) fun x hx => by simp [hx])
                have x1' := x1.step s23 n1
                obtain ⟨g1, g2⟩ := s23.apart x1.in n1 n3'
                obtain ⟨F4, A4, fp4, w4, s4, n4, q4, d4⟩ := frz_res w3 q3 g2 x1' e5
                obtain ⟨p, xs, fpb, e8, a3, r3, q5, pm, hl⟩ := slot_dic q4 x2.2 e6
                cases e8
                cases x3 with
                | dat x3 =>
                  cases keyOf_eq e4 x3
                  obtain ⟨fp5, q6, n6, s6⟩ := slot_putD q5 x2.2 hl n4 pm (r3.put (k := j) d4)
                  exact ⟨p, _, rfl, .inl ⟨xs, j, w4.a _ _ a3, rfl, by rw [r3.len]; exact lim_lt (Nat.le_of_lt hlim), rfl⟩, c.nx _ _ _ _ (w4.put a3) (k σ _ _ fp5 [] ((((s1.trans g1).trans s4).trans s6)).nil' (nod' n6) q6 .refl)⟩
              · cases e
            · cases e
          · cases e
        · cases e
      · cases e
    · cases e
  · cases e
end
end M
namespace M
open PySem PySem.Spec L2 Z
/-! ### data in their order -/
def isT : D → Bool
  | .tuple (_ :: _) => true
  | _ => false
def notT : D → Bool
  | .tuple _ => false
  | .none => false
  | _ => true
/-- may be put in order: all of one kind, not deep -/
def ordB (ds : List D) : Bool := (ds.all fun d => ds.all fun e => PySem.W.alike d e) && (ds.all isT || ds.all notT) && (decide (ds.length ≤ lim) && PyData.canLayAll0 ds && decide (PyData.depthAll ds ≤ 60))
abbrev srtD (ds : List D) : List D := ds.mergeSort (PySem.W.dataLe false (fun d : D => d))
structure OrdB (ds : List D) : Prop where
  al : ∀ d ∈ ds, ∀ e ∈ ds, PySem.W.alike d e = true
  sh : (∀ d ∈ ds, isT d = true) ∨ ∀ d ∈ ds, notT d = true
  le : ds.length ≤ lim
  lay : PyData.canLayAll0 ds = true
  dep : PyData.depthAll ds ≤ 60
theorem ordB_iff {ds : List D} : ordB ds = true ↔ OrdB ds := by
  simp only [ordB, Bool.and_eq_true, Bool.or_eq_true, List.all_eq_true, decide_eq_true_eq]
  exact ⟨fun ⟨⟨a, b⟩, ⟨c, d⟩, e⟩ => ⟨a, b, c, d, e⟩, fun h => ⟨⟨h.al, h.sh⟩, ⟨h.le, h.lay⟩, h.dep⟩⟩
theorem isT_eq {d : D} (h : isT d = true) : ∃ x r, d = .tuple (x :: r) := by
  unfold isT at h
  split at h
  · exact ⟨_, _, rfl⟩
  · cases h
theorem notT_eq {d : D} (h : notT d = true) : d ≠ .none ∧ ∀ xs, d ≠ .tuple xs := by
  unfold notT at h
  split at h
  · cases h
  · cases h
  · rename_i h1 h2
    exact ⟨h2, h1⟩
theorem dep_mem : ∀ {ds : List D} {d : D}, d ∈ ds → d.depth ≤ PyData.depthAll ds
  | e :: ds, d, h => by
    rw [PyData.depthAll]
    rcases List.mem_cons.mp h with z | z
    · rw [z]; omega
    · have := dep_mem z; omega
theorem lay_mem : ∀ {ds : List D} {d : D}, PyData.canLayAll0 ds = true → d ∈ ds → d.canLay0 = true
  | e :: ds, d, hl, h => by
    rw [PyData.canLayAll0, Bool.and_eq_true] at hl
    rcases List.mem_cons.mp h with z | z
    · rw [z]; exact hl.1
    · exact lay_mem hl.2 z
theorem OrdB.able {ds : List D} (h : OrdB ds) : PySem.W.Sortable ds := h.sh.imp (fun z d hd => isT_eq (z d hd)) fun z d hd => notT_eq (z d hd)
section
variable {K : PySem.W.Frag} {H : Hp} {G : V → D → Prop}
abbrev Eh (G : V → D → Prop) : List V → List D → Prop := PySem.W.EachIs G
theorem dps_eh : ∀ {xs : List V} {ds : List D}, DpAll K H xs ds → Eh (Dp K H) xs ds
  | _, _, .nil => .nil
  | _, _, .cons h hs => .cons h (dps_eh hs)
theorem eh_dps (g : ∀ x d, G x d → Dp K H x d) : ∀ {xs : List V} {ds : List D}, Eh G xs ds → DpAll K H xs ds
  | _, _, .nil => .nil
  | _, _, .cons h hs => .cons (g _ _ h) (eh_dps g hs)
/-- what a value stands for -/
def Std (G : V → D → Prop) (v : Value) (d : D) : Prop := ∃ x, RelV x v ∧ G x d
theorem each_std : ∀ {xs : List V} {us : List Value} {ds : List D}, Eh G xs ds → Vals xs us → PySem.W.EachIs (Std G) us ds
  | _, _, _, .nil, .nil => .nil
  | _, _, _, .cons h hs, .cons r rs => .cons ⟨_, r, h⟩ (each_std hs rs)
theorem std_all : ∀ {us : List Value} {ds : List D}, PySem.W.EachIs (Std G) us ds → ∃ xs, Vals xs us ∧ Eh G xs ds
  | _, _, .nil => ⟨[], .nil, .nil⟩
  | _, _, .cons ⟨x, r, d⟩ t => by
    obtain ⟨xs, rs, ds⟩ := std_all t
    exact ⟨x :: xs, .cons r rs, .cons d ds⟩
theorem eh_at : ∀ {xs : List V} {ds : List D} {i : Nat} {x : V}, Eh G xs ds → xs[i]? = some x → ∃ d, ds[i]? = some d ∧ G x d
  | _, _, _, _, .nil, h => by simp at h
  | _, _, 0, _, .cons h _, e => by simp at e; subst e; exact ⟨_, rfl, h⟩
  | _, _, i + 1, _, .cons _ hs, e => by
    obtain ⟨d, h1, h2⟩ := eh_at (i := i) hs (by simpa using e)
    exact ⟨d, by simpa using h1, h2⟩
end
section
variable {X : Cx} {K : PySem.W.Frag} {G : V → D → Prop}
def rSortD (K : PySem.W.Frag) : List V → Hp → VK → Prop := fun vs H Q => ∃ (G : V → D → Prop) (a : Addr) (xs : List V) (ds : List D), vs = [.ref a] ∧ SqL K H a xs ∧ Eh G xs ds ∧ (∀ x d, G x d → Dp K H x d) ∧ OrdB ds ∧ ∀ ws p, Eh G ws (srtD ds) → H p = none → Q (.ref p) (upd H p (.lst ws))
theorem cr_sortD (hK : X.K = K) (hu : X.A.units + 65 < cLine) : CallR X (.builtin "sorted") (rSortD K) := by
  subst hK
  rintro pins s σ H vs us Q I r ⟨G, a, xs, ds, rfl, hs, ha, g, ok, q⟩
  rw [Vals.ref1 r]
  obtain ⟨its, rv, hl, hz⟩ := I.list hs
  have e1 := each_std ha rv
  have e2 : PySem.W.EachIs (fun v d => ∃ as, Reads s.heap v d as) its ds := e1.mono fun v d ⟨x, rx, dx⟩ => Dp.reads I d x v (g x d dx) rx
  have hm : ds.map (fun d : D => d) = ds := by simp
  refine PySem.W.sorted_data (enc := fun d : D => d) hl.isList e1 e2 (by rw [hm]; exact ok.al) (by rw [hm]; exact ok.able) (lim_le ok.le) (fun d hd => ?_) fun out hlen eo => ?_
  · have := dep_mem hd
    have := ok.dep
    omega
  · obtain ⟨ws, rw', dw⟩ := std_all eo
    obtain ⟨ep, at'⟩ := PyProof.Rows.sortedAll_at s.heap its out.toArray
    refine ⟨.ref _, upd H (s.heap.objs.size + 1) (.lst ws), I.laid (t' := s.toks) (fun _ _ => PyProof.Rows.sortedAll_old) (Nat.le_succ _) ⟨?_, out, ep, rw', at'⟩, rfl, q ws _ dw (I.hok.fresh (Nat.le_succ _))⟩
    rw [rw'.length, hlen]
    exact lim_le ok.le
theorem maxD_mem {x : D} : ∀ {xs : List D}, PySem.W.maxD x xs ∈ x :: xs := by
  intro xs
  unfold PySem.W.maxD
  induction xs generalizing x with
  | nil => simp
  | cons y ys ih =>
    rw [List.foldl_cons]
    have := ih (x := if PySem.W.dataLt x y then y else x)
    rcases List.mem_cons.mp this with z | z
    · rw [z]; split <;> simp
    · simp [z]
theorem minD_mem {x : D} : ∀ {xs : List D}, PySem.W.minD x xs ∈ x :: xs := by
  intro xs
  unfold PySem.W.minD
  induction xs generalizing x with
  | nil => simp
  | cons y ys ih =>
    rw [List.foldl_cons]
    have := ih (x := if PySem.W.dataLt y x then y else x)
    rcases List.mem_cons.mp this with z | z
    · rw [z]; split <;> simp
    · simp [z]
/-- the item that reads as d stands for d -/
theorem std_at {pins : List (Addr × Obj)} {σ : St} {H : Hp} {s : Shared} (I : L2.Inv X pins σ H s) {xs : List V} {its : List Value} {ds : List D} (ha : Eh G xs ds) (g : ∀ x d, G x d → Dp X.K H x d) (rv : Vals xs its) (lay : PyData.canLayAll0 ds = true) {i : Nat} {v : Value} {d : D} {h' : Heap} {bs : List Addr}
    (hi : its[i]? = some v) (hd : d ∈ ds) (rd : Reads h' v d bs) (hk : ∀ b o, s.heap.get? b = some o → h'.get? b = some o) : ∃ x, RelV x v ∧ G x d := by
  have hl := rv.length
  have hil : i < its.length := by
    rcases Nat.lt_or_ge i its.length with z | z
    · exact z
    · rw [List.getElem?_eq_none z] at hi; cases hi
  have hx : xs[i]? = some xs[i] := by simp [show i < xs.length by omega]
  obtain ⟨u, hu, ru⟩ := rv.get hx
  rw [hi] at hu
  cases hu
  obtain ⟨e, g1, g2⟩ := eh_at ha hx
  obtain ⟨as, r1⟩ := Dp.reads I e _ v (g _ _ g2) ru
  have r2 := PyProof.Rows.Reads.keeps hk r1
  have c1 := lay_mem lay (List.mem_of_getElem? g1)
  have c2 := lay_mem lay hd
  have : e = d := (SeqAt.readOf_eq c1 r2).symm.trans (SeqAt.readOf_eq c2 rd)
  subst this
  exact ⟨_, ru, g2⟩
def rBestD (best : D → List D → D) (K : PySem.W.Frag) : List V → Hp → VK → Prop := fun vs H Q => ∃ (G : V → D → Prop) (a : Addr) (xs : List V) (d : D) (ds : List D), vs = [.ref a] ∧ SqL K H a xs ∧ Eh G xs (d :: ds) ∧ (∀ x d, G x d → Dp K H x d) ∧ OrdB (d :: ds) ∧ ∀ v, G v (best d ds) → Q v H
theorem OrdB.alikeAll {ds : List D} (h : OrdB ds) : PySem.W.AlikeAll ds := ⟨h.al, fun x hx e => by
  rcases h.sh with z | z
  · have := z x hx; rw [e] at this; cases this
  · have := z x hx; rw [e] at this; cases this⟩
theorem cr_topD (hK : X.K = K) (hc : X.calm = true) (hu : X.A.units + 65 < cLine) : CallR X (.builtin "max") (rBestD PySem.W.maxD K) := by
  subst hK
  rintro pins s σ H vs us Q I r ⟨G, a, xs, d, ds, rfl, hs, ha, g, ok, q⟩
  rw [Vals.ref1 r]
  obtain ⟨its, rv, hl, hz⟩ := I.list hs
  obtain ⟨as, hr⟩ := Dp.readsAll I _ _ its (eh_dps g ha) rv
  refine PySem.W.max_list_data (as := as) (I.ok.hd hc) hl.isList (by simpa using hr) ok.alikeAll (by have := ok.dep; omega) fun i v h' tk bs hi rd hk => ?_
  obtain ⟨x, rx, dx⟩ := std_at I ha g rv ok.lay (by simpa using hi) maxD_mem rd hk
  exact ⟨x, H, I.kept hk, rx, q x dx⟩
theorem cr_lowD (hK : X.K = K) (hc : X.calm = true) (hu : X.A.units + 65 < cLine) : CallR X (.builtin "min") (rBestD PySem.W.minD K) := by
  subst hK
  rintro pins s σ H vs us Q I r ⟨G, a, xs, d, ds, rfl, hs, ha, g, ok, q⟩
  rw [Vals.ref1 r]
  obtain ⟨its, rv, hl, hz⟩ := I.list hs
  obtain ⟨as, hr⟩ := Dp.readsAll I _ _ its (eh_dps g ha) rv
  refine PySem.W.min_list_data (as := as) (I.ok.hd hc) hl.isList (by simpa using hr) ok.alikeAll (by have := ok.dep; omega) fun i v h' tk bs hi rd hk => ?_
  obtain ⟨x, rx, dx⟩ := std_at I ha g rv ok.lay (by simpa using hi) minD_mem rd hk
  exact ⟨x, H, I.kept hk, rx, q x dx⟩
end
section
variable {K : PySem.W.Frag}
def pSortD (o : O) : Option O := match asL o with
  | some ds => if ordB ds then some (.lst ((srtD ds).map .dat)) else none
  | none => none
theorem cm_sortD : CbM K (rSortD K) (one pSortD) := cm_one fun oa o F A x ps P e r k => by
  unfold pSortD at e
  split at e
  · rename_i ds h0
    split at e
    · rename_i h1
      cases e
      obtain ⟨a, xs, rfl, h2, h3⟩ := asL_rp h0 r
      exact fun H w Q c => ⟨Dp K F, a, xs, ds, rfl, h2.at w, dps_eh h3, fun x d h => dp_mono w.f h, ordB_iff.mp h1, fun ws p dw hp => c _ _ _ _ (w.newA hp) (ret_lst k (w.an hp) (eh_dps (fun _ _ h => h) dw))⟩
    · cases e
  · cases e
def pBestD (best : D → List D → D) (o : O) : Option O := match asL o with
  | some (d :: ds) => if ordB (d :: ds) then some (.dat (best d ds)) else none
  | _ => none
theorem cm_bestD {best : D → List D → D} : CbM K (rBestD best K) (one (pBestD best)) := cm_one fun oa o F A x ps P e r k => by
  unfold pBestD at e
  split at e
  · rename_i d ds h0
    split at e
    · rename_i h1
      cases e
      obtain ⟨a, xs, rfl, h2, h3⟩ := asL_rp h0 r
      exact fun H w Q c => ⟨Dp K F, a, xs, d, ds, rfl, h2.at w, dps_eh h3, fun x d h => dp_mono w.f h, ordB_iff.mp h1, fun v hv => c _ _ _ _ w (ret_dat k hv)⟩
    · cases e
  · cases e
end
end M
namespace M
open PySem PySem.Spec L2 Z
/-! ### a dict is locked while it is gone through -/
section
variable {K : PySem.W.Frag} {F A : Hp} {p : Addr} {od : Obj} {xs : List (Key × V)}
mutual
theorem dp_rm (h : F p = some (.frz od (.dK xs))) : ∀ {v : V} {d : D}, Dp K F v d → Dp K (rm F p) v d
  | _, _, .non => .non
  | _, _, .bl b => .bl b
  | _, _, .int i => .int i
  | _, _, .str s => .str s
  | _, _, .lst (a := a) hs ha => by
    refine .lst ?_ (dps_rm h ha)
    rcases hs with (hs | ⟨o, hs⟩) | hs
    · exact .inl (.inl (by rw [rm_ne (fun z => by rw [z, h] at hs; cases hs)]; exact hs))
    · exact .inl (.inr ⟨o, by rw [rm_ne (fun z => by rw [z, h] at hs; cases hs)]; exact hs⟩)
    · exact .inr hs
  | _, _, .tup (a := a) hs ha => by
    refine .tup ?_ (dps_rm h ha)
    rcases hs with (hs | ⟨o, hs⟩) | hs
    · exact .inl (.inl (by rw [rm_ne (fun z => by rw [z, h] at hs; cases hs)]; exact hs))
    · exact .inl (.inr ⟨o, by rw [rm_ne (fun z => by rw [z, h] at hs; cases hs)]; exact hs⟩)
    · exact .inr hs
theorem dps_rm (h : F p = some (.frz od (.dK xs))) : ∀ {vs : List V} {ds : List D}, DpAll K F vs ds → DpAll K (rm F p) vs ds
  | _, _, .nil => .nil
  | _, _, .cons h1 hs => .cons (dp_rm h h1) (dps_rm h hs)
end
theorem kd_rm (h : F p = some (.frz od (.dK xs))) : ∀ {ys : List (Key × V)} {kvs : List (Key × D)}, KD K F ys kvs → KD K (rm F p) ys kvs
  | _, _, .nil => .nil
  | _, _, .cons h1 hs => .cons (dp_rm h h1) (kd_rm h hs)
theorem kdn_rm (h : F p = some (.frz od (.dK xs))) : ∀ {ys : List NE} {kvs : List (NK × D)}, KDN K F ys kvs → KDN K (rm F p) ys kvs
  | _, _, .nil => .nil
  | _, _, .cons e z g h1 hs => .cons e z (dp_rm h g) (dp_rm h h1) (kdn_rm h hs)
mutual
def noLck : O → Bool
  | .lck _ => false
  | .lkn _ _ => false
  | .lst os => noLckL os
  | .tup os => noLckL os
  | _ => true
def noLckL : List O → Bool
  | [] => true
  | o :: os => noLck o && noLckL os
end
def noLckE : Env → Bool
  | [] => true
  | none :: ε => noLckE ε
  | some o :: ε => noLck o && noLckE ε
mutual
theorem rp_rm (h : F p = some (.frz od (.dK xs))) : ∀ {v : V} {o : O} {ps : List Addr}, Rp K F A v o ps → noLck o = true → Rp K (rm F p) A v o ps
  | _, _, _, .dat h1, _ => .dat (dp_rm h h1)
  | _, _, _, .lst h1 hs, n => .lst h1 (rps_rm h hs n)
  | _, _, _, .tup h1 hs, n => .tup h1 (rps_rm h hs n)
  | _, _, _, .dic h1 hs, n => .dic h1 (kd_rm h hs)
  | _, _, _, .lck h1 hs, n => by cases n
  | _, _, _, .dtt h1 hs, n => .dtt h1 (kdn_rm h hs)
  | _, _, _, .lkn h1 hs, n => by cases n
theorem rps_rm (h : F p = some (.frz od (.dK xs))) : ∀ {vs : List V} {os : List O} {ps : List Addr}, RpAll K F A vs os ps → noLckL os = true → RpAll K (rm F p) A vs os ps
  | _, _, _, .nil, _ => .nil
  | _, _, _, .cons h1 hs, n => .cons (rp_rm h h1 (Bool.and_eq_true_iff.mp n).1) (rps_rm h hs (Bool.and_eq_true_iff.mp n).2)
end
theorem rel_rm (h : F p = some (.frz od (.dK xs))) : ∀ {ε : Env} {σ : St} {fp : List Addr}, Rel K F A ε σ fp → noLckE ε = true → Rel K (rm F p) A ε σ fp
  | _, _, _, .nil, _ => .nil
  | _, _, _, .un h1, n => .un (rel_rm h h1 n)
  | _, _, _, .va h1 hs, n => .va (rp_rm h h1 (Bool.and_eq_true_iff.mp n).1) (rel_rm h hs (Bool.and_eq_true_iff.mp n).2)
theorem wd_lock {H : Hp} (w : Wd F A H) (h : A p = some (.dK xs)) : Wd (upd F p (.frz od (.dK xs))) (rm A p) (upd H p (.frz od (.dK xs))) := ⟨fun x u e => by
    by_cases z : x = p
    · subst z; rw [upd_same] at e ⊢; exact e
    · rw [upd_ne z] at e ⊢; exact w.f x u e, fun x u e => by
    by_cases z : x = p
    · subst z; rw [rm_same] at e; cases e
    · rw [rm_ne z] at e; rw [upd_ne z]; exact w.a x u e, fun x u e => by
    by_cases z : x = p
    · subst z; rw [rm_same] at e; cases e
    · rw [rm_ne z] at e; rw [upd_ne z]; exact w.d x u e⟩
theorem wd_unlock {H : Hp} (w : Wd F A H) (h : F p = some (.frz od (.dK xs))) : Wd (rm F p) (upd A p (.dK xs)) (upd H p (.dK xs)) := ⟨fun x u e => by
    by_cases z : x = p
    · subst z; rw [rm_same] at e; cases e
    · rw [rm_ne z] at e; rw [upd_ne z]; exact w.f x u e, fun x u e => by
    by_cases z : x = p
    · subst z; rw [upd_same] at e ⊢; exact e
    · rw [upd_ne z] at e ⊢; exact w.a x u e, fun x u e => by
    by_cases z : x = p
    · subst z; exact rm_same
    · rw [upd_ne z] at e; rw [rm_ne z]; exact w.d x u e⟩
end
section
variable {K : PySem.W.Frag} {te td : TE} {m mo : mB}
def mLockE (i : Nat) (m : mB) : mB := fun ε => match slotAt ε i with
  | some (.dic kvs) => match m (ε.set i (some (.lck kvs))) with
    | some (.val o, ε1) => if noLck o && noLckE (ε1.set i none) then some (.val o, ε1.set i (some (.dic kvs))) else none
    | _ => none
  | _ => none
theorem sn_lock {i : Nat} (he : Sn K te m) : Sn K (tLockE te) (mLockE i m) := fun ε rr ε' σ F A fp P e q n k => by
  unfold mLockE at e
  split at e
  · rename_i kvs e1
    split at e
    · rename_i o ε1 e2
      split at e
      · rename_i hok
        cases e
        rw [Bool.and_eq_true_iff] at hok
        intro H w Q c
        obtain ⟨x0, ps0, fp0, g1, _, _, _⟩ := q.get (slotAt_eq e1)
        obtain ⟨p, xs, fp1, rfl, hA, kd, q1, pm, hl⟩ := slot_dic q g1 e1
        have n1 : (p :: fp1).Nodup := pm.nodup_iff.mp n
        have nd := List.nodup_cons.mp n1
        have hF := w.d _ _ hA
        refine ⟨p, .dK xs, w.a _ _ hA, trivial, fun od => ?_⟩
        have sF : Same F (upd F p (.frz od (.dK xs))) := same_upd hF
        have q2 : Rel K (upd F p (.frz od (.dK xs))) (rm A p) (ε.set i none) σ fp1 := q1.mono sF fun x hx u e => by
          rw [rm_ne fun z => nd.1 (by rw [← z]; exact hx)]; exact e
        obtain ⟨fp2, q3, p3⟩ := q2.back (i := i) (by simp [hl]) g1 (.lck upd_same (kd.mono sF))
        rw [List.set_set] at q3
        have n3 : fp2.Nodup := p3.nodup_iff.mpr (by simpa using nd.2)
        refine he.fact e2 q3 n3 _ (wd_lock w hA) _ fun v F2 A2 H2 w2 ⟨fp4, np4, s4, n4, q4, x4⟩ => ?_
        have hp : F2 p = some (.frz od (.dK xs)) := s4.s _ _ upd_same
        refine ⟨w2.f _ _ hp, ?_⟩
        have hA2 : A2 p = none := by
          cases z : A2 p with
          | none => rfl
          | some u => have := w2.d _ _ z; rw [hp] at this; cases this
        -- the slot is forgotten, and filled again
        obtain ⟨fp5, q5, sb5⟩ := q4.clear (i := i)
        have q6 := rel_rm hp q5 hok.2
        have no4 : ∀ x, x ∈ fp4 ++ np4 → x ≠ p := fun x hx z => by
          subst z
          rcases List.mem_append.mp hx with z | z
          · obtain ⟨u, hu⟩ := q4.in x z; rw [hA2] at hu; cases hu
          · obtain ⟨u, hu⟩ := Res.in x4 x z; rw [hA2] at hu; cases hu
        have q7 : Rel K (rm F2 p) (upd A2 p (.dK xs)) (ε1.set i none) σ fp5 := q6.mono (Same.refl _) fun x hx u e => by
          rw [upd_ne (no4 x (by simp [sb5.subset hx]))]; exact e
        have hl1 : i < ε1.length := by
          have l1 := q4.len
          have l2 := q3.len
          rw [List.length_set] at l2
          omega
        have kd2 : KD K (rm F2 p) xs kvs := kd_rm hp ((kd.mono sF).mono s4.s)
        obtain ⟨fp6, q8, p8⟩ := q7.back (i := i) (by simp [hl1]) g1 (.dic upd_same kd2)
        rw [List.set_set] at q8
        have x5 : Rp K (rm F2 p) (upd A2 p (.dK xs)) v o np4 := (rp_rm hp x4 hok.1).mono (Same.refl _) fun x hx u e => by
          rw [upd_ne (no4 x (by simp [hx]))]; exact e
        refine c _ _ _ _ (wd_unlock w2 hp) (k v _ _ fp6 np4 ⟨fun x u e => ?_, fun x u hx e => ?_, fun x hx => ?_⟩ ?_ q8 x5)
        · rw [rm_ne fun z => by rw [z, hF] at e; cases e]
          exact s4.s _ _ (sF _ _ e)
        · have hxp : x ≠ p := fun z => hx (pm.mem_iff.mpr (by rw [z]; simp))
          rw [upd_ne hxp]
          refine s4.o x u (fun z => hx (pm.mem_iff.mpr ?_)) (by rw [rm_ne hxp]; exact e)
          have := p3.mem_iff.mp z
          simp at this
          simp [this]
        · rcases List.mem_append.mp hx with z | z
          · have := p8.mem_iff.mp z
            rcases List.mem_cons.mp (by simpa using this) with y | y
            · exact .inl (pm.mem_iff.mpr (by rw [y]; simp))
            · rcases s4.f x (by simp [sb5.subset y]) with y' | y'
              · have := p3.mem_iff.mp y'
                simp at this
                exact .inl (pm.mem_iff.mpr (by simp [this]))
              · by_cases hxp : x = p
                · exact .inl (pm.mem_iff.mpr (by rw [hxp]; simp))
                · rw [rm_ne hxp] at y'; exact .inr y'
          · rcases s4.f x (by simp [z]) with y' | y'
            · have := p3.mem_iff.mp y'
              simp at this
              exact .inl (pm.mem_iff.mpr (by simp [this]))
            · by_cases hxp : x = p
              · exact .inl (pm.mem_iff.mpr (by rw [hxp]; simp))
              · rw [rm_ne hxp] at y'; exact .inr y'
        · have m4 := List.nodup_append.mp n4
          refine List.nodup_append.mpr ⟨p8.nodup_iff.mpr ?_, m4.2.1, fun x hx y hy e => ?_⟩
          · show (p :: fp5).Nodup
            exact List.nodup_cons.mpr ⟨fun z => no4 p (by simp [sb5.subset z]) rfl, sb5.nodup m4.1⟩
          · subst e
            have := p8.mem_iff.mp hx
            rcases List.mem_cons.mp (by simpa using this) with z | z
            · exact no4 x (by simp [hy]) z
            · exact m4.2.2 x (sb5.subset z) x hy rfl
      · cases e
    · cases e
  · cases e
end
end M
namespace M
open PySem PySem.Spec L2 Z
def keyD : Key → D
  | .inl i => .int i
  | .inr s => .str s
def itemsD (kvs : List (Key × D)) : List D := kvs.map fun kv => .tuple [keyD kv.1, kv.2]
def keysD (kvs : List (Key × D)) : List D := kvs.map fun kv => keyD kv.1
section
variable {K : PySem.W.Frag} {F F1 : Hp}
theorem dp_key (k : Key) : Dp K F (kV k) (keyD k) := by
  cases k with
  | inl i => exact .int i
  | inr s => exact .str s
theorem KD.at : ∀ {xs : List (Key × V)} {kvs : List (Key × D)} {i : Nat} {k : Key} {v : V}, KD K F xs kvs → xs[i]? = some (k, v) → ∃ d, kvs[i]? = some (k, d) ∧ Dp K F v d
  | _, _, _, _, _, .nil, h => by simp at h
  | _, _, 0, _, _, .cons h _, e => by simp at e; obtain ⟨rfl, rfl⟩ := e; exact ⟨_, rfl, h⟩
  | _, _, i + 1, _, _, .cons _ hs, e => by
    obtain ⟨d, h1, h2⟩ := KD.at (i := i) hs (by simpa using e)
    exact ⟨d, by simpa using h1, h2⟩
theorem wks_items {d : Addr} {o : Obj} {xs : List (Key × V)} {kvs : List (Key × D)} (h : F1 d = some (.frz o (.dK xs))) (hd : KD K F1 xs kvs) : Wks K (Iti d o xs) F1 (itemsD kvs) := by
  have hl := hd.len
  have len : (itemsD kvs).length = kvs.length := by simp [itemsD]
  refine ⟨fun i H hi ⟨F, A, w, s⟩ => ⟨w.f _ _ (s _ _ h), by omega⟩, fun H ⟨F, A, w, s⟩ => ⟨w.f _ _ (s _ _ h), by omega⟩, fun i H v H' hi _ y F2 A2 w2 s2 => ?_⟩
  obtain ⟨T, k, x, e1, e2, e3, e4⟩ := y
  obtain ⟨d', g1, g2⟩ := hd.at e1
  obtain ⟨F', w', s', d''⟩ := pair_new w2 e2 e3 e4 (dp_key k) (dp_mono s2 g2)
  exact ⟨F', w', s', _, by simp [itemsD, g1], d''⟩
theorem wks_keys {d : Addr} {o : Obj} {xs : List (Key × V)} {kvs : List (Key × D)} (h : F1 d = some (.frz o (.dK xs))) (hd : KD K F1 xs kvs) : Wks K (Itk d o xs) F1 (keysD kvs) := by
  have hl := hd.len
  have len : (keysD kvs).length = kvs.length := by simp [keysD]
  refine ⟨fun i H hi ⟨F, A, w, s⟩ => ⟨w.f _ _ (s _ _ h), by omega⟩, fun H ⟨F, A, w, s⟩ => ⟨w.f _ _ (s _ _ h), by omega⟩, fun i H v H' hi _ y F2 A2 w2 s2 => ?_⟩
  obtain ⟨rfl, k, x, e1, rfl⟩ := y
  obtain ⟨d', g1, g2⟩ := hd.at e1
  exact ⟨F2, w2, Same.refl _, _, by simp [keysD, g1], dp_key k⟩
end
section
variable {K : PySem.W.Frag} {td te ta tb : TE} {mo me ma mb : mB}
theorem lck_at {F A : Hp} {ε : Env} {σ : St} {fp : List Addr} {i : Nat} {x : V} {kvs : List (Key × D)} (q : Rel K F A ε σ fp) (h : σ[i]? = some (some x)) (e : slotAt ε i = some (.lck kvs)) : ∃ p o xs, x = .ref p ∧ F p = some (.frz o (.dK xs)) ∧ KD K F xs kvs := by
  obtain ⟨v, ps, fp1, h1, h2, _, _⟩ := q.get (slotAt_eq e)
  rw [h] at h1
  cases h1
  cases h2 with
  | lck h3 h4 => exact ⟨_, _, _, rfl, h3, h4⟩
def mWalkD (f : List (Key × D) → List D) (mo : mB) : mI := fun ε => match mo ε with
  | some (.slot i, ε1) => match slotAt ε1 i with
    | some (.lck kvs) => some (f kvs, ε1)
    | _ => none
  | _ => none
theorem si_items (ho : Sn K td mo) : SnI K (iItems td) (mWalkD itemsD mo) := fun ε ds ε' σ F A fp H e q n w R k => by
  unfold mWalkD at e
  split at e
  · rename_i i ε1 e1
    split at e
    · rename_i kvs e2
      cases e
      refine ho.fact e1 q n H w _ fun x F1 A1 H1 w1 ⟨fp1, np1, s1, n1, q1, x1⟩ => ?_
      obtain ⟨p, o, xs, rfl, h1, h2⟩ := lck_at q1 x1.2 e2
      exact ⟨p, o, xs, rfl, w1.f _ _ h1, k _ F1 A1 fp1 H1 w1 (s1.sub fun x hx => by simp [hx]) (List.nodup_append.mp n1).1 q1 (wks_items h1 h2)⟩
    · cases e
  · cases e
theorem si_keys (ho : Sn K td mo) : SnI K (iKeys td) (mWalkD keysD mo) := fun ε ds ε' σ F A fp H e q n w R k => by
  unfold mWalkD at e
  split at e
  · rename_i i ε1 e1
    split at e
    · rename_i kvs e2
      cases e
      refine ho.fact e1 q n H w _ fun x F1 A1 H1 w1 ⟨fp1, np1, s1, n1, q1, x1⟩ => ?_
      obtain ⟨p, o, xs, rfl, h1, h2⟩ := lck_at q1 x1.2 e2
      exact ⟨p, o, rfl, .inl ⟨xs, w1.f _ _ h1, k _ F1 A1 fp1 H1 w1 (s1.sub fun x hx => by simp [hx]) (List.nodup_append.mp n1).1 q1 (wks_keys h1 h2)⟩⟩
    · cases e
  · cases e
/-! ### truth of any value -/
def truO (o : O) : Option Bool := match o with
  | .dat .none => some false
  | .dat (.bool b) => some b
  | .dat (.int i) => some (i != 0)
  | .dat (.tuple ds) => some (!ds.isEmpty)
  | o => match asL o with
    | some ds => some (!ds.isEmpty)
    | none => none
theorem emp_dps {F : Hp} {vs : List V} {ds : List D} (h : DpAll K F vs ds) : vs.isEmpty = ds.isEmpty := by cases h <;> rfl
theorem truO_ok {o : O} {b : Bool} {F A H : Hp} {v : V} {ps : List Addr} (h : truO o = some b) (r : Rp K F A v o ps) (w : Wd F A H) : TruV K v H b := by
  unfold truO at h
  split at h
  · cases h; cases r with | dat r => cases dp_non r; exact rfl
  · cases h; cases r with | dat r => cases dp_bl r; exact rfl
  · cases h; cases r with | dat r => cases dp_int r; exact rfl
  · cases h
    cases r with
    | dat r =>
      obtain ⟨a, xs, rfl, h1, h2⟩ := dp_tup r
      exact .inr (.inl ⟨xs, st_mono w.f h1, by rw [emp_dps h2]⟩)
  · split at h
    · rename_i ds h0
      cases h
      obtain ⟨a, xs, rfl, h1, h2⟩ := asL_rp h0 r
      exact .inl ⟨xs, h1.at w, by rw [emp_dps h2]⟩
    · cases h
def tTru (K : PySem.W.Frag) (te : TE) : TT := fun σ H Q => te σ H fun x H' => ∃ k, TruV K x H' k ∧ Q k H'
def mTru (me : mB) : mT := fun ε => match me ε with
  | some (r, ε1) => match r.get ε1 with
    | some o => match truO o with
      | some b => some (b, ε1)
      | none => none
    | none => none
  | none => none
theorem snT_tru (he : Sn K te me) : SnT K (tTru K te) (mTru me) := fun ε b ε' σ F A fp P e q n k => by
  unfold mTru at e
  split at e
  · rename_i r ε1 e1
    split at e
    · rename_i o e2
      split at e
      · rename_i b' e3
        cases e
        intro H w Q c
        refine he.fact e1 q n H w _ fun x F1 A1 H1 w1 ⟨fp1, np1, s1, n1, q1, x1⟩ => ?_
        obtain ⟨ps, p1⟩ := x1.rp q1 e2
        exact ⟨b, truO_ok e3 p1 w1, c _ _ _ _ w1 (k F1 A1 fp1 (s1.sub fun x hx => by simp [hx]) (List.nodup_append.mp n1).1 q1)⟩
      · cases e
    · cases e
  · cases e
/-- a or b, by truth -/
def mOrT (ma mb : mB) : mB := fun ε => match ma ε with
  | some (r, ε1) => match r.get ε1 with
    | some o => match truO o with
      | some true => some (r, ε1)
      | some false => mb ε1
      | none => none
    | none => none
  | none => none
theorem sn_orT (ha : Sn K ta ma) (hb : Sn K tb mb) : Sn K (tOrT K ta tb) (mOrT ma mb) := fun ε rr ε' σ F A fp P e q n k => by
  unfold mOrT at e
  split at e
  · rename_i r ε1 e1
    split at e
    · rename_i o e2
      intro H w Q c
      refine ha.fact e1 q n H w _ fun x F1 A1 H1 w1 ⟨fp1, np1, s1, n1, q1, x1⟩ => ?_
      obtain ⟨ps, p1⟩ := x1.rp q1 e2
      split at e
      · rename_i e3
        cases e
        exact ⟨true, truO_ok e3 p1 w1, iteT (c _ _ _ _ w1 (k x F1 A1 fp1 np1 s1 n1 q1 x1))⟩
      · rename_i e3
        refine ⟨false, truO_ok e3 p1 w1, iteF ?_⟩
        exact hb ε1 rr ε' σ F1 A1 fp1 P e q1 (List.nodup_append.mp n1).1 (fun v F2 A2 fp2 np2 s2 n2 q2 x2 => k v F2 A2 fp2 np2 ((s1.sub fun x hx => by simp [hx]).trans s2) n2 q2 x2) H1 w1 Q c
      · cases e
    · cases e
  · cases e
end
section
variable {X : Cx} {K : PySem.W.Frag}
theorem kTru (hK : X.K = K) {a : Expr} {ta : TE} (ha : PE X a ta) (he : ∀ whole, isTrue a X.env whole = (do let v ← whole; standAt a.pos; holding [v] (truthy v))) : PT X a (tTru K ta) := by subst hK; exact pt_truth ha he
theorem kOrT (hK : X.K = K) {a b : Expr} {rest : List Expr} {pos : Pos} {ta tb : TE} (ha : PE X a ta) (hb : PE X (.BoolOp .Or (b :: rest) pos) tb) : PE X (.BoolOp .Or (a :: b :: rest) pos) (tOrT K ta tb) := by subst hK; exact pe_orT ha hb
theorem kSortD (hK : X.K = K) (hu : X.A.units + 65 < cLine) : CallR X (.builtin "sorted") (rSortD K) := cr_sortD hK hu
end
end M
namespace M
open PySem PySem.Spec L2 Z
/-! ### sorted(d): the keys of a dict in their order -/
section
variable {X : Cx} {K : PySem.W.Frag}
/-- a key's value and its datum -/
def KeyIs (x : V) (d : D) : Prop := ∃ k, x = kV k ∧ d = keyD k
def rSortK : List V → Hp → VK → Prop := fun vs H Q => ∃ (a : Addr) (xs : List (Key × V)), vs = [.ref a] ∧ Rd H a (.dK xs) ∧ OrdB (xs.map fun kv => keyD kv.1) ∧
  ∀ ws p, Eh KeyIs ws (srtD (xs.map fun kv => keyD kv.1)) → H p = none → Q (.ref p) (upd H p (.lst ws))
theorem key_reads {h : Heap} {v : Value} {d : D} (s : Std KeyIs v d) : Reads h v d [] := by
  obtain ⟨x, r, k, rfl, rfl⟩ := s
  cases k with
  | inl i => obtain ⟨t, rfl⟩ := r; exact .int i t
  | inr z => obtain ⟨t, rfl⟩ := r; exact .str z t
theorem each_of {P : Nat → Value → Prop} {G : Value → D → Prop} : ∀ (us : List Value) (ds : List D), us.length = ds.length → (∀ (i : Nat) v d, us[i]? = some v → ds[i]? = some d → G v d) → PySem.W.EachIs G us ds
  | [], [], _, _ => .nil
  | [], _ :: _, h, _ => by simp at h
  | _ :: _, [], h, _ => by simp at h
  | u :: us, d :: ds, h, g => .cons (g 0 u d rfl rfl) (each_of (P := P) us ds (by simpa using h) fun i v e h1 h2 => g (i + 1) v e (by simpa using h1) (by simpa using h2))
theorem cr_sortK (hc : X.calm = true) (hu : X.A.units + 65 < cLine) : CallR X (.builtin "sorted") rSortK := by
  rintro pins s σ H vs us Q I r ⟨a, xs, rfl, hd, ok, q⟩
  rw [Vals.ref1 r]
  obtain ⟨-, low, prs, rel, dd⟩ := dk_rd I.hok hd
  obtain ⟨ep, there⟩ := dd.dictAt
  have hl : prs.length = xs.length := (Paired.length rel).symm
  have few : prs.length ≤ sizeLine := by
    have := ok.le
    rw [List.length_map] at this
    rw [hl]; exact lim_le this
  have keys : ∀ (i : Nat) k x, prs[i]? = some (k, x) → (xs.map fun kv => keyD kv.1)[i]? = some (keyD k) := fun i k x e => by
    have e1 : (prs.map (·.1))[i]? = some k := by rw [List.getElem?_map, e]; rfl
    rw [← rel.keys, List.getElem?_map] at e1
    rw [List.getElem?_map]
    cases z : xs[i]? with
    | none => rw [z] at e1; cases e1
    | some kv => rw [z] at e1; cases e1; rfl
  refine Calls.call_function_entry PyProof.Rows.kind_sorted PyProof.Rows.plain_sorted PyProof.Rows.entry_sorted
    (PyProof.Rows.args_sorted1 _) ?_
  unfold Builtin.«sorted»
  refine wpAny_bind (m := checkCount "sorted" 1 1 _)
    (wpAny_pure (wpAny_bind (PySem.W.kdu_collect (A := X.A.in1) (PySem.W.kdl_dict (knd := mixKind X.prog X.w) (kvs := prs) (ep := ep) low) (I.ok.hd hc) there few fun h1 tk acc kept items => ?_)))
  have e1 : PySem.W.EachIs (Std KeyIs) acc.toList (xs.map fun kv => keyD kv.1) := each_of (P := fun _ _ => True) _ _ (by rw [Array.length_toList, items.1, List.length_map, hl]) fun i v d h1 h2 => by
    obtain ⟨k, x, g1, g2⟩ := items.2 i v (by rw [← Array.getElem?_toList]; exact h1)
    rw [keys i k x g1] at h2
    cases h2
    refine ⟨kV k, ?_, k, rfl, rfl⟩
    rcases keyIs_shape (show keyIs k v = true from g2) with ⟨j, t, rfl, rfl⟩ | ⟨z, t, rfl, rfl⟩
    · exact ⟨t, rfl⟩
    · exact ⟨t, rfl⟩
  have len1 : acc.toList.length ≤ sizeLine := by rw [Array.length_toList, items.1]; exact few
  refine wpAny_bind (wpAny_newList ?_ len1)
  have at1 : (h1.push (PyProof.Rows.seqObj "list" acc.toList.toArray 0)).get? h1.objs.size = some (PyProof.Rows.seqObj "list" acc.toList.toArray 0) := Heap.get?_push_size _ rfl
  have hm : (xs.map fun kv => keyD kv.1).map (fun d : D => d) = xs.map fun kv => keyD kv.1 := List.map_id' _
  refine wpAny_bind (wpAny_holding (PySem.W.list_sort_data (s := { s with heap := h1.push (PyProof.Rows.seqObj "list" acc.toList.toArray 0), toks := tk }) (enc := fun d : D => d) at1 e1 (e1.mono fun v d g => ⟨[], key_reads g, by simp⟩)
    (by rw [hm]; exact ok.al) (by rw [hm]; exact ok.able) (lim_le ok.le) (fun d hd => ?_) fun out hlen eo => ?_))
  · have h2 := dep_mem hd
    have h3 := ok.dep
    show X.A.units + 1 + 1 + _ < _
    omega
  · obtain ⟨ws, rw', dw⟩ := std_all eo
    obtain ⟨ep2, at2⟩ := PyProof.Rows.sortedHeap_at (vs := acc.toList) (out := out.toArray) at1
    have I1 : L2.Inv X pins σ H { s with heap := h1, toks := tk } := I.kept kept
    refine wpAny_pure ⟨_, rfl, .ref h1.objs.size, upd H h1.objs.size (.lst ws), I1.laid (t' := tk) (fun b u e => ?_) (Nat.le_refl _) ⟨?_, out, ep2, rw', at2⟩, rfl, q ws _ dw (I1.hok.fresh (Nat.le_refl _))⟩
    · have lt : b < h1.objs.size := Heap.lt_size e
      rw [PyProof.Rows.sortedHeap_old (Nat.ne_of_lt lt) (by rw [Heap.size_push]; exact Nat.lt_succ_of_lt lt)]
      exact Heap.get?_push_of_some _ e
    · rw [rw'.length, hlen]; exact lim_le ok.le
end
section
variable {K : PySem.W.Frag} {t : TA} {m : mA}
theorem KD.keys {F : Hp} : ∀ {xs : List (Key × V)} {kvs : List (Key × D)}, KD K F xs kvs → (xs.map fun kv => keyD kv.1) = keysD kvs
  | _, _, .nil => rfl
  | _, _, .cons h hs => by
    rw [List.map_cons, KD.keys hs]; rfl
theorem eh_keys {F : Hp} : ∀ {ws : List V} {ds : List D}, Eh KeyIs ws ds → DpAll K F ws ds
  | _, _, .nil => .nil
  | _, _, .cons ⟨k, h1, h2⟩ hs => by subst h1 h2; exact .cons (dp_key k) (eh_keys hs)
/-- sorted(d) -/
def mSortK (m : mA) : mB := fun ε => match m ε with
  | some ([.slot i], ε1) => match dicAt ε1 i with
    | some kvs => if ordB (keysD kvs) then some (.val (.lst ((srtD (keysD kvs)).map .dat)), ε1) else none
    | none => none
  | _ => none
theorem sn_sortK (h : SnA K t m) : Sn K (tCB rSortK t) (mSortK m) := fun ε rr ε' σ F A fp P e q n k => by
  unfold mSortK at e
  split at e
  · rename_i i ε1 e1
    split at e
    · rename_i kvs e2
      split at e
      · rename_i ho
        cases e
        intro H w Q c
        refine h.fact e1 q n H w _ fun vs F1 A1 H1 w1 ⟨fp1, np1, s1, n1, q1, x1⟩ => ?_
        cases x1 with
        | cons x1 xn =>
          cases xn
          obtain ⟨p, xs, rfl, h1, h2⟩ := dicAt_rd w1 q1 x1.2 e2
          have hk := h2.keys
          refine ⟨p, xs, rfl, h1, by rw [hk]; exact ordB_iff.mp ho, fun ws l dw hp => ?_⟩
          rw [hk] at dw
          have hA := w1.an hp
          have st : Step [] [l] F1 A1 F1 (upd A1 l (.lst ws)) := ⟨Same.refl _, fun x u _ e => by rw [upd_ne (ne_of_none e hA)]; exact e, fun x hx => by simp at hx; subst hx; exact .inr hA⟩
          obtain ⟨g1, g2⟩ := st.grow q1.in (List.nodup_append.mp n1).1 (by simp)
          exact c _ _ _ _ (w1.newA hp) (k _ _ _ fp1 [l] ((s1.sub fun x hx => by simp [hx]).trans g1) g2 (q1.grow st) (.lst upd_same (rpAll_dat (eh_keys dw))))
      · cases e
    · cases e
  · cases e
end
end M
namespace M
theorem units_1 {k : Nat} {A : PySem.Around} (r : L2.Room k A) : A.units + 1 < PySem.cLine := by have := Z.units_in r; omega
end M
namespace M
open PySem PySem.Spec L2 Z
/-! ### a + b of lists that only are read -/
section
variable {X : Cx} {K : PySem.W.Frag}
def rJoin (K : PySem.W.Frag) : R2 := fun x y H Q => ∃ a b xs ys, x = .ref a ∧ y = .ref b ∧ SqL K H a xs ∧ SqL K H b ys ∧ xs.length + ys.length ≤ sizeLine ∧ ∀ p, H p = none → Q (.ref p) (upd H p (.lst (xs ++ ys)))
theorem op_join : OpR X (binaryOp .Add) (rJoin X.K) := by
  rintro pins s σ H x y v u Q I rx ry ⟨a, b, xs, ys, rfl, rfl, ha, hb, hz, q⟩
  cases rx
  cases ry
  obtain ⟨i1, r1, ⟨⟨c1, d1, t1, s1⟩, n1, g1, e1, -, z1⟩, -⟩ := I.list ha
  obtain ⟨i2, r2, ⟨⟨c2, d2, t2, s2⟩, n2, g2, e2, -, z2⟩, -⟩ := I.list hb
  cases e1; cases e2; cases z1; cases z2
  have hl : i1.length + i2.length ≤ sizeLine := by rw [← r1.length, ← r2.length]; exact hz
  refine concat_meets ⟨_, g1, rfl⟩ ⟨_, g2, rfl⟩ noFill_list_add seq_list_add F.slot_list_add F.entry_list_add (F.args_list_add_2 _ _) (PyProof.Rows.list_addW a b i1.toArray i2.toArray n1 n2 d1 d2 s1 s2 (by simpa using hl)) ⟨g1, g2, ?_⟩
  rw [show i1.toArray ++ i2.toArray = (i1 ++ i2).toArray by simp]
  exact ⟨.ref _, _, I.lnew (t' := s.toks) (r1.append r2) (by rw [List.length_append]; exact hz), rfl, q _ I.fresh⟩
def pJoin (a b : O) : Option O := match asL a, asL b with
  | some ds, some es => if ds.length + es.length ≤ lim then some (.lst ((ds ++ es).map .dat)) else none
  | _, _ => none
theorem om_join : OpM K (rJoin K) pJoin := fun oa ob o F A x y ps qs P e r1 r2 k => by
  unfold pJoin at e
  split at e
  · rename_i ds es e1 e2
    split at e
    · rename_i hl
      cases e
      obtain ⟨a, xs, rfl, h1, d1⟩ := asL_rp e1 r1
      obtain ⟨b, ys, rfl, h2, d2⟩ := asL_rp e2 r2
      intro H w Q c
      refine ⟨a, b, xs, ys, rfl, rfl, h1.at w, h2.at w, by rw [dps_len d1, dps_len d2]; exact lim_le hl, fun p hp => ?_⟩
      exact c _ _ _ _ (w.newA hp) (ret_lst k (w.an hp) (dps_app d1 d2))
    · cases e
  · cases e
end
section
variable {X : Cx} (K : PySem.W.Frag) (hK : X.K = K)
include hK
theorem kJoin : OpR X (binaryOp .Add) (rJoin K) := by subst hK; exact op_join
end
end M
namespace M
open PySem PySem.Spec L2 Z
section
variable {K : PySem.W.Frag} {to ti : TE} {mo mi : mB} {t : TA} {m : mA} {W : List Nat}
/-! ### found.insert(i, x) of an owned list -/
def putAt (ds : List D) (j : Int) (d : D) : List D := ds.take j.toNat ++ [d] ++ ds.drop j.toNat
def mIns (mo : mB) (m : mA) : mB := fun ε => match mo ε with
  | some (.slot i, ε1) => match slotAt ε1 i with
    | some (.lst _) => match m ε1 with
      | some ([.val (.dat (.int j)), r], ε2) => match frzR r ε2 with
        | some (d, ε3) => match slotAt ε3 i with
          | some (.lst os) => match allDat os with
            | some ds => if ds.length ≤ lim ∧ 0 ≤ j ∧ j ≤ lim then some (.val (.dat .none), ε3.set i (some (.lst ((putAt ds j d).map .dat)))) else none
            | none => none
          | _ => none
        | none => none
      | _ => none
    | _ => none
  | _ => none
/-- what the rule of a method has to tell, to be one that puts in -/
def InsR (r : V → List V → Hp → VK → Prop) : Prop := ∀ (l : Addr) (ys : List V) (j : Int) (y : V) (H : Hp) (Q : VK), H l = some (.lst ys) → ys.length < sizeLine → 0 ≤ j → j < 2 ^ 63 →
  Q .non (upd H l (.lst (ys.take j.toNat ++ [y] ++ ys.drop j.toNat))) → r (.ref l) [.int j, y] H Q
theorem dps_putAt {F : Hp} {vs : List V} {ds : List D} {v : V} {d : D} {j : Int} (h : DpAll K F vs ds) (hd : Dp K F v d) : DpAll K F (vs.take j.toNat ++ [v] ++ vs.drop j.toNat) (putAt ds j d) :=
  dps_app (dps_app (dps_take _ h) (.cons hd .nil)) (dps_drop _ h)
theorem lim_63 {j : Int} (h : j ≤ lim) : j < 2 ^ 63 := Int.lt_of_le_of_lt h (by decide)
theorem sn_ins {r : V → List V → Hp → VK → Prop} (hr : InsR r) (ho : Sn K to mo) (h : SnA K t m) : Sn K (tBM K "list" r to t) (mIns mo m) := fun ε rr ε' σ F A fp P e q n k => by
  unfold mIns at e
  split at e
  · rename_i i ε1 e1
    split at e
    · rename_i os1 e2
      split at e
      · rename_i j r' ε2 e3
        split at e
        · rename_i d ε3 e4
          split at e
          · rename_i os e5
            split at e
            · rename_i ds e6
              split at e
              · rename_i hl
                cases e
                cases allDat_eq e6
                refine e_bm (ho ε _ ε1 σ F A fp _ e1 q n fun x F1 A1 fp1 np1 s1 n1 q1 x1 => ?_)
                obtain ⟨p1, vs1, ps1, fpa, rfl, a1, -, -, -, -⟩ := slot_lst q1 x1.2 e2
                refine ⟨ty_lst (.inr a1), fun H w Q c => ?_⟩
                have n1' := (List.nodup_append.mp n1).1
                refine h.fact e3 q1 n1' H w _ fun vs F2 A2 H2 w2 ⟨fp2, np2, s2, n2, q2, x2⟩ => ?_
                cases x2 with
                | cons x0 x2 =>
                  cases x2 with
                  | cons x2 x3 =>
                    cases x3
                    cases x0 with
                    | dat x0 =>
                      cases dp_int x0
                      rw [List.append_nil, List.nil_append] at s2 n2
                      obtain ⟨F3, A3, fp3, w3, s3, n3, q3, d3⟩ := frz_res w2 q2 n2 x2 e4
                      obtain ⟨p, xs, ps, fpb, e7, a3, r3, q4, pm, hi⟩ := slot_lst q3 x1.2 e5
                      cases e7
                      have dx := (dpAll_of r3).1
                      obtain ⟨fp4, q5, n5, s5⟩ := slot_put q4 x1.2 hi n3 pm (dps_putAt (j := j) dx d3)
                      refine c _ F3 A3 H2 w3 fun H3 w4 Q3 c3 => hr _ _ _ _ _ _ (w4.a _ _ a3) (by rw [dps_len dx]; exact lim_lt hl.1) hl.2.1 (lim_63 hl.2.2) (c3 _ _ _ _ (w4.put a3) ?_)
                      exact k _ _ _ fp4 [] ((((s1.sub fun x hx => by simp [hx]).trans s2).trans s3).trans s5).nil' (nod' n5) q5 (.dat .non)
              · cases e
            · cases e
          · cases e
        · cases e
      · cases e
    · cases e
  · cases e
/-! ### del found[i] -/
def mDelIx (mo mi : mB) : mS := fun ε => match mo ε with
  | some (.slot i, ε1) => match mi ε1 with
    | some (.val (.dat (.int j)), ε2) => match slotAt ε2 i with
      | some (.lst os) => match allDat os with
        | some ds => if 0 ≤ j ∧ j < ds.length ∧ j ≤ lim then some (.nx, ε2.set i (some (.lst ((ds.eraseIdx j.toNat).map .dat)))) else none
        | none => none
      | _ => none
    | _ => none
  | _ => none
theorem dps_erase {F : Hp} : ∀ {vs : List V} {ds : List D} {n : Nat}, DpAll K F vs ds → DpAll K F (vs.eraseIdx n) (ds.eraseIdx n)
  | _, _, _, .nil => .nil
  | _, _, 0, .cons _ hs => hs
  | _, _, n + 1, .cons g hs => .cons g (dps_erase hs)
theorem seqIx_of {j : Int} {n : Nat} (h0 : 0 ≤ j) (h1 : j < n) : seqIndex? j n = some j.toNat := by
  unfold seqIndex?
  have : ¬ j < 0 := by omega
  simp [this]
  omega
theorem ss_delIx (ho : Sn K to mo) (hi : Sn K ti mi) : SnS K W (tDelL to ti) (mDelIx mo mi) := fun ε f ε' σ F A fp D e q n k => by
  unfold mDelIx at e
  split at e
  · rename_i i ε1 e1
    split at e
    · rename_i j ε2 e2
      split at e
      · rename_i os e3
        split at e
        · rename_i ds e4
          split at e
          · rename_i hl
            cases e
            cases allDat_eq e4
            intro H w C c
            refine ho.fact e1 q n H w _ fun x F1 A1 H1 w1 ⟨fp1, np1, s1, n1, q1, x1⟩ => ?_
            have n1' := (List.nodup_append.mp n1).1
            refine hi.fact e2 q1 n1' H1 w1 _ fun y F2 A2 H2 w2 ⟨fp2, np2, s2, n2, q2, x2⟩ => ?_
            have n2' := (List.nodup_append.mp n2).1
            cases x2 with
            | dat x2 =>
              cases dp_int x2
              obtain ⟨p, xs, ps, fpb, e7, a3, r3, q4, pm, hi'⟩ := slot_lst q2 x1.2 e3
              cases e7
              have dx := (dpAll_of r3).1
              obtain ⟨fp4, q5, n5, s5⟩ := slot_put q4 x1.2 hi' n2' pm (dps_erase (n := j.toNat) dx)
              refine ⟨_, _, _, _, rfl, rfl, w2.a _ _ a3, ?_, lim_63 hl.2.2, seqIx_of hl.1 (by rw [dps_len dx]; exact hl.2.1), c.nx _ _ _ _ (w2.put a3) ?_⟩
              · exact Int.le_trans (by decide) hl.1
              exact k σ _ _ fp4 [] (((s1.sub fun x hx => by simp [hx]).trans (s2.sub fun x hx => by simp [hx])).trans s5).nil' (nod' n5) q5 .refl
          · cases e
        · cases e
      · cases e
    · cases e
  · cases e
end
end M
namespace M
open PySem PySem.Spec L2 Z
/-! ### a comprehension over an owned list that stays one's own: it stands aside while it is gone through -/
section
variable {K : PySem.W.Frag} {te : TE} {me : mB}
def mLcO (i : Nat) (vs : List Nat) (mg : mG) (mt : mT) (me : mB) : mB := fun ε => match slotAt ε i with
  | some (.lst os) => match allDat os with
    | some ds => match lcGo vs mg mt me ds (wipeE (ε.set i none) vs) [] with
      | some (acc, ε2) => match (restE vs (ε.set i none) ε2)[i]? with
        | some none => some (.val (.lst (acc.map .dat)), (restE vs (ε.set i none) ε2).set i (some (.lst (ds.map .dat))))
        | _ => none
      | none => none
    | none => none
  | _ => none
def LcOwn (K : PySem.W.Frag) (vs : List Nat) (fp : List Addr) (F A : Hp) (σ : St) (mg : mG) (mt : mT) (me : mB) (ds res : List PyData) (ε' : Env) (p pl : Addr) (xs : List V) (i : Nat) (H' : Hp) : Prop :=
  ∃ F' A' fp' ε2 av acc, Wd F' A' H' ∧ A' p = some (.lst av) ∧ A' pl = some (.lst xs) ∧ DpAll K F' av acc ∧ Step fp (fp' ++ [p, pl]) F A F' A' ∧ (fp' ++ [p, pl]).Nodup ∧ Same F F' ∧ Rel K F' A' ε2 (wipe σ vs) fp' ∧ (∀ v ∈ vs, v < ε2.length → ε2[v]? = some none) ∧ lcGo vs mg mt me (ds.drop i) ε2 acc = some (res, ε')
theorem two_in {A : Hp} {p pl : Addr} {u v : HO} (h : A p = some u) (g : A pl = some v) : InA A [p, pl] := fun z hz => by
  simp at hz
  rcases hz with rfl | rfl
  · exact ⟨_, h⟩
  · exact ⟨_, g⟩
theorem sn_lcO {i : Nat} {vs : List Nat} {g : TG} {mg : mG} {tt : TT} {mt : mT} (hg : SnG K vs g mg) (ht : SnT K tt mt) (he : Sn K te me) : Sn K (tLc (iList K (tVar i)) g tt te vs) (mLcO i vs mg mt me) := fun ε rr ε' σ F A fp P e q n k => by
  unfold mLcO at e
  split at e
  · rename_i os e0
    split at e
    · rename_i ds e1
      split at e
      · rename_i res ε2 e2
        split at e
        · rename_i ei
          cases e
          cases allDat_eq e1
          obtain ⟨v0, ps, fp1, h1, h2, h3, h4⟩ := q.get (slotAt_eq e0)
          cases h2 with
          | lst ha hs =>
            rename_i pl xs ps'
            obtain ⟨dx, rfl⟩ := dpAll_of hs
            intro H w Q c
            refine ⟨.ref pl, h1, pl, rfl, ⟨xs, (show Sl K F A pl xs from .inr ha).at w⟩, fun p hp => ?_⟩
            have hF := w.fn hp
            have hA := w.an hp
            have n1 : (pl :: fp1).Nodup := h4.nodup_iff.mp n
            have hne : p ≠ pl := fun z => by rw [z, ha] at hA; cases hA
            have wl := walk_list (K := K) (a := pl) (xs := xs)
            rw [dps_len dx] at wl
            refine lc_it wl (LcOwn K vs fp F A σ mg mt me ds res ε2 p pl xs) ?_ ?_ ?_ ?_
            · obtain ⟨fp2, q2, sb⟩ := rel_wipe h3 vs
              have q3 : Rel K F (upd A p (.lst [])) (wipeE (ε.set i none) vs) (wipe σ vs) fp2 := q2.mono (Same.refl _) fun x hx u e => by rw [upd_ne (ne_of_none e hA)]; exact e
              refine ⟨F, upd A p (.lst []), fp2, wipeE (ε.set i none) vs, [], [], w.newA hp, upd_same, by rw [upd_ne hne.symm]; exact ha, .nil, ⟨Same.refl _, fun x u _ e => by rw [upd_ne (ne_of_none e hA)]; exact e, fun x hx => ?_⟩, ?_, Same.refl _, q3, fun v hv hl => wipeE_at hv (by rw [wipeE_len] at hl; exact hl), by simpa using e2⟩
              · rcases List.mem_append.mp hx with z | z
                · exact .inl (h4.mem_iff.mpr (by simp [sb.subset z]))
                · simp at z
                  rcases z with rfl | rfl
                  · exact .inr hA
                  · exact .inl (h4.mem_iff.mpr (by simp))
              · refine List.nodup_append.mpr ⟨sb.nodup (List.nodup_cons.mp n1).2, by simp [hne], fun x hx y hy e => ?_⟩
                subst e
                simp at hy
                rcases hy with rfl | rfl
                · obtain ⟨u, z⟩ := q2.in x hx
                  rw [hA] at z; cases z
                · exact (List.nodup_cons.mp n1).1 (sb.subset hx)
            · rintro j H2 _ ⟨F2, A2, _, _, _, _, w2, _, hpl, _⟩
              exact (show Sl K F2 A2 pl xs from .inr hpl).at w2
            · rintro j x H2 H3 hl ⟨F2, A2, fp2, ε3, av, acc, w2, hav, hpl, hda, s2, n2, s12, q2, hz, e3⟩ y
              obtain ⟨rfl, y⟩ := y
              obtain ⟨d, ed, dd⟩ := dps_at dx y
              have dd := dp_mono s12 dd
              have hdrop : ds.drop j = d :: ds.drop (j + 1) := by
                have hx : ds[j] = d := by
                  have := ed
                  rw [List.getElem?_eq_getElem hl] at this
                  exact Option.some.inj this
                rw [← hx]
                exact List.drop_eq_getElem_cons hl
              rw [hdrop] at e3
              unfold lcGo at e3
              have nf2 := (List.nodup_append.mp n2).1
              split at e3
              · rename_i ε4 e4
                refine hg (.dat d) ε3 ε4 x (wipe σ vs) F2 A2 fp2 [] (fun σ4 F4 A4 => ∃ fp4, Step fp2 fp4 F2 A2 F4 A4 ∧ fp4.Nodup ∧ Rel K F4 A4 ε4 σ4 fp4 ∧ Agr vs (wipe σ vs) σ4) e4 q2 (.dat dd) (nod' nf2)
                  (fun σ4 F4 A4 fp4 s4 n4 q4 g4 => ⟨fp4, by rw [List.append_nil] at s4; exact s4, n4, q4, g4⟩) _ w2 _ (fun σ4 F4 A4 H4 w4 ⟨fp4, s4, n4, q4, g4⟩ => ?_)
                refine ⟨wipe_agr g4, ?_⟩
                obtain ⟨a4, m4⟩ := s4.apart (two_in hav hpl) n2 n4
                have hav4 : A4 p = some (.lst av) := s4.keep n2 p (by simp) _ hav
                have hpl4 : A4 pl = some (.lst xs) := s4.keep n2 pl (by simp) _ hpl
                cases h : mt ε4 with
                | none => simp only [h] at e3; cases e3
                | some bb =>
                  obtain ⟨b, ε5⟩ := bb
                  refine ht ε4 b ε5 σ4 F4 A4 fp4 (fun b' F5 A5 => b' = b ∧ ∃ fp5, Step fp4 fp5 F4 A4 F5 A5 ∧ fp5.Nodup ∧ Rel K F5 A5 ε5 σ4 fp5) h q4 n4 (fun F5 A5 fp5 s5 n5 q5 => ⟨rfl, fp5, s5, n5, q5⟩) H4 w4 _ (fun b' F5 A5 H5 w5 ⟨eb, fp5, s5, n5, q5⟩ => ?_)
                  subst eb
                  obtain ⟨a5, m5⟩ := s5.apart (two_in hav4 hpl4) m4 n5
                  have hav5 : A5 p = some (.lst av) := s5.keep m4 p (by simp) _ hav4
                  have hpl5 : A5 pl = some (.lst xs) := s5.keep m4 pl (by simp) _ hpl4
                  have hda5 : DpAll K F5 av acc := dps_mono (s4.s.trans s5.s) hda
                  have sF5 : Same F F5 := (s12.trans s4.s).trans s5.s
                  cases b' with
                  | false =>
                    simp only [h] at e3
                    refine iteF ?_
                    obtain ⟨fp6, q6, sb⟩ := rel_wipe q5 vs
                    rw [wipe_agr g4] at q6
                    have nn : (fp6 ++ [p, pl]).Nodup := List.Sublist.nodup (List.Sublist.append sb (.refl _)) m5
                    refine ⟨F5, A5, fp6, wipeE ε5 vs, av, acc, w5, hav5, hpl5, hda5, ((s2.trans a4).trans a5).sub fun z hz => ?_, nn, sF5, q6, fun v hv hl => wipeE_at hv (by rw [wipeE_len] at hl; exact hl), e3⟩
                    rcases List.mem_append.mp hz with z1 | z1
                    · simp [sb.subset z1]
                    · exact List.mem_append.mpr (.inr z1)
                  | true =>
                    simp only [h] at e3
                    refine iteT ?_
                    split at e3
                    · rename_i r ε6 e6
                      refine he.fact e6 q5 n5 H5 w5 _ fun yv F6 A6 H6 w6 ⟨fp6, np6, s6, n6, q6, x6⟩ => ?_
                      obtain ⟨a6, m6⟩ := s6.apart (two_in hav5 hpl5) m5 n6
                      have hav6 : A6 p = some (.lst av) := s6.keep m5 p (by simp) _ hav5
                      have hpl6 : A6 pl = some (.lst xs) := s6.keep m5 pl (by simp) _ hpl5
                      split at e3
                      · rename_i yd ε7 e7
                        split at e3
                        · rename_i hlim
                          obtain ⟨F7, A7, fp7, w7, s7, n7, q7, d7⟩ := frz_res w6 q6 n6 x6 e7
                          obtain ⟨a7, m7⟩ := s7.apart (two_in hav6 hpl6) m6 n7
                          have hav7 : A7 p = some (.lst av) := s7.keep m6 p (by simp) _ hav6
                          have hpl7 : A7 pl = some (.lst xs) := s7.keep m6 pl (by simp) _ hpl6
                          have hda7 : DpAll K F7 av acc := dps_mono (s6.s.trans s7.s) hda5
                          refine ⟨av, w7.a _ _ hav7, by rw [dps_len hda7]; exact lim_lt hlim, ?_⟩
                          obtain ⟨fp8, q8, sb⟩ := rel_wipe q7 vs
                          rw [wipe_agr g4] at q8
                          have nn : (fp8 ++ [p, pl]).Nodup := List.Sublist.nodup (List.Sublist.append sb (.refl _)) m7
                          have q9 : Rel K F7 (upd A7 p (.lst (av ++ [yv]))) (wipeE ε7 vs) (wipe σ vs) fp8 := q8.mono (Same.refl _) fun z hz u e => by
                            rw [upd_ne fun zz => (List.nodup_append.mp nn).2.2 z hz p (by simp) zz]; exact e
                          refine ⟨F7, upd A7 p (.lst (av ++ [yv])), fp8, wipeE ε7 vs, av ++ [yv], acc ++ [yd], w7.put hav7, upd_same, by rw [upd_ne hne.symm]; exact hpl7, dps_app hda7 (.cons d7 .nil), ?_, nn, sF5.trans (s6.s.trans s7.s), q9, fun v hv hl => wipeE_at hv (by rw [wipeE_len] at hl; exact hl), e3⟩
                          have sz : Step (fp7 ++ [p, pl]) (fp7 ++ [p, pl]) F7 A7 F7 (upd A7 p (.lst (av ++ [yv]))) := ⟨Same.refl _, fun z u hz e => by rw [upd_ne fun zz => hz (by simp [zz])]; exact e, fun z hz => .inl hz⟩
                          refine (((((s2.trans a4).trans a5).trans a6).trans a7).trans sz).sub fun z hz => ?_
                          rcases List.mem_append.mp hz with z1 | z1
                          · simp [sb.subset z1]
                          · exact List.mem_append.mpr (.inr z1)
                        · cases e3
                      · cases e3
                    · cases e3
              · cases e3
            · rintro H2 ⟨F2, A2, fp2, ε3, av, acc, w2, hav, hpl, hda, s2, n2, s12, q2, hz, e3⟩
              simp only [List.drop_length, lcGo] at e3
              cases e3
              have q3 := rel_unwipe q2 hz
              obtain ⟨fp3, q4, p4⟩ := rel_rest h3 s12 q3 vs
              obtain ⟨fp5, q5, p5⟩ := q4.back ei h1 (.lst hpl (rpAll_dat (dps_mono s12 dx)))
              have pp : (fp5 ++ [p]).Perm (fp2 ++ [p, pl]) := by
                have p6 : fp5.Perm (pl :: fp2) := p5.trans (List.Perm.cons pl p4)
                refine (List.Perm.append_right [p] p6).trans ?_
                refine (List.perm_append_comm (l₁ := pl :: fp2) (l₂ := [p])).trans ?_
                exact List.perm_append_comm (l₁ := [p, pl]) (l₂ := fp2)
              exact c _ _ _ _ w2 (k _ F2 A2 fp5 [p] (s2.sub fun z hz => pp.mem_iff.mp hz) (pp.nodup_iff.mpr n2) q5 (.lst hav (rpAll_dat hda)))
        · cases e
      · cases e
    · cases e
  · cases e
end
end M
namespace M
open PySem PySem.Spec L2 Z
/-! ### parts of owned things: looked at, and changed, where they stand -/
section
variable {K : PySem.W.Frag} {F A : Hp}
theorem rpAll_nth : ∀ {os : List O} {vs : List V} {qs : List Addr} {n : Nat} {o : O}, RpAll K F A vs os qs → qs.Nodup → os[n]? = some o →
    ∃ v ps, vs[n]? = some v ∧ Rp K F A v o ps ∧ ps.Nodup ∧ (∀ x ∈ ps, x ∈ qs) ∧ ∀ A' o', (∀ x, x ∉ ps → A' x = A x) → Rp K F A' v o' ps → RpAll K F A' vs (os.set n o') qs
  | [], _, _, n, o, h, nd, e => by simp at e
  | x :: os, _, _, 0, o, h, nd, e => by
    cases h with
    | cons h hs =>
      rename_i v vs ps qs
      simp at e
      subst e
      have d := List.nodup_append.mp nd
      refine ⟨v, ps, rfl, h, d.1, fun y hy => by simp [hy], fun A' o' ha h' => ?_⟩
      exact .cons h' (hs.mono (Same.refl _) fun y hy u eu => by rw [ha y fun z => d.2.2 y z y hy rfl]; exact eu)
  | x :: os, _, _, n + 1, o, h, nd, e => by
    cases h with
    | cons h hs =>
      rename_i v vs ps qs
      have d := List.nodup_append.mp nd
      obtain ⟨w, rs, h1, h2, h3, h4, h5⟩ := rpAll_nth hs d.2.1 (by simpa using e)
      refine ⟨w, rs, by simpa using h1, h2, h3, fun y hy => by simp [h4 y hy], fun A' o' ha h' => ?_⟩
      exact .cons (h.mono (Same.refl _) fun y hy u eu => by rw [ha y fun z => d.2.2 y hy y (h4 y z) rfl]; exact eu) (h5 A' o' ha h')
end
abbrev bB := Env → Option O
abbrev uB := O → Env → Option Env
/-- te tells the part that b finds; put otherwise there, the names stand for what u tells -/
def SnU (K : PySem.W.Frag) (te : TE) (b : bB) (u : uB) : Prop := ∀ ε o σ F A fp (P : PV), b ε = some o → Rel K F A ε σ fp → fp.Nodup →
  (∀ v ps, Rp K F A v o ps → ps.Nodup → (∀ x ∈ ps, x ∈ fp) → (∀ A' o' ε', (∀ x, x ∉ ps → A' x = A x) → Rp K F A' v o' ps → u o' ε = some ε' → ∃ fp', Rel K F A' ε' σ fp' ∧ fp'.Perm fp) → P v F A) → Wp (te σ) F A P
def bV (i : Nat) : bB := fun ε => slotAt ε i
def uV (i : Nat) : uB := fun o ε => some (ε.set i (some o))
def ixO (os : List O) (j : Int) : Option Nat := match ixN os.length j with
  | some n => if n < os.length then some n else none
  | none => none
def bIx (b : bB) (j : Int) : bB := fun ε => match b ε with
  | some (.lst os) => match ixO os j with
    | some n => os[n]?
    | none => none
  | some (.tup os) => match ixO os j with
    | some n => os[n]?
    | none => none
  | some (.dat (.tuple ds)) => match atI ds j with
    | some d => some (.dat d)
    | none => none
  | some (.dat (.list ds)) => match atI ds j with
    | some d => some (.dat d)
    | none => none
  | _ => none
def uIx (b : bB) (u : uB) (j : Int) : uB := fun o' ε => match b ε with
  | some (.lst os) => match ixO os j with
    | some n => u (.lst (os.set n o')) ε
    | none => none
  | some (.tup os) => match ixO os j with
    | some n => u (.tup (os.set n o')) ε
    | none => none
  | _ => none
/-- an index that is told without a look at anything -/
def CstI (ti : TE) (j : Int) : Prop := ∀ σ F A (P : PV), P (.int j) F A → Wp (ti σ) F A P
theorem cst_int {j : Int} : CstI (tC (.int j)) j := fun σ F A P q => e_c q
theorem cst_neg {j : Int} : CstI (tUn rNegI (tC (.int j))) (-j) := fun σ F A P q => e_un (e_c (w_neg q))
section
variable {K : PySem.W.Frag} {te ti : TE} {b : bB} {u : uB}
theorem su_var (i : Nat) : SnU K (tVar i) (bV i) (uV i) := fun ε o σ F A fp P e q n k => by
  have e' : slotAt ε i = some o := e
  obtain ⟨v, ps, fp1, h1, h2, h3, h4⟩ := q.get (slotAt_eq e')
  have h5 : (ps ++ fp1).Nodup := h4.nodup_iff.mp n
  have d := List.nodup_append.mp h5
  have hl : i < ε.length := by
    rcases Nat.lt_or_ge i ε.length with z | z
    · exact z
    · have := slotAt_eq e'
      rw [List.getElem?_eq_none z] at this; cases this
  refine e_var h1 (k v ps h2 d.1 (fun x hx => h4.mem_iff.mpr (by simp [hx])) fun A' o' ε' ha h' eu => ?_)
  cases eu
  have h6 : Rel K F A' (ε.set i none) σ fp1 := h3.mono (Same.refl _) fun x hx w ew => by rw [ha x fun z => d.2.2 x z x hx rfl]; exact ew
  obtain ⟨fp2, h7, h8⟩ := h6.back (i := i) (by simp [hl]) h1 h'
  rw [List.set_set] at h7
  exact ⟨fp2, h7, h8.trans h4.symm⟩
theorem atI_of {vs : List V} {j : Int} {n : Nat} {v : V} (h : ixN vs.length j = some n) (g : vs[n]? = some v) : atI vs j = some v := by
  unfold atI; rw [h]; exact g
theorem ixO_eq {os : List O} {j : Int} {n : Nat} (h : ixO os j = some n) : ixN os.length j = some n := by
  unfold ixO at h
  split at h
  · rename_i m e
    split at h
    · cases h; exact e
    · cases h
  · cases h
theorem su_ixC {j : Int} (hb : SnU K te b u) {ε : Env} {o : O} {σ : St} {F A : Hp} {fp : List Addr} {P : PV} (hi : ∀ P : PV, P (.int j) F A → Wp (ti σ) F A P) (e : bIx b j ε = some o) (q : Rel K F A ε σ fp) (n : fp.Nodup)
    (k : ∀ v ps, Rp K F A v o ps → ps.Nodup → (∀ x ∈ ps, x ∈ fp) → (∀ A' o' ε', (∀ x, x ∉ ps → A' x = A x) → Rp K F A' v o' ps → uIx b u j o' ε = some ε' → ∃ fp', Rel K F A' ε' σ fp' ∧ fp'.Perm fp) → P v F A) : Wp (tOp (rIx K) te ti σ) F A P := by
  unfold bIx at e
  split at e
  · rename_i os e1
    split at e
    · rename_i m e2
      refine e_op (hb ε _ σ F A fp _ e1 q n fun x ps hx nd hf foc => hi _ ?_)
      cases hx with
      | lst ha hs =>
        rename_i p vs qs
        have d := List.nodup_cons.mp nd
        obtain ⟨v, rs, h1, h2, h3, h4, h5⟩ := rpAll_nth hs d.2 e
        refine w_ixA (.inr ha) (atI_of (by rw [hs.len]; exact ixO_eq e2) h1) (k v rs h2 h3 (fun y hy => hf y (by simp [h4 y hy])) fun A' o' ε' hA h' eu => ?_)
        unfold uIx at eu
        simp only [e1, e2] at eu
        exact foc A' _ ε' (fun y hy => hA y fun z => hy (by simp [h4 y z])) (.lst (by rw [hA p fun z => d.1 (h4 p z)]; exact ha) (h5 A' o' hA h')) eu
    · cases e
  · rename_i os e1
    split at e
    · rename_i m e2
      refine e_op (hb ε _ σ F A fp _ e1 q n fun x ps hx nd hf foc => hi _ ?_)
      cases hx with
      | tup ha hs =>
        rename_i p vs qs
        have d := List.nodup_cons.mp nd
        obtain ⟨v, rs, h1, h2, h3, h4, h5⟩ := rpAll_nth hs d.2 e
        have at1 : atI vs j = some v := atI_of (by rw [hs.len]; exact ixO_eq e2) h1
        refine fun H w Q c => .inr (.inl ⟨p, vs, j, v, rfl, rfl, .inl (.inl (w.a _ _ ha)), at1, c _ _ _ _ w (k v rs h2 h3 (fun y hy => hf y (by simp [h4 y hy])) fun A' o' ε' hA h' eu => ?_)⟩)
        unfold uIx at eu
        simp only [e1, e2] at eu
        exact foc A' _ ε' (fun y hy => hA y fun z => hy (by simp [h4 y z])) (.tup (by rw [hA p fun z => d.1 (h4 p z)]; exact ha) (h5 A' o' hA h')) eu
    · cases e
  · rename_i ds e1
    split at e
    · rename_i dd e2
      cases e
      refine e_op (hb ε _ σ F A fp _ e1 q n fun x ps hx nd hf foc => hi _ ?_)
      cases hx with
      | dat hx =>
        refine w_ixT hx e2 fun v hv => k v [] (.dat hv) (by simp) (by simp) fun A' o' ε' hA h' eu => ?_
        unfold uIx at eu
        simp only [e1] at eu
        cases eu
    · cases e
  · rename_i ds e1
    split at e
    · rename_i dd e2
      cases e
      refine e_op (hb ε _ σ F A fp _ e1 q n fun x ps hx nd hf foc => hi _ ?_)
      cases hx with
      | dat hx =>
        refine w_ixL hx e2 fun v hv => k v [] (.dat hv) (by simp) (by simp) fun A' o' ε' hA h' eu => ?_
        unfold uIx at eu
        simp only [e1] at eu
        cases eu
    · cases e
  · cases e
theorem su_ix {j : Int} (hb : SnU K te b u) (hi : CstI ti j) : SnU K (tOp (rIx K) te ti) (bIx b j) (uIx b u j) := fun ε o σ F A fp P e q n k => su_ixC hb (fun P h => hi σ F A P h) e q n k
/-- what is found there is a datum -/
def mOfB (b : bB) : mB := fun ε => match b ε with
  | some (.dat d) => some (.val (.dat d), ε)
  | _ => none
theorem sn_ofB (hb : SnU K te b u) : Sn K te (mOfB b) := fun ε r ε' σ F A fp P e q n k => by
  unfold mOfB at e
  split at e
  · rename_i d e1
    cases e
    refine hb ε _ σ F A fp P e1 q n fun v ps h nd hf foc => ?_
    cases h with
    | dat h => exact k v F A fp [] Step.refl.nil' (nod' n) q (.dat h)
  · cases e
def mIsiB (T : String) (b : bB) : mB := fun ε => match b ε with
  | some o => match pIsi T o with
    | some o' => some (.val o', ε)
    | none => none
  | none => none
theorem sn_isiB {T : String} (hb : SnU K te b u) : Sn K (tCB (rIsi K) (tCons te (tCons (tC (.ty T)) tNil))) (mIsiB T b) := fun ε r ε' σ F A fp P e q n k => by
  unfold mIsiB at e
  split at e
  · rename_i o e1
    split at e
    · rename_i o' e2
      cases e
      refine e_cb (a_cons (hb ε _ σ F A fp _ e1 q n fun v ps h nd hf foc => a_cons (e_c (a_nil ?_))))
      unfold pIsi at e2
      split at e2
      · rename_i hp
        split at e2
        · rename_i bb e3
          cases e2
          exact fun H w Q c => Z.w_isi (h.dp w hp) e3 (k _ F A fp [] Step.refl.nil' (nod' n) q (.dat (.bl _))) H w Q c
        · cases e2
      · cases e2
    · cases e
  · cases e
/-- found[i][c:] -/
def mSlB (b : bB) (c : Int) : mB := fun ε => match b ε with
  | some (.lst os) => match allDat os with
    | some ds => some (.val (.lst ((cutD ds (some c) none).map .dat)), ε)
    | none => none
  | _ => none
theorem sn_slB {c : Int} (hb : SnU K te b u) : Sn K (tSl (uSl K) te (tPart (tC (.int c))) tNoPart) (mSlB b c) := fun ε r ε' σ F A fp P e q n k => by
  unfold mSlB at e
  split at e
  · rename_i os e1
    split at e
    · rename_i ds e2
      cases e
      cases allDat_eq e2
      refine e_sl (hb ε _ σ F A fp _ e1 q n fun v ps h nd hf foc => o_some (e_c ⟨c, rfl, o_none ?_⟩))
      cases h with
      | lst ha hs =>
        rename_i pl vs qs
        have dx := (dpAll_of hs).1
        refine w_slL (.inr ha) fun p hF hA => ?_
        have st : Step [] [p] F A F (upd A p (.lst (cutV vs (some c) none))) := ⟨Same.refl _, fun x w _ ew => by rw [upd_ne (ne_of_none ew hA)]; exact ew, fun x hx => by simp at hx; subst hx; exact .inr hA⟩
        obtain ⟨g1, g2⟩ := st.grow q.in n (by simp)
        exact k _ _ _ fp [p] g1 g2 (q.grow st) (.lst upd_same (rpAll_dat (dps_cut dx)))
    · cases e
  · cases e
/-- found[i].append(a constant) -/
def mAppU (b : bB) (u : uB) (d : D) : mB := fun ε => match b ε with
  | some (.lst os) => match allDat os with
    | some ds => if ds.length ≤ lim then (match u (.lst ((ds ++ [d]).map .dat)) ε with
      | some ε1 => some (.val (.dat .none), ε1)
      | none => none) else none
    | none => none
  | _ => none
theorem step_in {fp fp' ps : List Addr} {F A A' : Hp} (hf : ∀ x ∈ ps, x ∈ fp) (hA : ∀ x, x ∉ ps → A' x = A x) (hp : fp'.Perm fp) : Step fp fp' F A F A' :=
  ⟨Same.refl _, fun x w hx ew => by rw [hA x fun z => hx (hf x z)]; exact ew, fun x hx => .inl (hp.mem_iff.mp hx)⟩
theorem sn_appU {d : D} {cv : V} (hd : ∀ F, Dp K F cv d) (hb : SnU K te b u) : Sn K (tBM K "list" rAppend te (tCons (tC cv) tNil)) (mAppU b u d) := fun ε r ε' σ F A fp P e q n k => by
  unfold mAppU at e
  split at e
  · rename_i os e1
    split at e
    · rename_i ds e2
      split at e
      · rename_i hl
        split at e
        · rename_i ε1 e3
          cases e
          cases allDat_eq e2
          refine e_bm (hb ε _ σ F A fp _ e1 q n fun v ps h nd hf foc => ?_)
          cases h with
          | lst ha hs =>
            rename_i p vs qs
            obtain ⟨dx, rfl⟩ := dpAll_of hs
            refine ⟨ty_lst (.inr ha), a_cons (e_c (a_nil ?_))⟩
            refine w_append ha (by rw [dps_len dx]; exact lim_lt hl) ?_
            have hA : ∀ x, x ∉ [p] → upd A p (.lst (vs ++ [cv])) x = A x := fun x hx => upd_ne fun z => hx (by simp [z])
            obtain ⟨fp', q', p'⟩ := foc _ _ _ hA (.lst upd_same (rpAll_dat (dps_app dx (.cons (hd F) .nil)))) e3
            exact k _ _ _ fp' [] (step_in hf hA p').nil' (nod' (p'.nodup_iff.mpr n)) q' (.dat .non)
        · cases e
      · cases e
    · cases e
  · cases e
/-- found[i][j] = a datum -/
def mPutU (b : bB) (u : uB) (j : Int) (me : mB) : mS := fun ε => match me ε with
  | some (.val (.dat d), ε1) => match b ε1 with
    | some (.lst os) => match allDat os with
      | some ds => match ixN ds.length j with
        | some m => match u (.lst ((ds.set m d).map .dat)) ε1 with
          | some ε2 => some (.nx, ε2)
          | none => none
        | none => none
      | none => none
    | _ => none
  | _ => none
theorem ss_putU {W : List Nat} {tv : TE} {me : mB} {j : Int} (hb : SnU K te b u) (hi : CstI ti j) (he : Sn K tv me) : SnS K W (tAsg tv (gSub te ti rSetL)) (mPutU b u j me) := fun ε f ε' σ F A fp D e q n k => by
  unfold mPutU at e
  split at e
  · rename_i d ε1 e1
    split at e
    · rename_i os e2
      split at e
      · rename_i ds e3
        split at e
        · rename_i m e4
          split at e
          · rename_i ε2 e5
            cases e
            cases allDat_eq e3
            refine s_asg (he ε _ ε1 σ F A fp _ e1 q n fun v F1 A1 fp1 np1 s1 n1 q1 x1 => ?_)
            have n1' := (List.nodup_append.mp n1).1
            cases x1 with
            | dat x1 =>
              refine g_sub (hb ε1 _ σ F1 A1 fp1 _ e2 q1 n1' fun ov ps h nd hf foc => hi σ F1 A1 _ ?_)
              cases h with
              | lst ha hs =>
                rename_i p vs qs
                obtain ⟨dx, rfl⟩ := dpAll_of hs
                refine Z.w_set ha (by rw [dps_len dx]; exact e4) ?_
                have hA : ∀ x, x ∉ [p] → upd A1 p (.lst (vs.set m v)) x = A1 x := fun x hx => upd_ne fun z => hx (by simp [z])
                obtain ⟨fp', q', p'⟩ := foc _ _ _ hA (.lst upd_same (rpAll_dat (dps_set (n := m) x1 dx))) e5
                exact k σ _ _ fp' [] ((s1.sub fun x hx => by simpa using hx).trans (step_in hf hA p')).nil' (nod' (p'.nodup_iff.mpr n1')) q' .refl
          · cases e
        · cases e
      · cases e
    · cases e
  · cases e
/-! ### a tuple of things of one's own -/
variable {t : TA} {m : mA} {to : TE} {mo : mB}
def mTupO (m : mA) : mB := fun ε => match m ε with
  | some (rs, ε1) => match outAll rs ε1 with
    | some (os, ε2) => if os.length ≤ lim then some (.val (.tup os), ε2) else none
    | none => none
  | none => none
theorem sn_tupO (h : SnA K t m) : Sn K (L2.tTup t) (mTupO m) := fun ε r ε' σ F A fp P e q n k => by
  unfold mTupO at e
  split at e
  · rename_i rs ε1 e1
    split at e
    · rename_i os ε2 e2
      split at e
      · rename_i hl
        cases e
        intro H w Q c
        refine h.fact e1 q n H w _ fun vs F1 A1 H1 w1 ⟨fp1, np1, s1, n1, q1, x1⟩ => ?_
        obtain ⟨fp2, ps, q2, r2, p2⟩ := out_all q1 n1 x1 e2
        refine ⟨by rw [r2.len]; exact lim_le hl, fun p hp => ?_⟩
        have hA := w1.an hp
        have n2 : (fp2 ++ ps).Nodup := p2.nodup_iff.mpr n1
        have up : ∀ x z, A1 x = some z → upd A1 p (.tup vs) x = some z := fun x z ez => by rw [upd_ne (ne_of_none ez hA)]; exact ez
        have pin : p ∉ fp2 ++ ps := fun hx => by
          rcases List.mem_append.mp hx with z | z
          · obtain ⟨_, g⟩ := q2.in p z; rw [hA] at g; cases g
          · obtain ⟨_, g⟩ := RpAll.in r2 p z; rw [hA] at g; cases g
        have st : Step (fp1 ++ np1) (fp2 ++ (p :: ps)) F1 A1 F1 (upd A1 p (.tup vs)) := ⟨Same.refl _, fun x z _ ez => up x z ez, fun x hx => by
          rcases List.mem_append.mp hx with z | z
          · exact .inl (p2.mem_iff.mp (by simp [z]))
          · rcases List.mem_cons.mp z with rfl | z
            · exact .inr hA
            · exact .inl (p2.mem_iff.mp (by simp [z]))⟩
        have nn : (fp2 ++ (p :: ps)).Nodup := (List.perm_middle.nodup_iff).mpr (List.nodup_cons.mpr ⟨pin, n2⟩)
        exact c _ _ _ _ (w1.newA hp) (k _ _ _ fp2 (p :: ps) (s1.trans st) nn (q2.mono (Same.refl _) fun x _ z ez => up x z ez) (.tup upd_same (r2.mono (Same.refl _) fun x _ z ez => up x z ez)))
      · cases e
    · cases e
  · cases e
/-! ### found.append(a thing of one's own) -/
def mAppM (mo : mB) (m : mA) : mB := fun ε => match mo ε with
  | some (.slot i, ε1) => match slotAt ε1 i with
    | some (.lst _) => match m ε1 with
      | some ([r], ε2) => match outR r ε2 with
        | some (o, ε3) => match slotAt ε3 i with
          | some (.lst os) => if os.length ≤ lim then some (.val (.dat .none), ε3.set i (some (.lst (os ++ [o])))) else none
          | _ => none
        | none => none
      | _ => none
    | _ => none
  | _ => none
theorem rpAll_snoc {F A : Hp} {v : V} {o : O} {pv : List Addr} (h : Rp K F A v o pv) : ∀ {vs : List V} {os : List O} {ps : List Addr}, RpAll K F A vs os ps → RpAll K F A (vs ++ [v]) (os ++ [o]) (ps ++ pv)
  | _, _, _, .nil => by
    have := RpAll.cons h .nil
    simpa using this
  | _, _, _, .cons g gs => by
    have := RpAll.cons g (rpAll_snoc h gs)
    simpa [List.append_assoc] using this
theorem sn_appM (ho : Sn K to mo) (h : SnA K t m) : Sn K (tBM K "list" rAppend to t) (mAppM mo m) := fun ε rr ε' σ F A fp P e q n k => by
  unfold mAppM at e
  split at e
  · rename_i i ε1 e1
    split at e
    · rename_i os1 e2
      split at e
      · rename_i r ε2 e3
        split at e
        · rename_i o ε3 e4
          split at e
          · rename_i os e5
            split at e
            · rename_i hl
              cases e
              refine e_bm (ho ε _ ε1 σ F A fp _ e1 q n fun x F1 A1 fp1 np1 s1 n1 q1 x1 => ?_)
              obtain ⟨p1, vs1, ps1, fpa, rfl, a1, -, -, -, -⟩ := slot_lst q1 x1.2 e2
              refine ⟨ty_lst (.inr a1), fun H w Q c => ?_⟩
              have n1' := (List.nodup_append.mp n1).1
              refine h.fact e3 q1 n1' H w _ fun vs F2 A2 H2 w2 ⟨fp2, np2, s2, n2, q2, x2⟩ => ?_
              cases x2 with
              | cons x2 x3 =>
                cases x3
                rename_i v npv haf
                rw [List.append_nil] at s2 n2
                obtain ⟨fp3, pv, q3, r3, p3⟩ := out_res q2 n2 x2 e4
                have n3 : (fp3 ++ pv).Nodup := p3.nodup_iff.mpr n2
                obtain ⟨p, xs, ps, fpb, e7, a3, r4, q4, pm, hi⟩ := slot_lst q3 x1.2 e5
                cases e7
                have d3 := List.nodup_append.mp n3
                have nb : ((p1 :: ps) ++ fpb).Nodup := pm.nodup_iff.mp d3.1
                have db := List.nodup_append.mp nb
                have dc := List.nodup_cons.mp db.1
                have hpv : p1 ∉ pv := fun z => d3.2.2 p1 (pm.mem_iff.mpr (by simp)) p1 z rfl
                have hpb : p1 ∉ fpb := fun z => db.2.2 p1 (by simp) p1 z rfl
                have up : ∀ x z, x ≠ p1 → A2 x = some z → upd A2 p1 (.lst (xs ++ [v])) x = some z := fun x z hx ez => by rw [upd_ne hx]; exact ez
                have g1 : Rp K F2 (upd A2 p1 (.lst (xs ++ [v]))) (.ref p1) (.lst (os ++ [o])) (p1 :: (ps ++ pv)) :=
                  .lst upd_same (rpAll_snoc (r3.mono (Same.refl _) fun x hx z ez => up x z (fun w => hpv (w ▸ hx)) ez) (r4.mono (Same.refl _) fun x hx z ez => up x z (fun w => dc.1 (w ▸ hx)) ez))
                have g2 : Rel K F2 (upd A2 p1 (.lst (xs ++ [v]))) (ε3.set i none) σ fpb := q4.mono (Same.refl _) fun x hx z ez => up x z (fun w => hpb (w ▸ hx)) ez
                obtain ⟨fp5, q5, p5⟩ := g2.back (i := i) (by simp [hi]) x1.2 g1
                rw [List.set_set] at q5
                have pp : fp5.Perm (fp3 ++ pv) := by
                  refine p5.trans ?_
                  have a1 : (p1 :: (ps ++ pv) ++ fpb).Perm ((p1 :: ps ++ fpb) ++ pv) := by
                    show (p1 :: (ps ++ pv ++ fpb)).Perm (p1 :: (ps ++ fpb ++ pv))
                    refine List.Perm.cons _ ?_
                    rw [List.append_assoc, List.append_assoc]
                    exact List.Perm.append_left ps List.perm_append_comm
                  exact a1.trans (List.Perm.append_right pv pm.symm)
                have n5 : fp5.Nodup := pp.nodup_iff.mpr n3
                have s5 : Step (fp2 ++ npv) fp5 F2 A2 F2 (upd A2 p1 (.lst (xs ++ [v]))) := ⟨Same.refl _, fun x z hx ez => up x z (fun w => hx (p3.mem_iff.mp (List.mem_append.mpr (.inl (pm.mem_iff.mpr (by simp [w])))))) ez, fun x hx => .inl (p3.mem_iff.mp (pp.mem_iff.mp hx))⟩
                exact c _ F2 A2 H2 w2 (w_append a3 (by rw [r4.len]; exact lim_lt hl) (k _ _ _ fp5 [] ((((s1.sub fun x hx => by simp [hx]).trans s2)).trans s5).nil' (nod' n5) q5 (.dat .non)))
            · cases e
          · cases e
        · cases e
      · cases e
    · cases e
  · cases e
/-! ### found.pop(0) -/
def mPopAt (mo : mB) (m : mA) : mB := fun ε => match mo ε with
  | some (.slot i, ε1) => match slotAt ε1 i with
    | some (.lst _) => match m ε1 with
      | some ([.val (.dat (.int j))], ε2) => match slotAt ε2 i with
        | some (.lst os) => match allDat os with
          | some ds => if 0 ≤ j ∧ j < ds.length ∧ j ≤ lim then (match ds[j.toNat]? with
            | some d => some (.val (.dat d), ε2.set i (some (.lst ((ds.eraseIdx j.toNat).map .dat))))
            | none => none) else none
          | none => none
        | _ => none
      | _ => none
    | _ => none
  | _ => none
theorem sn_popAt (ho : Sn K to mo) (h : SnA K t m) : Sn K (tBM K "list" rPopAt to t) (mPopAt mo m) := fun ε rr ε' σ F A fp P e q n k => by
  unfold mPopAt at e
  split at e
  · rename_i i ε1 e1
    split at e
    · rename_i os1 e2
      split at e
      · rename_i j ε2 e3
        split at e
        · rename_i os e4
          split at e
          · rename_i ds e5
            split at e
            · rename_i hj
              split at e
              · rename_i d e6
                cases e
                cases allDat_eq e5
                refine e_bm (ho ε _ ε1 σ F A fp _ e1 q n fun x F1 A1 fp1 np1 s1 n1 q1 x1 => ?_)
                obtain ⟨p1, vs1, ps1, fpa, rfl, a1, -, -, -, -⟩ := slot_lst q1 x1.2 e2
                refine ⟨ty_lst (.inr a1), fun H w Q c => ?_⟩
                have n1' := (List.nodup_append.mp n1).1
                refine h.fact e3 q1 n1' H w _ fun vs F2 A2 H2 w2 ⟨fp2, np2, s2, n2, q2, x2⟩ => ?_
                cases x2 with
                | cons x2 x3 =>
                  cases x3
                  cases x2 with
                  | dat x2 =>
                    cases dp_int x2
                    obtain ⟨p, xs, ps, fpb, e7, a3, r3, q4, pm, hi⟩ := slot_lst q2 x1.2 e4
                    cases e7
                    have dx := (dpAll_of r3).1
                    obtain ⟨y, h1, h2⟩ := dps_get dx e6
                    have n2' := (List.nodup_append.mp n2).1
                    obtain ⟨fp4, q5, n5, s5⟩ := slot_put q4 x1.2 hi n2' pm (dps_erase (n := j.toNat) dx)
                    refine c _ F2 A2 H2 w2 fun H3 w3 Q3 c3 => ⟨_, _, _, _, _, rfl, rfl, w3.a _ _ a3, Int.le_trans (by decide) hj.1, lim_63 hj.2.2, seqIx_of hj.1 (by rw [dps_len dx]; exact hj.2.1), h1, c3 _ _ _ _ (w3.put a3) ?_⟩
                    exact k _ _ _ fp4 [] (((s1.sub fun x hx => by simp [hx]).trans (s2.sub fun x hx => by simp [hx])).trans s5).nil' (nod' n5) q5 (.dat h2)
              · cases e
            · cases e
          · cases e
        · cases e
      · cases e
    · cases e
  · cases e
end
end M
namespace M
open PySem PySem.Spec L2 Z
/-! ### bits of whole numbers -/
section
variable {K : PySem.W.Frag}
def pXor := int2 fun i j => some (.int (Builtin.bitXor i j))
def pAnd := int2 fun i j => some (.int (Builtin.bitAnd i j))
def pShl := int2 fun i j => if 0 ≤ j ∧ j ≤ 1000000 ∧ i.natAbs < 2 ^ 64 then some (.int (i * 2 ^ j.toNat)) else none
theorem om_xor : OpM K (rI0 fun i j => .int (Builtin.bitXor i j)) pXor := om_int2 fun i j d F A P e k => by cases e; exact fun H w Q c => ⟨i, j, rfl, rfl, c _ _ _ _ w (k _ fun _ => .int _)⟩
theorem om_and : OpM K (rI0 fun i j => .int (Builtin.bitAnd i j)) pAnd := om_int2 fun i j d F A P e k => by cases e; exact fun H w Q c => ⟨i, j, rfl, rfl, c _ _ _ _ w (k _ fun _ => .int _)⟩
theorem om_shl : OpM K (rI CPow fun i j => .int (i * 2 ^ j.toNat)) pShl := om_int2 fun i j d F A P e k => by
  split at e
  · rename_i h
    cases e
    exact fun H w Q c => ⟨i, j, rfl, rfl, h, c _ _ _ _ w (k _ fun _ => .int _)⟩
  · cases e
def pAbs : O → Option O
  | .dat (.int i) => some (.dat (.int (if i < 0 then -i else i)))
  | _ => none
theorem cm_abs {r : List V → Hp → VK → Prop} (hr : ∀ i H Q, Q (.int (if i < 0 then -i else i)) H → r [.int i] H Q) : CbM K r (one pAbs) := cm_one fun oa o F A x ps P e r1 k => by
  unfold pAbs at e
  split at e
  · cases e
    cases r1 with
    | dat r1 => cases dp_int r1; exact fun H w Q c => hr _ _ _ (c _ _ _ _ w (ret_dat k (.int _)))
  · cases e
end
/-! ### what is never reached -/
def mNever : mS := fun _ => none
theorem ss_never {K : PySem.W.Frag} {W : List Nat} : SnS K W tNever mNever := fun ε f ε' σ F A fp D e q n k => by cases e
/-! ### d[k] -= v -/
section
variable {K : PySem.W.Frag} {td ty tv : TE} {mo mk me : mB} {W : List Nat}
def mDAug (mo mk me : mB) : mS := fun ε => match mo ε with
  | some (.slot i, ε1) => match mk ε1 with
    | some (.val (.dat c), ε2) => match keyOf c with
      | some j => match slotAt ε2 i with
        | some (.dic kvs) => match valD kvs j with
          | some (.int x) => match me ε2 with
            | some (.val (.dat (.int y)), ε3) => match slotAt ε3 i with
              | some (.dic kvs') => if kvs'.length < lim then some (.nx, ε3.set i (some (.dic (putD kvs' j (.int (x - y)))))) else none
              | _ => none
            | _ => none
          | _ => none
        | _ => none
      | none => none
    | _ => none
  | _ => none
theorem ss_daug (ho : Sn K td mo) (hk : Sn K ty mk) (he : Sn K tv me) : SnS K W (sDAug td ty tv rSub) (mDAug mo mk me) := fun ε f ε' σ F A fp D e q n k => by
  unfold mDAug at e
  split at e
  · rename_i i ε1 e1
    split at e
    · rename_i c ε2 e2
      split at e
      · rename_i j e3
        split at e
        · rename_i kvs e4
          split at e
          · rename_i x e5
            split at e
            · rename_i y ε3 e6
              split at e
              · rename_i kvs' e7
                split at e
                · rename_i hlim
                  cases e
                  intro H w C cc
                  refine ho.fact e1 q n H w _ fun ov F1 A1 H1 w1 ⟨fp1, np1, s1, n1, q1, x1⟩ => ?_
                  refine hk.fact e2 q1 (List.nodup_append.mp n1).1 H1 w1 _ fun kv F2 A2 H2 w2 ⟨fp2, np2, s2, n2, q2, x2⟩ => ?_
                  have n2' := (List.nodup_append.mp n2).1
                  obtain ⟨p, xs, fpa, rfl, a2, r2, -, -, -⟩ := slot_dic q2 x1.2 e4
                  cases x2 with
                  | dat x2 =>
                    cases keyOf_eq e3 x2
                    have hv := r2.val (k := j)
                    rw [e5] at hv
                    obtain ⟨v, g1, g2⟩ := hv
                    cases dp_int g2
                    refine ⟨p, _, rfl, .inl ⟨xs, j, .inl (w2.a _ _ a2), rfl, g1.symm⟩, ?_⟩
                    refine he.fact e6 q2 n2' H2 w2 _ fun yv F3 A3 H3 w3 ⟨fp3, np3, s3, n3, q3, x3⟩ => ?_
                    have n3' := (List.nodup_append.mp n3).1
                    cases x3 with
                    | dat x3 =>
                      cases dp_int x3
                      obtain ⟨p', xs', fpb, e8, a3, r3, q4, pm, hl⟩ := slot_dic q3 x1.2 e7
                      cases e8
                      obtain ⟨fp5, q6, n6, s6⟩ := slot_putD q4 x1.2 hl n3' pm (r3.put (k := j) (.int (x - y)))
                      refine ⟨x, y, rfl, rfl, _, .inl ⟨xs', j, w3.a _ _ a3, rfl, by rw [r3.len]; exact lim_lt (Nat.le_of_lt hlim), rfl⟩, cc.nx _ _ _ _ (w3.put a3) ?_⟩
                      exact k σ _ _ fp5 [] ((((s1.sub fun x hx => by simp [hx]).trans (s2.sub fun x hx => by simp [hx])).trans (s3.sub fun x hx => by simp [hx])).trans s6).nil' (nod' n6) q6 .refl
                · cases e
              · cases e
            · cases e
          · cases e
        · cases e
      · cases e
    · cases e
  · cases e
end
/-! ### an index that stands in a slot; a part of a list gets a datum that is found without a change -/
section
variable {K : PySem.W.Frag} {te ti ta : TE} {b ba : bB} {u ua : uB}
def bIxV (b : bB) (i : Nat) : bB := fun ε => match slotAt ε i with
  | some (.dat (.int j)) => bIx b j ε
  | _ => none
theorem su_ixV {i : Nat} (hb : SnU K te b u) : SnU K (tOp (rIx K) te (tVar i)) (bIxV b i) (fun _ _ => none) := fun ε o σ F A fp P e q n k => by
  unfold bIxV at e
  split at e
  · rename_i j e0
    obtain ⟨v, ps, fp1, h1, h2, h3, h4⟩ := q.get (slotAt_eq e0)
    cases h2 with
    | dat h2 =>
      cases dp_int h2
      exact su_ixC hb (fun P hP => e_var h1 hP) e q n fun v ps a1 a2 a3 a4 => k v ps a1 a2 a3 fun A' o' ε' h h' z => by cases z
  · cases e
/-- part.append(a datum that is found without a change) -/
def mAppV (b : bB) (u : uB) (ba : bB) : mB := fun ε => match b ε with
  | some (.lst os) => match allDat os with
    | some ds => match ba ε with
      | some (.dat d) => if ds.length ≤ lim then (match u (.lst ((ds ++ [d]).map .dat)) ε with
        | some ε1 => some (.val (.dat .none), ε1)
        | none => none) else none
      | _ => none
    | none => none
  | _ => none
theorem sn_appV (hb : SnU K te b u) (ha : SnU K ta ba ua) : Sn K (tBM K "list" rAppend te (tCons ta tNil)) (mAppV b u ba) := fun ε r ε' σ F A fp P e q n k => by
  unfold mAppV at e
  split at e
  · rename_i os e1
    split at e
    · rename_i ds e2
      split at e
      · rename_i d e0
        split at e
        · rename_i hl
          split at e
          · rename_i ε1 e3
            cases e
            cases allDat_eq e2
            refine e_bm (hb ε _ σ F A fp _ e1 q n fun v ps h nd hf foc => ?_)
            cases h with
            | lst h1 hs =>
              rename_i p vs qs
              obtain ⟨dx, rfl⟩ := dpAll_of hs
              refine ⟨ty_lst (.inr h1), a_cons (ha ε _ σ F A fp _ e0 q n fun y ys hy _ _ _ => a_nil ?_)⟩
              cases hy with
              | dat hy =>
                refine w_append h1 (by rw [dps_len dx]; exact lim_lt hl) ?_
                have hA : ∀ x, x ∉ [p] → upd A p (.lst (vs ++ [y])) x = A x := fun x hx => upd_ne fun z => hx (by simp [z])
                obtain ⟨fp', q', p'⟩ := foc _ _ _ hA (.lst upd_same (rpAll_dat (dps_app dx (.cons hy .nil)))) e3
                exact k _ _ _ fp' [] (step_in hf hA p').nil' (nod' (p'.nodup_iff.mpr n)) q' (.dat .non)
          · cases e
        · cases e
      · cases e
    · cases e
  · cases e
end
end M
namespace M
open PySem PySem.Spec L2 Z
/-! ### {k: v for ..} -/
section
variable {K : PySem.W.Frag} {tk tv : TE} {mk mv : mB}
def dcGo (vs : List Nat) (mg : mG) (mt : mT) (mk mv : mB) : List PyData → Env → List (Key × D) → Option (List (Key × D) × Env)
  | [], ε, acc => some (acc, ε)
  | d :: ds, ε, acc => match mg (.dat d) ε with
    | some ε1 => match mt ε1 with
      | some (true, ε2) => match mk ε2 with
        | some (.val (.dat c), ε3) => match keyOf c with
          | some j => match mv ε3 with
            | some (.val (.dat y), ε4) => if acc.length ≤ lim then dcGo vs mg mt mk mv ds (wipeE ε4 vs) (putD acc j y) else none
            | _ => none
          | none => none
        | _ => none
      | some (false, ε2) => dcGo vs mg mt mk mv ds (wipeE ε2 vs) acc
      | none => none
    | none => none
def mDc (vs : List Nat) (mi : mI) (mg : mG) (mt : mT) (mk mv : mB) : mB := fun ε => match mi ε with
  | some (ds, ε1) => match dcGo vs mg mt mk mv ds (wipeE ε1 vs) [] with
    | some (acc, ε2) => some (.val (.dic acc), restE vs ε1 ε2)
    | none => none
  | none => none
/-- one turn: the new entry is put into the dict at q, or nothing is; then N -/
def dcTurn (g : TG) (tt : TT) (tk tv : TE) (vs : List Nat) (σ : St) (q : Addr) (N : Hp → Prop) (x : V) (H0 : Hp) : Prop :=
  g x (wipe σ vs) H0 fun τ Ha => wipe τ vs = wipe σ vs ∧ tt τ Ha fun yes Hb =>
    if yes = true then tk τ Hb fun key Hc => tv τ Hc fun val Hd => ∃ old k, key = kV k ∧ Hd q = some (.dK old) ∧ old.length < sizeLine ∧ N (upd Hd q (.dK (putK old k val)))
    else N Hb
theorem walk_dc {J : It} {n : Nat} {G : Hp → Prop} {Y : Nat → Hp → V → Hp → Prop} (w : Walk J n G Y) {g : TG} {tt : TT} {vs : List Nat} {σ : St} {H1 : Hp} {q : Addr} {Qd : Hp → Prop} (Pv : Nat → Hp → Prop) (h0 : Pv 0 (upd H1 q (.dK []))) (hG : ∀ i H, i ≤ n → Pv i H → G H)
    (hs : ∀ i x H H', i < n → Pv i H → Y i H x H' → dcTurn g tt tk tv vs σ q (Pv (i + 1)) x H') (hd : ∀ H, Pv n H → Qd H) :
    ∃ W : Nat → Nat → Hp → Prop, (∃ m, W 0 m (upd H1 q (.dK []))) ∧ ∀ i m H, W i m H → (J.stop i H ∧ Qd H) ∨ (J.go i H ∧ ∃ N : Hp → Prop, (∀ H', N H' → ∃ m', m' < m ∧ W (i + 1) m' H') ∧ ∀ x H', J.yld i H x H' → dcTurn g tt tk tv vs σ q N x H') := by
  refine ⟨fun i m H => i ≤ n ∧ m + i = n ∧ Pv i H, ⟨n, Nat.zero_le _, rfl, h0⟩, fun i m H hW => ?_⟩
  obtain ⟨hi, hm, hp⟩ := hW
  rcases Nat.lt_or_ge i n with hl | hl
  · refine .inr ⟨w.goes i H hl (hG i H hi hp), Pv (i + 1), fun H' z => ⟨m - 1, by omega, hl, by omega, z⟩, fun x H' hy => ?_⟩
    exact hs i x H H' hl hp (w.yields i H x H' hl (hG i H hi hp) hy)
  · have e : i = n := Nat.le_antisymm hi hl
    subst e
    exact .inl ⟨w.stops H (hG _ H hi hp), hd H hp⟩
def DcInv (K : PySem.W.Frag) (vs : List Nat) (fp : List Addr) (F A F1 : Hp) (σ : St) (mg : mG) (mt : mT) (mk mv : mB) (ds : List PyData) (res : List (Key × D)) (ε' : Env) (p : Addr) (i : Nat) (H' : Hp) : Prop :=
  ∃ F' A' fp' ε2 av acc, Wd F' A' H' ∧ A' p = some (.dK av) ∧ KD K F' av acc ∧ Step fp (fp' ++ [p]) F A F' A' ∧ (fp' ++ [p]).Nodup ∧ Same F1 F' ∧ Rel K F' A' ε2 (wipe σ vs) fp' ∧ (∀ v ∈ vs, v < ε2.length → ε2[v]? = some none) ∧ dcGo vs mg mt mk mv (ds.drop i) ε2 acc = some (res, ε')
theorem one_in {A : Hp} {p : Addr} {u : HO} (h : A p = some u) : InA A [p] := fun z hz => by simp at hz; subst hz; exact ⟨_, h⟩
theorem sn_dc {vs : List Nat} {wi : TI} {mi : mI} {g : TG} {mg : mG} {tt : TT} {mt : mT} (hi : SnI K wi mi) (hg : SnG K vs g mg) (ht : SnT K tt mt) (hk : Sn K tk mk) (hv : Sn K tv mv) : Sn K (tDc wi g tt tk tv vs) (mDc vs mi mg mt mk mv) := fun ε rr ε' σ F A fp P e q n k => by
  unfold mDc at e
  split at e
  · rename_i ds ε1 e1
    split at e
    · rename_i res ε2 e2
      cases e
      intro H w Q c
      refine hi ε ds ε1 σ F A fp H e1 q n w _ fun J F1 A1 fp1 H1 w1 s1 n1 q1 wk p hp => ?_
      have hF := w1.fn hp
      have hA := w1.an hp
      refine walk_dc wk (DcInv K vs fp F A F1 σ mg mt mk mv ds res ε2 p) ?_ ?_ ?_ ?_
      · obtain ⟨fp2, q2, sb⟩ := rel_wipe q1 vs
        have st : Step [] [p] F1 A1 F1 (upd A1 p (.dK [])) := ⟨Same.refl _, fun x u _ e => by rw [upd_ne (ne_of_none e hA)]; exact e, fun x hx => by simp at hx; subst hx; exact .inr hA⟩
        obtain ⟨g1, g2⟩ := st.grow q2.in (sb.nodup n1) (by simp)
        exact ⟨F1, upd A1 p (.dK []), fp2, wipeE ε1 vs, [], [], w1.newA hp, upd_same, .nil, (s1.sub fun x hx => sb.subset hx).trans g1, g2, Same.refl _, q2.grow st, fun v hv hl => wipeE_at hv (by rw [wipeE_len] at hl; exact hl), by simpa using e2⟩
      · rintro i H2 _ ⟨F2, A2, _, _, _, _, w2, _, _, _, _, s12, _⟩
        exact ⟨F2, A2, w2, s12⟩
      · rintro i x H2 H3 hl ⟨F2, A2, fp2, ε3, av, acc, w2, hav, hda, s2, n2, s12, q2, hz, e3⟩ y
        obtain ⟨F3, w3, s3, d, ed, dd⟩ := y F2 A2 w2 s12
        have hdrop : ds.drop i = d :: ds.drop (i + 1) := by
          have hx : ds[i] = d := Option.some.inj ((List.getElem?_eq_getElem hl).symm.trans ed)
          rw [← hx]
          exact List.drop_eq_getElem_cons hl
        rw [hdrop] at e3
        unfold dcGo at e3
        have q3 : Rel K F3 A2 ε3 (wipe σ vs) fp2 := q2.mono s3 fun x hx u e => e
        have s3' : Step fp (fp2 ++ [p]) F A F3 A2 := s2.trans ⟨s3, fun x u _ e => e, fun x hx => .inl hx⟩
        split at e3
        · rename_i ε4 e4
          refine hg (.dat d) ε3 ε4 x (wipe σ vs) F3 A2 fp2 [] (fun σ4 F4 A4 => ∃ fp4, Step fp2 fp4 F3 A2 F4 A4 ∧ fp4.Nodup ∧ Rel K F4 A4 ε4 σ4 fp4 ∧ Agr vs (wipe σ vs) σ4) e4 q3 (.dat dd) (nod' (List.nodup_append.mp n2).1)
            (fun σ4 F4 A4 fp4 s4 n4 q4 g4 => ⟨fp4, by rw [List.append_nil] at s4; exact s4, n4, q4, g4⟩) H3 w3 _ (fun σ4 F4 A4 H4 w4 ⟨fp4, s4, n4, q4, g4⟩ => ?_)
          refine ⟨wipe_agr g4, ?_⟩
          obtain ⟨a4, m4⟩ := s4.apart (one_in hav) n2 n4
          have hav4 : A4 p = some (.dK av) := s4.keep n2 p (by simp) _ hav
          cases h : mt ε4 with
          | none => simp only [h] at e3; cases e3
          | some bb =>
            obtain ⟨b, ε5⟩ := bb
            refine ht ε4 b ε5 σ4 F4 A4 fp4 (fun b' F5 A5 => b' = b ∧ ∃ fp5, Step fp4 fp5 F4 A4 F5 A5 ∧ fp5.Nodup ∧ Rel K F5 A5 ε5 σ4 fp5) h q4 n4 (fun F5 A5 fp5 s5 n5 q5 => ⟨rfl, fp5, s5, n5, q5⟩) H4 w4 _ (fun b' F5 A5 H5 w5 ⟨eb, fp5, s5, n5, q5⟩ => ?_)
            subst eb
            obtain ⟨a5, m5⟩ := s5.apart (one_in hav4) m4 n5
            have hav5 : A5 p = some (.dK av) := s5.keep m4 p (by simp) _ hav4
            have hda5 : KD K F5 av acc := hda.mono ((s3.trans s4.s).trans s5.s)
            have sF5 : Same F1 F5 := ((s12.trans s3).trans s4.s).trans s5.s
            cases b' with
            | false =>
              simp only [h] at e3
              refine iteF ?_
              obtain ⟨fp6, q6, sb⟩ := rel_wipe q5 vs
              rw [wipe_agr g4] at q6
              refine ⟨F5, A5, fp6, wipeE ε5 vs, av, acc, w5, hav5, hda5, ((s3'.trans a4).trans a5).sub fun z hz => ?_, List.Sublist.nodup (List.Sublist.append sb (.refl _)) m5, sF5, q6, fun v hv hl => wipeE_at hv (by rw [wipeE_len] at hl; exact hl), e3⟩
              rcases List.mem_append.mp hz with z1 | z1
              · simp [sb.subset z1]
              · exact List.mem_append.mpr (.inr z1)
            | true =>
              simp only [h] at e3
              refine iteT ?_
              split at e3
              · rename_i cd ε6 e6
                split at e3
                · rename_i j ej
                  refine hk.fact e6 q5 n5 H5 w5 _ fun kv F6 A6 H6 w6 ⟨fp6, np6, s6, n6, q6, x6⟩ => ?_
                  cases x6 with
                  | dat x6 =>
                    cases keyOf_eq ej x6
                    rw [List.append_nil] at s6 n6
                    obtain ⟨a6, m6⟩ := s6.apart (one_in hav5) m5 n6
                    have hav6 : A6 p = some (.dK av) := s6.keep m5 p (by simp) _ hav5
                    split at e3
                    · rename_i yd ε7 e7
                      split at e3
                      · rename_i hlim
                        refine hv.fact e7 q6 n6 H6 w6 _ fun zv F7 A7 H7 w7 ⟨fp7, np7, s7, n7, q7, x7⟩ => ?_
                        cases x7 with
                        | dat x7 =>
                          rw [List.append_nil] at s7 n7
                          obtain ⟨a7, m7⟩ := s7.apart (one_in hav6) m6 n7
                          have hav7 : A7 p = some (.dK av) := s7.keep m6 p (by simp) _ hav6
                          have hda7 : KD K F7 av acc := hda5.mono (s6.s.trans s7.s)
                          refine ⟨av, j, rfl, w7.a _ _ hav7, by rw [hda7.len]; exact lim_lt hlim, ?_⟩
                          obtain ⟨fp8, q8, sb⟩ := rel_wipe q7 vs
                          rw [wipe_agr g4] at q8
                          have nn : (fp8 ++ [p]).Nodup := List.Sublist.nodup (List.Sublist.append sb (.refl _)) m7
                          have q9 : Rel K F7 (upd A7 p (.dK (putK av j zv))) (wipeE ε7 vs) (wipe σ vs) fp8 := q8.mono (Same.refl _) fun z hz u e => by
                            rw [upd_ne fun zz => (List.nodup_append.mp nn).2.2 z hz p (by simp) zz]; exact e
                          refine ⟨F7, upd A7 p (.dK (putK av j zv)), fp8, wipeE ε7 vs, putK av j zv, putD acc j yd, w7.put hav7, upd_same, hda7.put x7, ?_, nn, sF5.trans (s6.s.trans s7.s), q9, fun v hv hl => wipeE_at hv (by rw [wipeE_len] at hl; exact hl), e3⟩
                          have sz : Step (fp7 ++ [p]) (fp7 ++ [p]) F7 A7 F7 (upd A7 p (.dK (putK av j zv))) := ⟨Same.refl _, fun z u hz e => by rw [upd_ne fun zz => hz (by simp [zz])]; exact e, fun z hz => .inl hz⟩
                          refine (((((s3'.trans a4).trans a5).trans a6).trans a7).trans sz).sub fun z hz => ?_
                          rcases List.mem_append.mp hz with z1 | z1
                          · simp [sb.subset z1]
                          · exact List.mem_append.mpr (.inr z1)
                      · cases e3
                    · cases e3
                · cases e3
              · cases e3
        · cases e3
      · rintro H2 ⟨F2, A2, fp2, ε3, av, acc, w2, hav, hda, s2, n2, s12, q2, hz, e3⟩
        simp only [List.drop_length, dcGo] at e3
        cases e3
        have q3 := rel_unwipe q2 hz
        obtain ⟨fp3, q4, p4⟩ := rel_rest q1 s12 q3 vs
        have pp : (fp3 ++ [p]).Perm (fp2 ++ [p]) := List.Perm.append_right _ p4
        exact c _ _ _ _ w2 (k _ F2 A2 fp3 [p] (s2.sub fun z hz => pp.mem_iff.mp hz) (pp.nodup_iff.mpr n2) q4 (.dic hav hda))
    · cases e
  · cases e
end
end M
namespace M
open PySem PySem.Spec L2 Z
/-! ### a, b = x, y -/
section
variable {K : PySem.W.Frag} {W : List Nat}
def mPar (i j : Nat) (m : mA) : mS := fun ε => match m ε with
  | some (rs, ε1) => match frzAll rs ε1 with
    | some (ds, ε2) => match ds with
      | [d, e] => some (.nx, (ε2.set i (some (.dat d))).set j (some (.dat e)))
      | _ => none
    | none => none
  | none => none
theorem ss_par {i j : Nat} {t : TA} {m : mA} (hi : i ∈ W) (hj : j ∈ W) (h : SnA K t m) : SnS K W (tPar i j t) (mPar i j m) := fun ε f ε' σ F A fp D e q n k => by
  unfold mPar at e
  split at e
  · rename_i rs ε1 e1
    split at e
    · rename_i ds ε2 e2
      split at e
      · rename_i d1 d2
        cases e
        intro H w C c
        refine h.fact e1 q n H w _ fun vs F1 A1 H1 w1 ⟨fp1, np1, s1, n1, q1, x1⟩ => ?_
        obtain ⟨F2, A2, fp2, w2, s2, n2, q2, dd⟩ := frz_all w1 q1 n1 x1 e2
        cases dd with
        | cons a1 r1 => cases r1 with
          | cons a2 r2 =>
            cases r2
            obtain ⟨fp3, q3, n3, h3⟩ := rel_set (i := i) q2 (Rp.dat a1) (nod' n2)
            obtain ⟨fp4, q4, n4, h4⟩ := rel_set (i := j) q3 (Rp.dat a2) (nod' n3)
            refine ⟨_, _, rfl, c.nx _ _ _ _ w2 (k _ F2 A2 fp4 [] ?_ (nod' n4) q4 ((Agr.set hi).trans (Agr.set hj)))⟩
            refine ((s1.trans s2).sub fun z hz => ?_).nil'
            have := h4 z hz
            rw [List.append_nil] at this
            have := h3 z this
            rw [List.append_nil] at this
            exact this
      · cases e
    · cases e
  · cases e
end
end M
namespace L2
open PySem PySem.Spec
variable {X : Cx}
/-- name = {k: v for ..}, the name a plain local: the new dict is stored by the block's own use, then the block's names go -/
theorem ps_setDc {i : Nat} {y : Str} {py : Pos} {kx vx tg iter : Expr} {ifs : List Expr} {scope : Scope} {own : List (Str × Nat)} {pos spos : Pos} {wi : TI} {g : TG} {tt : TT} {tk tv : TE} (calm : X.calm = true) (nd : X.N.Nodup) (at' : X.N[i]? = some y) (loc : X.env.scope.names.lookup y = some .local)
    (sw : swapsWith (.DictComp kx vx [⟨tg, iter, ifs, 0⟩] scope pos) (some (.Name y py)) spos.line X.env = pure true) (pi : PI X tg iter wi) (ok : BlkOk X.N X.env.scope scope own)
    (pg : ∀ s H C cl fp, PG (X.blk s H scope (compEnvC scope cl C X.env) fp) tg g) (pt : ∀ s H C cl fp, PTs (X.blk s H scope (compEnvC scope cl C X.env) fp) ifs tt)
    (pk : ∀ s H C cl fp, PE (X.blk s H scope (compEnvC scope cl C X.env) fp) kx tk) (pv : ∀ s H C cl fp, PE (X.blk s H scope (compEnvC scope cl C X.env) fp) vx tv) (fold : ∀ x, foldedSetIterable iter X.env x = pure x := by intro _; rfl) :
    PS X (.Assign [.Name y py] (.DictComp kx vx [⟨tg, iter, ifs, 0⟩] scope pos) spos) (tAsg (tDc wi g tt tk tv (own.map (·.2))) (gName i)) := ⟨fun pins s σ H D I h => by
  rw [exec_Assign_Name_used _ _ _ _ sw]
  apply wpAny_bind
  apply wpAny_standAt
  apply wpAny_bind
  show wpAny _ X.A (do let _ ← comprehension (.DictComp kx vx [⟨tg, iter, ifs, 0⟩] scope pos) scope X.env (firstIterPos [⟨tg, iter, ifs, 0⟩] pos) newDict false (eval iter X.env) (some (assign (.Name y py) X.env))) _ _ s
  have core := dc_core (Q := fun x H1 => gName i x σ H1 D.nx) (use := some (assign (.Name y py) X.env)) (Qf := fun _ s' => SP X pins D .next s') (pos := pos) (pos' := firstIterPos [⟨tg, iter, ifs, 0⟩] pos) calm nd I pi ok pg pt pk pv fold h fun q0 C s' m H' I' q hn fr => by
    show wpAny _ _ (assign (.Name y py) X.env (.ref q0)) _ _ _
    obtain ⟨c0, c1, c2, c3, c4, c5⟩ := fr
    refine wpAny_assign_Name (store_ok2 (v := V.ref q0) I' nd at' (.inl loc) rfl (fun s2 I2 st => ?_) (.inr loc))
    obtain ⟨a, sb, ha⟩ := st
    have apart : C ≠ a := ha.elim (fun z => z ▸ c1) fun z e => c4 y a z e.symm
    exact ⟨m, hn.sameBut sb apart, fun h3 sb3 => ⟨_, H', I2.turned (t' := s2.toks) (fun b o hb e => (sb3.2 b hb).trans e) c0 c1 c3 c4 c5, q⟩⟩
  exact wpAny_bind (thn core fun _ s' hq => wpAny_pure (wpAny_pure hq))⟩
theorem sw_dc {kx vx : Expr} {gs : List Comprehension} {scope : Scope} {pos py : Pos} {y : Str} {l : Nat} {env : Env} (fun' : env.scope.kind = .function) (loc : env.scope.names.lookup y = some .local) (line : (py.line == pos.line) = true)
    (free : (scope.names.any fun (n, k) => n == y && (k == .local || k == .cell)) = false) : swapsWith (.DictComp kx vx gs scope pos) (some (.Name y py)) l env = pure true := by
  have b1 : env.kindOf y = some .local := loc
  have b2 : env.blockKind = .function := by
    unfold Env.blockKind
    rw [fun']
    rfl
  unfold swapsWith
  simp only [Expr.pos, b1, b2, free, line]
  rfl
end L2
/-! the steps of dicts whose keys are tuples, as rules -/
namespace M
open PySem PySem.Spec L2 Z PyProof.Rows
section
variable {w : World} {K : PySem.W.Frag}
def tNNew (w : World) : TE := fun _ H Q => ∀ p, H p = none → Q (.ref p) (upd H p (DN w p []))
def tNOne (w : World) (K : PySem.W.Frag) (tk tv : TE) : TE := fun σ H Q => ∀ p, H p = none → tk σ (upd H p (DN w p [])) fun x H1 => tv σ H1 fun y H2 => H2 p = some (DN w p []) ∧ ∃ k b d, x = .ref b ∧ Dp K H2 (.ref b) d ∧ tkOf d = some k ∧ Q (.ref p) (upd H2 p (DN w p [(k, b, y)]))
def tNIx (w : World) (K : PySem.W.Frag) (td ty : TE) : TE := fun σ H Q => td σ H fun x H1 => ty σ H1 fun y H2 => ∃ a v, x = .ref a ∧ NGet w K H2 a y (some v) ∧ Q v H2
def tNIn (w : World) (K : PySem.W.Frag) (neg : Bool) (ty td : TE) : TE := fun σ H Q => ty σ H fun y H1 => td σ H1 fun x H2 => ∃ a o, x = .ref a ∧ NGet w K H2 a y o ∧ Q (.bl (if neg then !o.isSome else o.isSome)) H2
def IsN (w : World) (H : Hp) (a : Addr) : Prop := ∃ xs, Rd H a (DN w a xs)
def tNGet1 (w : World) (K : PySem.W.Frag) (td ty : TE) : TE := fun σ H Q => td σ H fun x H1 => ∃ a, x = .ref a ∧ IsN w H1 a ∧ ty σ H1 fun y H2 => ∃ o, NGet w K H2 a y o ∧ Q (o.getD .non) H2
def tNGet2 (w : World) (K : PySem.W.Frag) (td ty tx : TE) : TE := fun σ H Q => td σ H fun x H1 => ∃ a, x = .ref a ∧ IsN w H1 a ∧ ty σ H1 fun y H2 => tx σ H2 fun z H3 => ∃ o, NGet w K H3 a y o ∧ Q (o.getD z) H3
def sNPut (w : World) (K : PySem.W.Frag) (td ty tv : TE) : TS := fun D σ H => tv σ H fun v H1 => td σ H1 fun x H2 => ty σ H2 fun y H3 => ∃ a H4, x = .ref a ∧ NPut w K H3 a y v H4 ∧ D.nx σ H4
def sNAug (w : World) (K : PySem.W.Frag) (td ty tv : TE) (rd : V → V → Hp → VK → Prop) : TS := fun D σ H => td σ H fun x H1 => ty σ H1 fun y H2 => ∃ a v, x = .ref a ∧ NGet w K H2 a y (some v) ∧ tv σ H2 fun y2 H3 => rd v y2 H3 fun z H4 => ∃ H5, NPut w K H4 a y z H5 ∧ D.nx σ H5
end
theorem dn_empty {w : World} (h : Heap) (hb : sysModules < h.objs.size) : dnAt w h.objs.size [] (h.push { cls := .type "dict", data := .dict #[] }) :=
  ⟨Nat.zero_le _, beq_eq_false_iff_ne.mpr (Ne.symm (Nat.ne_of_lt hb)), [], .nil, List.nodup_nil, _, #[], 0, Heap.get?_push_size _ rfl, ⟨rfl, rfl, rfl⟩, rfl, rfl⟩
theorem dn_laid {X : Cx} {pins : List (Addr × PySem.Obj)} {σ : L2.St} {H : Hp} {s : Shared} (I : Inv X pins σ H s) : Inv X pins σ (upd H s.heap.objs.size (DN X.w s.heap.objs.size [])) { s with heap := s.heap.push { cls := .type "dict", data := .dict #[] } } :=
  I.laid (t' := s.toks) (fun _ _ z => Heap.get?_push_of_some _ z) (Nat.le_refl _) (dn_ok (dn_empty s.heap I.big))
section
variable {X : Cx} {w : World} {K : PySem.W.Frag} {o i e f value : Expr} {pos pos' tpos apos cpos : Pos} {td ty tv tx tk : TE}
theorem pe_nnew (hw : X.w = w) : PE X (.Dict [] [] pos) (tNNew w) := by
  subst hw
  exact ⟨fun pins s σ H Q I h => wpAny_Dict_empty ⟨.ref s.heap.objs.size, _, dn_laid I, rfl, h _ (I.hok.fresh (Nat.le_refl _))⟩⟩
theorem pe_nix (hK : X.K = K) (hw : X.w = w) (hu : X.A.units + 64 < cLine) (ho : PE X o td) (hi : PE X i ty) (hs : NoSl i) : PE X (.Subscript o i pos) (tNIx w K td ty) := by
  subst hK hw
  constructor
  intro pins s σ H Q I h
  refine subD_of PySem.F.slot_dict_getitem.lookup hs (thn (ho.run pins s σ H _ I h) ?_)
  rintro ud s1 ⟨x, H1, I1, rx, q1⟩
  refine thn (hi.run pins s1 σ H1 _ I1 q1) ?_
  rintro uk s2 ⟨y, H2, I2, ry, a, v, rfl, g, q2⟩
  cases (id rx : ud = Value.ref a)
  obtain ⟨xs, k, b, d, e1, _⟩ := id g
  exact ⟨(nget_dict I2 e1).1, n_getItem hu I2 g ry fun u3 s3 I3 r3 => ⟨v, H2, I3, r3, q2⟩⟩
theorem pc_nin (hK : X.K = K) (hw : X.w = w) (hu : X.A.units + 64 < cLine) (hi : PE X i ty) (ho : PE X o td) : PC X .In i o (tNIn w K false ty td) := by
  subst hK hw
  constructor
  intro pins s σ H Q I h
  refine thn (hi.run pins s σ H _ I h) ?_
  rintro uk s1 ⟨y, H1, I1, ry, q1⟩
  refine thn (ho.run pins s1 σ H1 _ I1 q1) ?_
  rintro ud s2 ⟨x, H2, I2, rx, a, v, rfl, g, q2⟩
  cases (id rx : ud = Value.ref a)
  exact n_in hu I2 g ry fun s3 I3 => ⟨.bl v.isSome, H2, I3, rfl, by simpa using q2⟩
theorem pc_nnotin (hK : X.K = K) (hw : X.w = w) (hu : X.A.units + 64 < cLine) (hi : PE X i ty) (ho : PE X o td) : PC X .NotIn i o (tNIn w K true ty td) := by
  subst hK hw
  constructor
  intro pins s σ H Q I h
  refine thn (hi.run pins s σ H _ I h) ?_
  rintro uk s1 ⟨y, H1, I1, ry, q1⟩
  refine thn (ho.run pins s1 σ H1 _ I1 q1) ?_
  rintro ud s2 ⟨x, H2, I2, rx, a, v, rfl, g, q2⟩
  cases (id rx : ud = Value.ref a)
  exact n_notIn hu I2 g ry fun s3 I3 => ⟨.bl (!v.isSome), H2, I3, rfl, by simpa using q2⟩
theorem ps_nput (hK : X.K = K) (hw : X.w = w) (hu : X.A.units + 64 < cLine) (ho : PE X o td) (hi : PE X i ty) (hv : PE X value tv) (hs : swapsWith value (some (.Subscript o i pos')) pos.line X.env = pure false) : PS X (.Assign [.Subscript o i pos'] value pos) (sNPut w K td ty tv) := by
  subst hK hw
  constructor
  intro pins s σ H D I h
  refine wpAny_Assign_Subscript (thn (hv.run pins s σ H _ I h) ?_) hs
  rintro uv s1 ⟨v, H1, I1, rv, q1⟩
  refine thn (ho.run pins s1 σ H1 _ I1 q1) ?_
  rintro ud s2 ⟨x, H2, I2, rx, q2⟩
  refine thn (hi.run pins s2 σ H2 _ I2 q2) ?_
  rintro uk s3 ⟨y, H3, I3, ry, a, H4, rfl, g, q3⟩
  cases (id rx : ud = Value.ref a)
  exact n_setItem hu I3 g ry rv fun s4 I4 => ⟨σ, H4, I4, q3⟩
theorem ps_naug {op : Operator} {rd : V → V → Hp → VK → Prop} (hK : X.K = K) (hw : X.w = w) (hu : X.A.units + 64 < cLine) (ho : PE X o td) (hi : PE X i ty) (hv : PE X value tv) (hop : InOp X op rd)
    (ha : ∀ ov iv new, augStore i ov iv new = (do holding [new, ov, iv] (setItem ov iv new); release [new, ov, iv] []; pure .next)) : PS X (.AugAssign (.Subscript o i tpos) op value pos) (sNAug w K td ty tv rd) := by
  subst hK hw
  constructor
  intro pins s σ H D I h
  refine wpAny_AugAssign_SubscriptAny (thn (ho.run pins s σ H _ I h) ?_) ha
  rintro ud s1 ⟨x, H1, I1, rx, q1⟩
  refine thn (hi.run pins s1 σ H1 _ I1 q1) ?_
  rintro uk s2 ⟨y, H2, I2, ry, a, v, rfl, g, q2⟩
  cases (id rx : ud = Value.ref a)
  refine n_getItem hu I2 g ry fun u3 s3 I3 r3 => thn (hv.run pins s3 σ H2 _ I3 q2) ?_
  rintro u4 s4 ⟨y2, H3, I4, r4, q3⟩
  refine thn (hop pins s4 σ H3 v y2 u3 u4 _ I4 r3 r4 q3) ?_
  rintro u5 s5 ⟨z, H4, I5, r5, H5, g5, q4⟩
  exact n_setItem hu I5 g5 ry r5 fun s6 I6 => ⟨σ, H5, I6, q4⟩
theorem pe_nget1 (hK : X.K = K) (hw : X.w = w) (hu : X.A.units + 64 < cLine) (ho : PE X o td) (he : PE X e ty) (m : M1 X o "get" apos e cpos) : PE X (.Call (.Attribute o "get" apos) [e] [] cpos) (tNGet1 w K td ty) := by
  subst hK hw
  constructor
  intro pins s σ H Q I h
  refine wpAny_Call_method m.base m.few m.line PySem.F.plainAttrs_dict PySem.F.slot_dict_get PySem.F.type_dict_get (thn (ho.run pins s σ H _ I h) ?_)
  rintro ud s1 ⟨x, H1, I1, rx, a, rfl, ⟨xs, dd⟩, q1⟩
  cases (id rx : ud = Value.ref a)
  obtain ⟨t1, _, t2⟩ := nget_dict I1 dd
  refine ⟨t1, t2, ?_⟩
  rw [m.trees]
  refine Calls.callWith_builtin rfl (Calls.evalArgs_plain (Calls.spliced_cons (thn (he.run pins s1 σ H1 _ I1 q1) ?_)))
  rintro uk s2 ⟨y, H2, I2, ry, ov, g, q2⟩
  exact Calls.spliced_nil (n_get1 hu I2 g ry fun u3 s3 I3 r3 => ⟨_, H2, I3, r3, q2⟩)
theorem pe_nget2 (hK : X.K = K) (hw : X.w = w) (hu : X.A.units + 64 < cLine) (ho : PE X o td) (he : PE X e ty) (hf : PE X f tx) (m : M2 X o "get" apos e f cpos) : PE X (.Call (.Attribute o "get" apos) [e, f] [] cpos) (tNGet2 w K td ty tx) := by
  subst hK hw
  constructor
  intro pins s σ H Q I h
  refine wpAny_Call_method m.base m.few m.line PySem.F.plainAttrs_dict PySem.F.slot_dict_get PySem.F.type_dict_get (thn (ho.run pins s σ H _ I h) ?_)
  rintro ud s1 ⟨x, H1, I1, rx, a, rfl, ⟨xs, dd⟩, q1⟩
  cases (id rx : ud = Value.ref a)
  obtain ⟨t1, _, t2⟩ := nget_dict I1 dd
  refine ⟨t1, t2, ?_⟩
  rw [m.trees]
  refine Calls.callWith_builtin rfl (Calls.evalArgs_plain (Calls.spliced_cons (thn (he.run pins s1 σ H1 _ I1 q1) ?_)))
  rintro uk s2 ⟨y, H2, I2, ry, q2⟩
  refine Calls.spliced_cons (thn (hf.run pins s2 σ H2 _ I2 q2) ?_)
  rintro ux s3 ⟨z, H3, I3, rz, ov, g, q3⟩
  exact Calls.spliced_nil (n_get2 hu I3 g ry rz fun u4 s4 I4 r4 => ⟨_, H3, I4, r4, q3⟩)
/-- {k: v} -/
theorem pe_none {k v : Expr} (hK : X.K = K) (hw : X.w = w) (hu : X.A.units + 64 < cLine) (hk : PE X k tk) (hv : PE X v tv) : PE X (.Dict [some k] [v] pos) (tNOne w K tk tv) := by
  subst hK hw
  constructor
  intro pins s σ H Q I h
  have room : (nestedKind X.prog X.w).room X.A := by
    show X.A.units + 8 < cLine
    omega
  rw [arm_eval_Dict, zip_pairTrees [some k] [v] X.env pos rfl rfl, dictDisplay_pairs _ (by simp [pairTrees]) (by simp [pairTrees])]
  refine wpAny_bind (wpAny_standAt (wpAny_bind (wpAny_subDictH (knd := nestedKind X.prog X.w) room (by simp [pairTrees]) (pairTrees_cons_walk (thn (hk.run pins _ σ _ _ (dn_laid I) (h _ (I.hok.fresh (Nat.le_refl _)))) ?_)))))
  rintro uk s1 ⟨x, H1, I1, rx, q1⟩
  refine thn (hv.run pins s1 σ H1 _ I1 q1) ?_
  rintro uv s2 ⟨y, H2, I2, ry, hp, kk, b, d, rfl, hd, ek, q2⟩
  cases (id rx : uk = Value.ref b)
  obtain ⟨z, m, vs, rel, dd⟩ := dn_rd I2 (.inl hp) (fun e he => by cases he)
  cases rel
  obtain ⟨ds, _, e2, e3⟩ := tkOf_eq ek
  refine pairTrees_nil_walk ⟨[(kk, b, uv)], ⟨rfl, rfl, ⟨nk_is I2 d kk _ _ e2 hd rfl, e3⟩, trivial⟩, dd, fun h' tk dd' sb => ?_⟩
  refine wpAny_pure ⟨.ref s.heap.objs.size, _, d_write I2 (by rw [hp]; exact True.intro) sb (dict_there dd') (dn_ok (dn_of ?_ m (.cons ⟨rfl, rfl, ry⟩ .nil) dd')), rfl, q2⟩
  rw [sizeLine_eq]
  exact Nat.le_of_ble_eq_true rfl
end

theorem units_64 {k : Nat} {A : PySem.Around} (r : L2.Room k A) : A.units + 64 < PySem.cLine := by have := Z.units_in r; omega
end M
/-! dicts whose keys are tuples, by value -/
class HasW where
  w : PySem.World
namespace M
open PySem PySem.Spec L2 Z
def valT (kvs : List (NK × D)) (k : NK) : Option D := (kvs.find? fun e => decide (e.1 = k)).map (·.2)
def putT (kvs : List (NK × D)) (k : NK) (d : D) : List (NK × D) :=
  if (kvs.any fun e => decide (e.1 = k)) = true then kvs.map (fun e => if e.1 = k then (e.1, d) else e) else kvs ++ [(k, d)]
section
variable {K : PySem.W.Frag} {F A H : Hp}
theorem KDN.len : ∀ {xs : List NE} {kvs : List (NK × D)}, KDN K F xs kvs → xs.length = kvs.length
  | _, _, .nil => rfl
  | _, _, .cons _ _ _ _ hs => by simp [hs.len]
theorem KDN.val {k : NK} : ∀ {xs : List NE} {kvs : List (NK × D)}, KDN K F xs kvs → match valT kvs k with
    | some d => ∃ v, valN xs k = some v ∧ Dp K F v d
    | none => valN xs k = none
  | _, _, .nil => rfl
  | _, _, .cons (k := j) (b := b) (v := v) (d := d) (xs := xs) (kvs := kvs) _ _ _ h hs => by
    by_cases z : j = k
    · have e1 : valT ((j, d) :: kvs) k = some d := by simp [valT, z]
      rw [e1]
      exact ⟨v, by simp [valN, z], h⟩
    · have e1 : valT ((j, d) :: kvs) k = valT kvs k := by simp [valT, z]
      have e2 : valN ((j, b, v) :: xs) k = valN xs k := by simp [valN, z]
      rw [e1, e2]
      exact KDN.val hs
theorem KDN.any {k : NK} : ∀ {xs : List NE} {kvs : List (NK × D)}, KDN K F xs kvs → (xs.any fun e => decide (e.1 = k)) = kvs.any fun e => decide (e.1 = k)
  | _, _, .nil => rfl
  | _, _, .cons _ _ _ _ hs => by rw [List.any_cons, List.any_cons, KDN.any hs]
theorem KDN.repl {k : NK} {v : V} {d : D} (hv : Dp K F v d) : ∀ {xs : List NE} {kvs : List (NK × D)}, KDN K F xs kvs → KDN K F (xs.map fun e => if e.1 = k then (e.1, e.2.1, v) else e) (kvs.map fun e => if e.1 = k then (e.1, d) else e)
  | _, _, .nil => .nil
  | _, _, .cons (k := j) e z g h hs => by
    rw [List.map_cons, List.map_cons]
    by_cases y : j = k
    · simp only [y, if_true]
      subst y
      exact .cons e z g hv (KDN.repl hv hs)
    · simp only [y, if_false]; exact .cons e z g h (KDN.repl hv hs)
theorem KDN.snoc {k : NK} {b : Addr} {c : D} {v : V} {d : D} (e : nkOf c = some k) (z : k.depth ≤ 8) (g : Dp K F (.ref b) c) (hv : Dp K F v d) : ∀ {xs : List NE} {kvs : List (NK × D)}, KDN K F xs kvs → KDN K F (xs ++ [(k, b, v)]) (kvs ++ [(k, d)])
  | _, _, .nil => .cons e z g hv .nil
  | _, _, .cons e1 z1 g1 h1 hs => .cons e1 z1 g1 h1 (KDN.snoc e z g hv hs)
theorem KDN.put {k : NK} {b : Addr} {c : D} {v : V} {d : D} (e : nkOf c = some k) (z : k.depth ≤ 8) (g : Dp K F (.ref b) c) (hv : Dp K F v d) {xs : List NE} {kvs : List (NK × D)} (h : KDN K F xs kvs) : KDN K F (putN xs k b v) (putT kvs k d) := by
  unfold putN putT
  rw [h.any]
  split
  · exact h.repl hv
  · exact h.snoc e z g hv
theorem KDN.keys (s : Same F H) : ∀ {xs : List NE} {kvs : List (NK × D)}, KDN K F xs kvs → KeysN K H xs
  | _, _, .nil => fun e he => by cases he
  | _, _, .cons e z g _ hs => fun x hx => by
    rcases List.mem_cons.mp hx with rfl | hx
    · exact ⟨_, e, z, dp_mono s g⟩
    · exact KDN.keys s hs x hx
theorem slot_dtt {w : World} {ε : Env} {σ : St} {fp : List Addr} {i : Nat} {x : V} {kvs : List (NK × D)} (q : Rel K F A ε σ fp) (h : σ[i]? = some (some x)) (e : slotAt ε i = some (.dtt w kvs)) :
    ∃ p xs fp1, x = .ref p ∧ A p = some (DN w p xs) ∧ KDN K F xs kvs ∧ Rel K F A (ε.set i none) σ fp1 ∧ fp.Perm (p :: fp1) ∧ i < ε.length := by
  obtain ⟨v, ps, fp1, h1, h2, h3, h4⟩ := q.get (slotAt_eq e)
  rw [h] at h1
  cases h1
  have hl : i < ε.length := by
    rcases Nat.lt_or_ge i ε.length with z | z
    · exact z
    · have := slotAt_eq e
      rw [List.getElem?_eq_none z] at this; cases this
  cases h2 with
  | dtt h5 h6 => exact ⟨_, _, fp1, rfl, h5, h6, h3, h4, hl⟩
theorem slot_putN {w : World} {ε : Env} {σ : St} {fp1 fp : List Addr} {i : Nat} {p : Addr} {ys : List NE} {kvs : List (NK × D)} (q : Rel K F A (ε.set i none) σ fp1) (hx : σ[i]? = some (some (.ref p))) (hl : i < ε.length) (hn : fp.Nodup) (hp : fp.Perm (p :: fp1)) (hd : KDN K F ys kvs) :
    ∃ fp', Rel K F (upd A p (DN w p ys)) (ε.set i (some (.dtt w kvs))) σ fp' ∧ fp'.Nodup ∧ Step fp fp' F A F (upd A p (DN w p ys)) := by
  have n1 : (p :: fp1).Nodup := hp.nodup_iff.mp hn
  have nd := List.nodup_cons.mp n1
  have q2 : Rel K F (upd A p (DN w p ys)) (ε.set i none) σ fp1 := q.mono (Same.refl _) fun x hx u e => by
    rw [upd_ne fun z => nd.1 (by rw [← z]; exact hx)]; exact e
  obtain ⟨fp2, h1, h2⟩ := q2.back (i := i) (by simp [hl]) hx (.dtt upd_same hd)
  rw [List.set_set] at h1
  refine ⟨fp2, h1, h2.nodup_iff.mpr n1, ⟨Same.refl _, fun x u hx e => ?_, fun x hx => .inl ?_⟩⟩
  · rw [upd_ne fun z => hx (hp.mem_iff.mpr (by rw [z]; simp))]; exact e
  · exact hp.mem_iff.mpr (h2.mem_iff.mp hx)
end
noncomputable section
variable [HasW] {K : PySem.W.Frag} {td ty tx te tk tv : TE} {mo mk mx me mv : mB} {W : List Nat}
/-- what stands in a slot as such a dict, owned or locked -/
def dttAt (ε : Env) (i : Nat) : Option (List (NK × D)) := match slotAt ε i with
  | some (.dtt w kvs) => open Classical in if w = HasW.w then some kvs else none
  | some (.lkn w kvs) => open Classical in if w = HasW.w then some kvs else none
  | _ => none
def dttMut (ε : Env) (i : Nat) : Option (List (NK × D)) := match slotAt ε i with
  | some (.dtt w kvs) => open Classical in if w = HasW.w then some kvs else none
  | _ => none
theorem dttMut_eq {ε : Env} {i : Nat} {kvs : List (NK × D)} (e : dttMut ε i = some kvs) : slotAt ε i = some (.dtt HasW.w kvs) := by
  unfold dttMut at e
  split at e
  · rename_i e1
    split at e
    · rename_i h
      cases e
      rw [e1, h]
    · cases e
  · cases e
theorem dttAt_rd {F A H : Hp} {ε : Env} {σ : St} {fp : List Addr} {i : Nat} {x : V} {kvs : List (NK × D)} (w : Wd F A H) (q : Rel K F A ε σ fp) (h : σ[i]? = some (some x)) (e : dttAt ε i = some kvs) : ∃ p xs, x = .ref p ∧ Rd H p (DN HasW.w p xs) ∧ KDN K F xs kvs := by
  unfold dttAt at e
  split at e
  · rename_i e1
    split at e
    · rename_i hw
      cases e
      obtain ⟨p, xs, fp1, rfl, h1, h2, _⟩ := slot_dtt q h e1
      rw [hw] at h1
      exact ⟨p, xs, rfl, .inl (w.a _ _ h1), h2⟩
    · cases e
  · rename_i e1
    split at e
    · rename_i hw
      cases e
      obtain ⟨v, ps, fp1, h1, h2, _, _⟩ := q.get (slotAt_eq e1)
      rw [h] at h1
      cases h1
      cases h2 with
      | lkn h3 h4 =>
        rw [hw] at h3
        exact ⟨_, _, rfl, .inr ⟨_, w.f _ _ h3⟩, h4⟩
    · cases e
  · cases e
/-- {} -/
def mNNew : mB := fun ε => some (.val (.dtt HasW.w []), ε)
theorem sn_nnew : Sn K (tNNew HasW.w) mNNew := fun ε r ε' σ F A fp P e q n k => by
  cases e
  intro H w Q c p hp
  have hA := w.an hp
  have st : Step [] [p] F A F (upd A p (DN HasW.w p [])) := ⟨Same.refl _, fun x u _ e => by rw [upd_ne (ne_of_none e hA)]; exact e, fun x hx => by simp at hx; subst hx; exact .inr hA⟩
  obtain ⟨g1, g2⟩ := st.grow q.in n (by simp)
  exact c _ _ _ _ (w.newA hp) (k _ _ _ fp [p] g1 g2 (q.grow st) (.dtt upd_same .nil))
/-- {k: v} -/
def mNOne (mk mv : mB) : mB := fun ε => match mk ε with
  | some (.val (.dat c), ε1) => match tkOf c with
    | some j => match mv ε1 with
      | some (.val (.dat d), ε2) => some (.val (.dtt HasW.w [(j, d)]), ε2)
      | _ => none
    | none => none
  | _ => none
theorem sn_none (hk : Sn K tk mk) (hv : Sn K tv mv) : Sn K (tNOne HasW.w K tk tv) (mNOne mk mv) := fun ε rr ε' σ F A fp P e q n k => by
  unfold mNOne at e
  split at e
  · rename_i cd ε1 e1
    split at e
    · rename_i j e2
      split at e
      · rename_i d ε2 e3
        cases e
        intro H w Q c p hp
        have hA := w.an hp
        have st : Step [] [p] F A F (upd A p (DN HasW.w p [])) := ⟨Same.refl _, fun x u _ e => by rw [upd_ne (ne_of_none e hA)]; exact e, fun x hx => by simp at hx; subst hx; exact .inr hA⟩
        obtain ⟨g1, g2⟩ := st.grow q.in n (by simp)
        have hq := q.grow st
        refine hk.fact e1 hq n _ (w.newA hp) _ fun y F1 A1 H1 w1 ⟨fp1, np1, s1, n1, q1, x1⟩ => ?_
        have n1' := (List.nodup_append.mp n1).1
        obtain ⟨a1, m1⟩ := (s1.sub (fp2 := fp1) fun x hx => by simp [hx]).apart (one_in (upd_same (H := A))) g2 n1'
        have k1 : A1 p = some (DN HasW.w p []) := s1.keep g2 p (by simp) _ upd_same
        refine hv.fact e3 q1 n1' H1 w1 _ fun z F2 A2 H2 w2 ⟨fp2, np2, s2, n2, q2, x2⟩ => ?_
        have n2' := (List.nodup_append.mp n2).1
        obtain ⟨a2, m2⟩ := (s2.sub (fp2 := fp2) fun x hx => by simp [hx]).apart (one_in k1) m1 n2'
        have k2 : A2 p = some (DN HasW.w p []) := s2.keep m1 p (by simp) _ k1
        obtain ⟨ds, rfl, e4, e5⟩ := tkOf_eq e2
        cases x1 with
        | dat x1 => cases x2 with
          | dat x2 =>
            have x1' := dp_mono s2.s x1
            obtain ⟨b, xs, rfl, h1, h2⟩ := dp_tup x1
            refine ⟨w2.a _ _ k2, j, b, _, rfl, dp_mono w2.f x1', e2, ?_⟩
            have sz : Step (fp2 ++ [p]) (fp2 ++ [p]) F2 A2 F2 (upd A2 p (DN HasW.w p [(j, b, z)])) := ⟨Same.refl _, fun x u hx e => by rw [upd_ne fun zz => hx (by simp [zz])]; exact e, fun x hx => .inl hx⟩
            refine c _ _ _ _ (w2.put k2) (k _ F2 _ fp2 [p] (((g1.trans a1).trans a2).trans sz) m2 ?_ (.dtt upd_same (.cons e4 e5 x1' x2 .nil)))
            exact q2.mono (Same.refl _) fun x hx u e => by rw [upd_ne fun zz => (List.nodup_append.mp m2).2.2 x hx p (by simp) zz]; exact e
      · cases e
    · cases e
  · cases e
/-- d[k] -/
def mNIx (mo mk : mB) : mB := fun ε => match mo ε with
  | some (.slot i, ε1) => match mk ε1 with
    | some (.val (.dat d), ε2) => match tkOf d with
      | some k => match dttAt ε2 i with
        | some kvs => match valT kvs k with
          | some e => some (.val (.dat e), ε2)
          | none => none
        | none => none
      | none => none
    | _ => none
  | _ => none
theorem tk_ref {F : Hp} {v : V} {d : D} {k : NK} (h : tkOf d = some k) (r : Dp K F v d) : ∃ b, v = .ref b := by
  obtain ⟨ds, rfl, _⟩ := tkOf_eq h
  obtain ⟨b, xs, rfl, _⟩ := dp_tup r
  exact ⟨b, rfl⟩
theorem sn_nix (ho : Sn K td mo) (hk : Sn K ty mk) : Sn K (tNIx HasW.w K td ty) (mNIx mo mk) := fun ε rr ε' σ F A fp P e q n k => by
  unfold mNIx at e
  split at e
  · rename_i i ε1 e1
    split at e
    · rename_i d ε2 e2
      split at e
      · rename_i j e3
        split at e
        · rename_i kvs e4
          split at e
          · rename_i d' e5
            cases e
            intro H w Q c
            refine ho.fact e1 q n H w _ fun x F1 A1 H1 w1 ⟨fp1, np1, s1, n1, q1, x1⟩ => ?_
            refine hk.fact e2 q1 (List.nodup_append.mp n1).1 H1 w1 _ fun y F2 A2 H2 w2 ⟨fp2, np2, s2, n2, q2, x2⟩ => ?_
            obtain ⟨p, xs, rfl, h1, h2⟩ := dttAt_rd w2 q2 x1.2 e4
            cases x2 with
            | dat x2 =>
              obtain ⟨b, rfl⟩ := tk_ref e3 x2
              have hv := h2.val (k := j)
              rw [e5] at hv
              obtain ⟨v, g1, g2⟩ := hv
              refine ⟨p, v, rfl, ⟨xs, j, b, d, h1, h2.keys w2.f, rfl, dp_mono w2.f x2, e3, g1.symm⟩, c _ _ _ _ w2 (k v F2 A2 fp2 [] ?_ ?_ q2 (.dat g2))⟩
              · exact (s1.sub fun x hx => by simp [hx]).trans (s2.sub fun x hx => by simp at hx; simp [hx])
              · exact nod' (List.nodup_append.mp n2).1
          · cases e
        · cases e
      · cases e
    · cases e
  · cases e
/-- d.get(k) -/
def mNGet1 (mo mk : mB) : mB := fun ε => match mo ε with
  | some (.slot i, ε1) => match dttAt ε1 i with
    | some _ => match mk ε1 with
      | some (.val (.dat d), ε2) => match tkOf d with
        | some k => match dttAt ε2 i with
          | some kvs => some (.val (.dat ((valT kvs k).getD .none)), ε2)
          | none => none
        | none => none
      | _ => none
    | none => none
  | _ => none
theorem sn_nget1 (ho : Sn K td mo) (hk : Sn K ty mk) : Sn K (tNGet1 HasW.w K td ty) (mNGet1 mo mk) := fun ε rr ε' σ F A fp P e q n k => by
  unfold mNGet1 at e
  split at e
  · rename_i i ε1 e1
    split at e
    · rename_i kvs0 e0
      split at e
      · rename_i d ε2 e2
        split at e
        · rename_i j e3
          split at e
          · rename_i kvs e4
            cases e
            intro H w Q c
            refine ho.fact e1 q n H w _ fun x F1 A1 H1 w1 ⟨fp1, np1, s1, n1, q1, x1⟩ => ?_
            obtain ⟨p, xs0, rfl, h01, _⟩ := dttAt_rd w1 q1 x1.2 e0
            refine ⟨p, rfl, ⟨xs0, h01⟩, ?_⟩
            refine hk.fact e2 q1 (List.nodup_append.mp n1).1 H1 w1 _ fun y F2 A2 H2 w2 ⟨fp2, np2, s2, n2, q2, x2⟩ => ?_
            obtain ⟨p', xs, e6, h1, h2⟩ := dttAt_rd w2 q2 x1.2 e4
            cases e6
            cases x2 with
            | dat x2 =>
              obtain ⟨b, rfl⟩ := tk_ref e3 x2
              have hv := h2.val (k := j)
              have st : Step fp (fp2 ++ []) F A F2 A2 := (s1.sub fun x hx => by simp [hx]).trans (s2.sub fun x hx => by simp at hx; simp [hx])
              refine ⟨_, ⟨xs, j, b, d, h1, h2.keys w2.f, rfl, dp_mono w2.f x2, e3, rfl⟩, c _ _ _ _ w2 (k _ F2 A2 fp2 [] st (nod' (List.nodup_append.mp n2).1) q2 ?_)⟩
              cases g : valT kvs j with
              | none => rw [g] at hv; rw [show valN xs j = none from hv]; exact .dat .non
              | some d' => rw [g] at hv; obtain ⟨v, g1, g2⟩ := hv; rw [g1]; exact .dat g2
          · cases e
        · cases e
      · cases e
    · cases e
  · cases e
/-- d.get(k, x) -/
def mNGet2 (mo mk mx : mB) : mB := fun ε => match mo ε with
  | some (.slot i, ε1) => match dttAt ε1 i with
    | some _ => match mk ε1 with
      | some (.val (.dat d), ε2) => match tkOf d with
        | some k => match mx ε2 with
          | some (.val (.dat dx), ε3) => match dttAt ε3 i with
            | some kvs => some (.val (.dat ((valT kvs k).getD dx)), ε3)
            | none => none
          | _ => none
        | none => none
      | _ => none
    | none => none
  | _ => none
theorem sn_nget2 (ho : Sn K td mo) (hk : Sn K ty mk) (hx : Sn K tx mx) : Sn K (tNGet2 HasW.w K td ty tx) (mNGet2 mo mk mx) := fun ε rr ε' σ F A fp P e q n k => by
  unfold mNGet2 at e
  split at e
  · rename_i i ε1 e1
    split at e
    · rename_i kvs0 e0
      split at e
      · rename_i d ε2 e2
        split at e
        · rename_i j e3
          split at e
          · rename_i dx ε3 e4
            split at e
            · rename_i kvs e5
              cases e
              intro H w Q c
              refine ho.fact e1 q n H w _ fun x F1 A1 H1 w1 ⟨fp1, np1, s1, n1, q1, x1⟩ => ?_
              obtain ⟨p, xs0, rfl, h01, _⟩ := dttAt_rd w1 q1 x1.2 e0
              refine ⟨p, rfl, ⟨xs0, h01⟩, ?_⟩
              refine hk.fact e2 q1 (List.nodup_append.mp n1).1 H1 w1 _ fun y F2 A2 H2 w2 ⟨fp2, np2, s2, n2, q2, x2⟩ => ?_
              refine hx.fact e4 q2 (List.nodup_append.mp n2).1 H2 w2 _ fun z F3 A3 H3 w3 ⟨fp3, np3, s3, n3, q3, x3⟩ => ?_
              obtain ⟨p', xs, e6, h1, h2⟩ := dttAt_rd w3 q3 x1.2 e5
              cases e6
              have st : Step fp (fp3 ++ []) F A F3 A3 := ((s1.sub fun x hx => by simp [hx]).trans (s2.sub fun x hx => by simp [hx])).trans (s3.sub fun x hx => by simp at hx; simp [hx])
              cases x2 with
              | dat x2 => cases x3 with
                | dat x3 =>
                  obtain ⟨b, rfl⟩ := tk_ref e3 x2
                  have hv := h2.val (k := j)
                  refine ⟨_, ⟨xs, j, b, d, h1, h2.keys w3.f, rfl, dp_mono (s3.s.trans w3.f) x2, e3, rfl⟩, c _ _ _ _ w3 (k _ F3 A3 fp3 [] st (nod' (List.nodup_append.mp n3).1) q3 ?_)⟩
                  cases g : valT kvs j with
                  | none => rw [g] at hv; rw [show valN xs j = none from hv]; exact .dat x3
                  | some d' => rw [g] at hv; obtain ⟨v, g1, g2⟩ := hv; rw [g1]; exact .dat g2
            · cases e
          · cases e
        · cases e
      · cases e
    · cases e
  · cases e
/-- k in d -/
def mNIn (neg : Bool) (mk mo : mB) : mB := fun ε => match mk ε with
  | some (.val (.dat d), ε1) => match tkOf d with
    | some k => match mo ε1 with
      | some (.slot i, ε2) => match dttAt ε2 i with
        | some kvs => some (.val (.dat (.bool (if neg then !(valT kvs k).isSome else (valT kvs k).isSome))), ε2)
        | none => none
      | _ => none
    | none => none
  | _ => none
theorem sn_nin {neg : Bool} (hk : Sn K ty mk) (ho : Sn K td mo) : Sn K (tNIn HasW.w K neg ty td) (mNIn neg mk mo) := fun ε rr ε' σ F A fp P e q n k => by
  unfold mNIn at e
  split at e
  · rename_i d ε1 e1
    split at e
    · rename_i j e3
      split at e
      · rename_i i ε2 e2
        split at e
        · rename_i kvs e4
          cases e
          intro H w Q c
          refine hk.fact e1 q n H w _ fun y F1 A1 H1 w1 ⟨fp1, np1, s1, n1, q1, x1⟩ => ?_
          refine ho.fact e2 q1 (List.nodup_append.mp n1).1 H1 w1 _ fun x F2 A2 H2 w2 ⟨fp2, np2, s2, n2, q2, x2⟩ => ?_
          obtain ⟨p, xs, rfl, h1, h2⟩ := dttAt_rd w2 q2 x2.2 e4
          cases x1 with
          | dat x1 =>
            obtain ⟨b, rfl⟩ := tk_ref e3 x1
            have hv := h2.val (k := j)
            have hs : (valN xs j).isSome = (valT kvs j).isSome := by
              cases g : valT kvs j with
              | none => rw [g] at hv; rw [show valN xs j = none from hv]; rfl
              | some d' => rw [g] at hv; obtain ⟨v, g1, _⟩ := hv; rw [g1]; rfl
            refine ⟨p, valN xs j, rfl, ⟨xs, j, b, d, h1, h2.keys w2.f, rfl, dp_mono (s2.s.trans w2.f) x1, e3, rfl⟩, ?_⟩
            rw [hs]
            exact c _ _ _ _ w2 (k _ F2 A2 fp2 [] ((s1.sub fun x hx => by simp [hx]).trans (s2.sub fun x hx => by simp at hx; simp [hx])) (nod' (List.nodup_append.mp n2).1) q2 (.dat (.bl _)))
        · cases e
      · cases e
    · cases e
  · cases e
/-- d[k] = e -/
def mNPut (mo mk me : mB) : mS := fun ε => match me ε with
  | some (r, ε1) => match mo ε1 with
    | some (.slot i, ε2) => match mk ε2 with
      | some (.val (.dat c), ε3) => match tkOf c with
        | some j => match frzR r ε3 with
          | some (d, ε4) => match dttMut ε4 i with
            | some kvs => if kvs.length < lim then some (.nx, ε4.set i (some (.dtt HasW.w (putT kvs j d)))) else none
            | none => none
          | none => none
        | none => none
      | _ => none
    | _ => none
  | none => none
theorem ss_nput (ho : Sn K td mo) (hk : Sn K ty mk) (he : Sn K te me) : SnS K W (sNPut HasW.w K td ty te) (mNPut mo mk me) := fun ε f ε' σ F A fp D e q n k => by
  unfold mNPut at e
  split at e
  · rename_i r ε1 e1
    split at e
    · rename_i i ε2 e2
      split at e
      · rename_i cd ε3 e3
        split at e
        · rename_i j e4
          split at e
          · rename_i d ε4 e5
            split at e
            · rename_i kvs e6
              split at e
              · rename_i hlim
                cases e
                intro H w C c
                refine he.fact e1 q n H w _ fun v F1 A1 H1 w1 ⟨fp1, np1, s1, n1, q1, x1⟩ => ?_
                have n1' := (List.nodup_append.mp n1).1
                refine ho.fact e2 q1 n1' H1 w1 _ fun x F2 A2 H2 w2 ⟨fp2, np2, s2, n2, q2, x2⟩ => ?_
                have n2' := (List.nodup_append.mp n2).1
                have s2' : Step fp1 fp2 F1 A1 F2 A2 := s2.sub fun x hx => by simp [hx]
                refine hk.fact e3 q2 n2' H2 w2 _ fun y F3 A3 H3 w3 ⟨fp3, np3, s3, n3, q3, x3⟩ => ?_
                have n3' := (List.nodup_append.mp n3).1
                have s23 := s2'.trans (s3.sub (fp2 := fp3) fun x hx => by simp [hx])
                have x1' := x1.step s23 n1
                obtain ⟨g1, g2⟩ := s23.apart x1.in n1 n3'
                obtain ⟨F4, A4, fp4, w4, s4, n4, q4, d4⟩ := frz_res w3 q3 g2 x1' e5
                obtain ⟨p, xs, fpb, e8, a3, r3, q5, pm, hl⟩ := slot_dtt q4 x2.2 (dttMut_eq e6)
                cases e8
                cases x3 with
                | dat x3 =>
                  obtain ⟨b, rfl⟩ := tk_ref e4 x3
                  obtain ⟨ds, _, e9, e10⟩ := tkOf_eq e4
                  have x4 := dp_mono s4.s x3
                  obtain ⟨fp5, q6, n6, s6⟩ := slot_putN q5 x2.2 hl n4 pm (r3.put (k := j) e9 e10 x4 d4)
                  exact ⟨p, _, rfl, ⟨xs, j, b, cd, w4.a _ _ a3, r3.keys w4.f, rfl, dp_mono w4.f x4, e4, by rw [r3.len]; exact lim_lt (Nat.le_of_lt hlim), rfl⟩, c.nx _ _ _ _ (w4.put a3) (k σ _ _ fp5 [] ((((s1.trans g1).trans s4).trans s6)).nil' (nod' n6) q6 .refl)⟩
              · cases e
            · cases e
          · cases e
        · cases e
      · cases e
    · cases e
  · cases e
end
end M
/-! the pairs of a dict whose keys are tuples, gone through -/
namespace M
open PySem PySem.Spec L2 Z PyProof.Rows
def ItN (w : World) (d : Addr) (o : PySem.Obj) (xs : List NE) : It :=
  ⟨fun i H => H d = some (.frz o (DN w d xs)) ∧ i < xs.length, fun i H v H' => ∃ T e, xs[i]? = some e ∧ v = .ref T ∧ H T = none ∧ H' = upd H T (.tup [.ref e.2.1, e.2.2]), fun i H => H d = some (.frz o (DN w d xs)) ∧ xs.length ≤ i⟩
theorem rele_get : ∀ {xs : List NE} {vs : List (NK × Addr × Value)} {i : Nat} {e : NE}, Paired RelE xs vs → xs[i]? = some e → ∃ q, vs[i]? = some q ∧ RelE e q
  | _, _, _, _, .nil, h => by simp at h
  | _, _, 0, _, .cons h _, e => by simp at e; subst e; exact ⟨_, rfl, h⟩
  | _, _, i + 1, _, .cons _ t, e => by
    obtain ⟨q, h1, h2⟩ := rele_get (i := i) t (by simpa using e)
    exact ⟨q, by simpa using h1, h2⟩
section
variable {X : Cx} {pins : List (Addr × PySem.Obj)} {σ : L2.St} {H : Hp} {s : Shared} {d : Addr} {o : PySem.Obj} {xs : List NE}
theorem dn_frz (I : Inv X pins σ H s) (h : H d = some (.frz o (DN X.w d xs))) : (d == sysModules) = false ∧ ∃ es ep, o.data = .dict es ep ∧ DT.Raw s.heap d es ep ∧ es.size = xs.length ∧
    ∀ (i : Nat) (e : NE), xs[i]? = some e → ∃ en : DictEntry, es[i]? = some en ∧ en.key = .ref e.2.1 ∧ RelV e.2.2 en.val := by
  obtain ⟨hd, ⟨z, m, vs, rel, nd, o2, es, ep, e1, e2, e3, e4⟩, _, _⟩ := I.hok d _ h
  rw [hd] at e1
  cases e1
  have hz : es.size = xs.length := by
    rw [rele_len rel, ← Array.length_toList, e4, List.length_map]
  refine ⟨m, es, ep, e3, ⟨o, hd, e2, e3⟩, hz, fun i e he => ?_⟩
  obtain ⟨q, h1, h2, h3, h4⟩ := rele_get rel he
  refine ⟨⟨q.1.hash X.w, .ref q.2.1, q.2.2⟩, ?_, by rw [h3], h4⟩
  rw [← Array.getElem?_toList, e4, List.getElem?_map, h1]
  rfl
end
theorem turn_itN {P : Program} {w : World} {K : PySem.W.Frag} {elts : List Expr} {kk : Nat} {tpos : Pos} {d it : Addr} {o : PySem.Obj} {xs : List NE} {es : Array DictEntry} {ep : Nat} (hod : o.data = .dict es ep) :
    Turn P w K (.Tuple elts kk tpos) (ItN w d o xs) [it] it (fun i h => ∃ ok ov, IsItemIter h it d i es.size ep ok ov) where
  mem := List.mem_singleton.mpr rfl
  obj := fun i h st b hb => by
    cases List.mem_singleton.mp hb
    obtain ⟨ok, ov, e⟩ := st
    exact ⟨_, e, fun _ q => nomatch q⟩
  keep := fun i h h' ⟨ok, ov, e⟩ k => ⟨ok, ov, k it (List.mem_singleton.mpr rfl) _ e⟩
  item := by
    rintro X rfl rfl rfl hc i pins s σ H E I hf ⟨ok, ov, hit⟩ ⟨hd, hi⟩
    obtain ⟨m, es2, ep2, g1, raw, hz, at'⟩ := dn_frz I hd
    obtain ⟨rfl, rfl⟩ := dict_ep hod g1
    obtain ⟨en, a1, a2, a3⟩ := at' i _ (List.getElem?_eq_getElem hi)
    have hi' : i < es2.size := by rw [hz]; exact hi
    have hen : es2[i] = en := Option.some.inj ((Array.getElem?_eq_getElem hi').symm.trans a1)
    have below := Heap.lt_size hit
    refine DT.nextI hit raw hi' fun h1 out ht hsz fr => ⟨_, rfl, wpAny_letOwnedTupleGo_items (s := { s with heap := h1 }) out fun h2 back sb => ?_⟩
    rw [hen, a2] at ht
    have ht2 : h2.get? s.heap.objs.size = some { cls := .type "tuple", data := .seq #[.ref xs[i].2.1, en.val] } := (sb.2 _ (Nat.ne_of_gt below)).trans ht
    have new : ObjOk X.prog X.w (upd H s.heap.objs.size (.tup [.ref xs[i].2.1, xs[i].2.2])) h2 s.heap.objs.size (.tup [.ref xs[i].2.1, xs[i].2.2]) :=
      ⟨by show 2 ≤ sizeLine; decide, [.ref xs[i].2.1, en.val], .cons rfl (.cons a3 .nil), ⟨_, ht2, rfl, _, rfl⟩⟩
    have I2 := I.turnedNew (t' := s.toks) (h' := h2) (ch := [it]) (fun b ob hb e => (sb.2 b fun z => hb (List.mem_singleton.mpr z)).trans (fr b ob (fun z => hb (List.mem_singleton.mpr z)) e)) hf (Nat.le_refl _) new
    refine ⟨.ref s.heap.objs.size, _, I2, rfl, ⟨_, xs[i], List.getElem?_eq_getElem hi, rfl, I.hok.fresh (Nat.le_refl _), rfl⟩, ⟨_, _, back⟩, fun b hb => ?_⟩
    cases List.mem_singleton.mp hb
    rw [upd_ne (Nat.ne_of_lt below)]
    exact (hf it (List.mem_singleton.mpr rfl)).1
  done := by
    rintro X rfl rfl rfl hc i pins s σ H E I hf ⟨ok, ov, hit⟩ ⟨hd, hi⟩
    obtain ⟨m, es2, ep2, g1, raw, hz, at'⟩ := dn_frz I hd
    obtain ⟨rfl, rfl⟩ := dict_ep hod g1
    obtain ⟨f0, f1, f2, f3, f4, f5⟩ := hf it (List.mem_singleton.mpr rfl)
    exact DT.endI (I.ok.hd hc) hit raw (by rw [hz]; exact hi) fun h1 eb => ⟨rfl, I.turned (t' := s.toks) (fun b ob hb e => eb b ob hb e) f0 f1 f3 f4 f5⟩
  self := fun A i s Q E ⟨_, _, e⟩ h => PySem.W.kcp_self e h
/-- .. in d.items(), the dict locked -/
def iItN (w : World) (td : TE) : TI := fun σ H R => td σ H fun x H1 => ∃ d o xs, x = .ref d ∧ H1 d = some (.frz o (DN w d xs)) ∧ R (ItN w d o xs) H1
theorem pi_itN {X : Cx} {w : World} {e : Expr} {td : TE} {apos cpos tpos : Pos} {elts : List Expr} {kk : Nat} (hw : X.w = w) (he : PE X e td) (hbase : attributeBase e "items" X.env (eval e X.env) = eval e X.env := by rfl) (hline : (apos.endLine == cpos.line) = true := by rfl) :
    PI X (.Tuple elts kk tpos) (.Call (.Attribute e "items" apos) [] [] cpos) (iItN w td) := by
  subst hw
  constructor
  intro pins s σ H R I h
  refine wpAny_Call_method (T := "dict") (id := "dict.items") hbase rfl hline PySem.F.plainAttrs_dict PySem.F.slot_dict_items PySem.F.type_dict_items (thn (he.run pins s σ H _ I h) ?_)
  rintro ud s1 ⟨x, H1, I1, rx, d, o, xs, rfl, hd, q⟩
  cases (id rx : ud = Value.ref d)
  obtain ⟨m, es, ep, g1, raw, hz, at'⟩ := dn_frz I1 hd
  obtain ⟨t1, _, t2⟩ := nget_dict I1 (.inr ⟨o, hd⟩ : Rd H1 d (DN X.w d xs))
  refine ⟨t1, t2, ?_⟩
  change wpAny _ _ (callWith cpos (.builtin "dict.items") _ _ _) _ _ s1
  refine method_meetsIn PySem.F.slot_dict_items PySem.F.entry_dict_items rfl (PySem.evalArgs_none ⟨rfl, t1, PySem.F.args_dict_items_1 _, _, DT.meetsItems (es := es) (ep := ep) m, raw, ?_⟩)
  refine DT.iterI (es := es) (ep := ep) (d := d) ⟨_, Heap.get?_push_size _ rfl, rfl, rfl⟩ (raw.push _) (pi_one (tk := s1.toks) (I1.kept (t' := s1.toks) fun _ _ z => Heap.get?_push_of_some _ z) _ (turn_itN g1) ⟨.none, .none, ?_⟩ q)
  exact Heap.get?_push_size _ rfl
end M
namespace M
open PySem PySem.Spec L2 Z
/-! ### a list comprehension with two walks, one in the other -/
section
variable {K : PySem.W.Frag} {te : TE} {me : mB}
/-- what a turn of a block comes to: one thing more for the list at p, or nothing -/
def lcTurn (g : TG) (tt : TT) (te : TE) (vs : List Nat) (τ : St) (p : Addr) (N : Hp → Prop) (x : V) (H0 : Hp) : Prop :=
  g x (wipe τ vs) H0 fun τ2 Ha => wipe τ2 vs = wipe τ vs ∧ tt τ2 Ha fun yes Hb => if yes = true then te τ2 Hb fun y Hc => ∃ old, Hc p = some (.lst old) ∧ old.length < sizeLine ∧ N (upd Hc p (.lst (old ++ [y]))) else N Hb
theorem lc_turn {vs : List Nat} {g : TG} {mg : mG} {tt : TT} {mt : mT} (hg : SnG K vs g mg) (ht : SnT K tt mt) (he : Sn K te me) {d : D} {rest acc res : List D} {ε ε' : Env} (e3 : lcGo vs mg mt me (d :: rest) ε acc = some (res, ε')) {τ : St} {x : V} {H3 F3 A2 : Hp} {fp2 : List Addr} {p : Addr} {av : List V}
    (w3 : Wd F3 A2 H3) (hav : A2 p = some (.lst av)) (hda : DpAll K F3 av acc) (n2 : (fp2 ++ [p]).Nodup) (q3 : Rel K F3 A2 ε (wipe τ vs) fp2) (dd : Dp K F3 x d) {N : Hp → Prop}
    (next : ∀ F' A' fp' av' acc' ε2 H', Wd F' A' H' → A' p = some (.lst av') → DpAll K F' av' acc' → Step (fp2 ++ [p]) (fp' ++ [p]) F3 A2 F' A' → (fp' ++ [p]).Nodup → Rel K F' A' ε2 (wipe τ vs) fp' → (∀ v ∈ vs, v < ε2.length → ε2[v]? = some none) → lcGo vs mg mt me rest ε2 acc' = some (res, ε') → N H') :
    lcTurn g tt te vs τ p N x H3 := by
  unfold lcGo at e3
  split at e3
  · rename_i ε4 e4
    refine hg (.dat d) ε ε4 x (wipe τ vs) F3 A2 fp2 [] (fun σ4 F4 A4 => ∃ fp4, Step fp2 fp4 F3 A2 F4 A4 ∧ fp4.Nodup ∧ Rel K F4 A4 ε4 σ4 fp4 ∧ Agr vs (wipe τ vs) σ4) e4 q3 (.dat dd) (nod' (List.nodup_append.mp n2).1)
      (fun σ4 F4 A4 fp4 s4 n4 q4 g4 => ⟨fp4, by rw [List.append_nil] at s4; exact s4, n4, q4, g4⟩) H3 w3 _ ?_
    rintro σ4 F4 A4 H4 w4 ⟨fp4, s4, n4, q4, g4⟩
    refine ⟨wipe_agr g4, ?_⟩
    obtain ⟨a4, m4⟩ := s4.apart (one_in hav) n2 n4
    have k4 : A4 p = some (.lst av) := s4.keep n2 p (by simp) _ hav
    split at e3
    · rename_i ε5 e5
      refine ht ε4 true ε5 σ4 F4 A4 fp4 (fun t F5 A5 => t = true ∧ ∃ u, Step fp4 u F4 A4 F5 A5 ∧ u.Nodup ∧ Rel K F5 A5 ε5 σ4 u) e5 q4 n4 (fun _ _ u a b c => ⟨rfl, u, a, b, c⟩) H4 w4 _ ?_
      rintro _ F5 A5 H5 w5 ⟨rfl, fp5, s5, n5, q5⟩
      refine iteT ?_
      obtain ⟨a5, m5⟩ := s5.apart (one_in k4) m4 n5
      have k5 : A5 p = some (.lst av) := s5.keep m4 p (by simp) _ k4
      split at e3
      · rename_i r ε6 e6
        refine he.fact e6 q5 n5 H5 w5 _ ?_
        rintro yv F6 A6 H6 w6 ⟨fp6, np6, s6, n6, q6, x6⟩
        obtain ⟨a6, m6⟩ := s6.apart (one_in k5) m5 n6
        have k6 : A6 p = some (.lst av) := s6.keep m5 p (by simp) _ k5
        split at e3
        · rename_i yd ε7 e7
          split at e3
          · rename_i hlim
            obtain ⟨F7, A7, fp7, w7, s7, n7, q7, d7⟩ := frz_res w6 q6 n6 x6 e7
            obtain ⟨a7, m7⟩ := s7.apart (one_in k6) m6 n7
            have k7 : A7 p = some (.lst av) := s7.keep m6 p (by simp) _ k6
            have hda7 : DpAll K F7 av acc := dps_mono (((s4.s.trans s5.s).trans s6.s).trans s7.s) hda
            refine ⟨av, w7.a _ _ k7, by rw [dps_len hda7]; exact lim_lt hlim, ?_⟩
            obtain ⟨fp8, q8, sb⟩ := rel_wipe q7 vs
            rw [wipe_agr g4] at q8
            have nn : (fp8 ++ [p]).Nodup := List.Sublist.nodup (List.Sublist.append sb (.refl _)) m7
            have sz : Step (fp7 ++ [p]) (fp7 ++ [p]) F7 A7 F7 (upd A7 p (.lst (av ++ [yv]))) := ⟨Same.refl _, fun z u hz e => by rw [upd_ne fun zz => hz (by simp [zz])]; exact e, fun z hz => .inl hz⟩
            refine next F7 (upd A7 p (.lst (av ++ [yv]))) fp8 (av ++ [yv]) (acc ++ [yd]) (wipeE ε7 vs) _ (w7.put k7) upd_same (dps_app hda7 (.cons d7 .nil)) (((((a4.trans a5).trans a6).trans a7).trans sz).sub fun z hz => ?_) nn ?_ (fun v hv hl => wipeE_at hv (by rw [wipeE_len] at hl; exact hl)) e3
            · exact (List.mem_append.mp hz).elim (fun y => by simp [sb.subset y]) fun y => List.mem_append.mpr (.inr y)
            · exact q8.mono (Same.refl _) fun z hz u e => by rw [upd_ne fun zz => (List.nodup_append.mp nn).2.2 z hz p (by simp) zz]; exact e
          · cases e3
        · cases e3
      · cases e3
    · rename_i ε5 e5
      refine ht ε4 false ε5 σ4 F4 A4 fp4 (fun b F5 A5 => b = false ∧ ∃ fp5, Step fp4 fp5 F4 A4 F5 A5 ∧ fp5.Nodup ∧ Rel K F5 A5 ε5 σ4 fp5) e5 q4 n4 (fun F5 A5 fp5 s5 n5 q5 => ⟨rfl, fp5, s5, n5, q5⟩) H4 w4 _ ?_
      rintro _ F5 A5 H5 w5 ⟨rfl, fp5, s5, n5, q5⟩
      refine iteF ?_
      obtain ⟨a5, m5⟩ := s5.apart (one_in k4) m4 n5
      have k5 : A5 p = some (.lst av) := s5.keep m4 p (by simp) _ k4
      obtain ⟨fp6, q6, sb⟩ := rel_wipe q5 vs
      rw [wipe_agr g4] at q6
      refine next F5 A5 fp6 av acc (wipeE ε5 vs) H5 w5 k5 (dps_mono (s4.s.trans s5.s) hda) ((a4.trans a5).sub fun z hz => ?_) (List.Sublist.nodup (List.Sublist.append sb (.refl _)) m5) q6 (fun v hv hl => wipeE_at hv (by rw [wipeE_len] at hl; exact hl)) e3
      exact (List.mem_append.mp hz).elim (fun y => by simp [sb.subset y]) fun y => List.mem_append.mpr (.inr y)
    · cases e3
  · cases e3
/-- a walk whose turns lead from one state to the next, and on at its end -/
theorem walk_on {J : It} {n : Nat} {G : Hp → Prop} {Y : Nat → Hp → V → Hp → Prop} (w : Walk J n G Y) {T : (Hp → Prop) → V → Hp → Prop} {H1 : Hp} {Qd : Hp → Prop} (Pv : Nat → Hp → Prop) (h0 : Pv 0 H1) (hG : ∀ i H, i ≤ n → Pv i H → G H)
    (hs : ∀ i x H H', i < n → Pv i H → Y i H x H' → T (Pv (i + 1)) x H') (hd : ∀ H, Pv n H → Qd H) :
    ∃ W : Nat → Nat → Hp → Prop, (∃ m, W 0 m H1) ∧ ∀ i m H, W i m H → (J.stop i H ∧ Qd H) ∨ (J.go i H ∧ ∃ N : Hp → Prop, (∀ H', N H' → ∃ m', m' < m ∧ W (i + 1) m' H') ∧ ∀ x H', J.yld i H x H' → T N x H') := by
  refine ⟨fun i m H => (i ≤ n ∧ m + i = n) ∧ Pv i H, ⟨n, ⟨Nat.zero_le _, rfl⟩, h0⟩, ?_⟩
  rintro i m H ⟨⟨hi, hm⟩, hp⟩
  by_cases hl : i < n
  · exact .inr ⟨w.goes i H hl (hG i H hi hp), Pv (i + 1), fun H' z => ⟨m - 1, by omega, ⟨hl, by omega⟩, z⟩, fun x H' hy => hs i x H H' hl hp (w.yields i H x H' hl (hG i H hi hp) hy)⟩
  · have e : i = n := by omega
    subst e
    exact .inl ⟨w.stops H (hG _ H hi hp), hd H hp⟩
def lc2Go (vs vs1 : List Nat) (mg : mG) (mt : mT) (mi1 : mI) (mg1 : mG) (mt1 : mT) (me : mB) : List D → Env → List D → Option (List D × Env)
  | [], ε, acc => some (acc, ε)
  | d :: ds, ε, acc => match mg (.dat d) ε with
    | some ε1 => match mt ε1 with
      | some (true, ε2) => match mi1 ε2 with
        | some (ds1, ε3) => match lcGo vs1 mg1 mt1 me ds1 (wipeE ε3 vs1) acc with
          | some (acc', ε4) => lc2Go vs vs1 mg mt mi1 mg1 mt1 me ds (wipeE ε4 vs) acc'
          | none => none
        | none => none
      | some (false, ε2) => lc2Go vs vs1 mg mt mi1 mg1 mt1 me ds (wipeE ε2 vs) acc
      | none => none
    | none => none
def mLc2 (vs vs1 : List Nat) (mi : mI) (mg : mG) (mt : mT) (mi1 : mI) (mg1 : mG) (mt1 : mT) (me : mB) : mB := fun ε => match mi ε with
  | some (ds, ε1) => match lc2Go vs vs1 mg mt mi1 mg1 mt1 me ds (wipeE ε1 vs) [] with
    | some (acc, ε2) => some (.val (.lst (acc.map .dat)), restE vs ε1 ε2)
    | none => none
  | none => none
theorem wipe_sub {σ : St} {vs us : List Nat} (h : ∀ v ∈ us, v ∈ vs) : wipe (wipe σ us) vs = wipe σ vs :=
  wipe_agr ⟨by rw [wipe_length, wipe_length], fun i hi => by rw [L2.wipe_out fun z => hi (h i z), L2.wipe_out hi]⟩
theorem sn_lc2 {vs vs1 : List Nat} {wi wi1 : TI} {mi mi1 : mI} {g g1 : TG} {mg mg1 : mG} {tt tt1 : TT} {mt mt1 : mT} (hv : ∀ v ∈ vs1, v ∈ vs) (hi : SnI K wi mi) (hg : SnG K vs g mg) (ht : SnT K tt mt) (hi1 : SnI K wi1 mi1) (hg1 : SnG K vs1 g1 mg1) (ht1 : SnT K tt1 mt1) (he : Sn K te me) :
    Sn K (tLc2 wi g tt wi1 g1 tt1 te vs vs1) (mLc2 vs vs1 mi mg mt mi1 mg1 mt1 me) := fun ε rr ε' σ F A fp P e q n k => by
  unfold mLc2 at e
  split at e
  · rename_i ds ε1 e1
    split at e
    · rename_i res εz e2
      cases e
      intro H w Q c
      refine hi ε ds ε1 σ F A fp H e1 q n w _ ?_
      intro J F1 A1 fp1 H1 w1 s1 n1 q1 wk p hp
      have hA := w1.an hp
      refine walk_on wk (T := fun N x H' => g x (wipe σ vs) H' fun σ2 H2 => wipe σ2 vs = wipe σ vs ∧ tt σ2 H2 fun b H3 => if b = true then wi1 σ2 H3 fun J1 H4 => ∃ W1 : Nat → Nat → Hp → Prop, (∃ m, W1 0 m H4) ∧ ∀ j k H, W1 j k H →
          (J1.stop j H ∧ N H) ∨ (J1.go j H ∧ ∃ Nx1 : Hp → Prop, (∀ H', Nx1 H' → ∃ k', k' < k ∧ W1 (j + 1) k' H') ∧ ∀ x H', J1.yld j H x H' → lcTurn g1 tt1 te vs1 σ2 p Nx1 x H') else N H3)
        (fun i H' => ∃ F' A' fp' ε2 av acc, Wd F' A' H' ∧ A' p = some (.lst av) ∧ DpAll K F' av acc ∧ Step fp (fp' ++ [p]) F A F' A' ∧ (fp' ++ [p]).Nodup ∧ Same F1 F' ∧ Rel K F' A' ε2 (wipe σ vs) fp' ∧ (∀ v ∈ vs, v < ε2.length → ε2[v]? = some none) ∧
          lc2Go vs vs1 mg mt mi1 mg1 mt1 me (ds.drop i) ε2 acc = some (res, εz)) ?_ ?_ ?_ ?_
      · obtain ⟨fp2, q2, sb⟩ := rel_wipe q1 vs
        have st : Step [] [p] F1 A1 F1 (upd A1 p (.lst [])) := ⟨Same.refl _, fun x u _ e => by rw [upd_ne (ne_of_none e hA)]; exact e, fun x hx => by cases List.mem_singleton.mp hx; exact .inr hA⟩
        obtain ⟨g1, g2⟩ := st.grow q2.in (sb.nodup n1) (by simp)
        exact ⟨F1, upd A1 p (.lst []), fp2, wipeE ε1 vs, [], [], w1.newA hp, upd_same, .nil, (s1.sub fun x hx => sb.subset hx).trans g1, g2, Same.refl _, q2.grow st, fun v hv hl => wipeE_at hv (by rw [wipeE_len] at hl; exact hl), by simpa using e2⟩
      · rintro i H2 _ ⟨F2, A2, _, _, _, _, w2, _, _, _, _, s12, _⟩
        exact ⟨F2, A2, w2, s12⟩
      · rintro i x H2 H3 hl ⟨F2, A2, fp2, ε3, av, acc, w2, hav, hda, s2, n2, s12, q2, hz, e3⟩ y
        obtain ⟨F3, w3, s3, d, ed, dd⟩ := y F2 A2 w2 s12
        have hdrop : ds.drop i = d :: ds.drop (i + 1) := by
          rw [List.drop_eq_getElem_cons hl, Option.some.inj ((List.getElem?_eq_getElem hl).symm.trans ed)]
        rw [hdrop] at e3
        unfold lc2Go at e3
        have q3 : Rel K F3 A2 ε3 (wipe σ vs) fp2 := q2.mono s3 fun x hx u e => e
        have s3' : Step fp (fp2 ++ [p]) F A F3 A2 := s2.trans ⟨s3, fun x u _ e => e, fun x hx => .inl hx⟩
        split at e3
        · rename_i ε4 e4
          refine hg (.dat d) ε3 ε4 x (wipe σ vs) F3 A2 fp2 [] (fun σ4 F4 A4 => ∃ fp4, Step fp2 fp4 F3 A2 F4 A4 ∧ fp4.Nodup ∧ Rel K F4 A4 ε4 σ4 fp4 ∧ Agr vs (wipe σ vs) σ4) e4 q3 (.dat dd) (nod' (List.nodup_append.mp n2).1)
            (fun σ4 F4 A4 fp4 s4 n4 q4 g4 => ⟨fp4, by rw [List.append_nil] at s4; exact s4, n4, q4, g4⟩) H3 w3 _ ?_
          rintro σ4 F4 A4 H4 w4 ⟨fp4, s4, n4, q4, g4⟩
          refine ⟨wipe_agr g4, ?_⟩
          obtain ⟨a4, m4⟩ := s4.apart (one_in hav) n2 n4
          have k4 : A4 p = some (.lst av) := s4.keep n2 p (by simp) _ hav
          split at e3
          · rename_i ε5 e5
            refine ht ε4 true ε5 σ4 F4 A4 fp4 (fun t F5 A5 => t = true ∧ ∃ u, Step fp4 u F4 A4 F5 A5 ∧ u.Nodup ∧ Rel K F5 A5 ε5 σ4 u) e5 q4 n4 (fun _ _ u a b c => ⟨rfl, u, a, b, c⟩) H4 w4 _ ?_
            rintro _ F5 A5 H5 w5 ⟨rfl, fp5, s5, n5, q5⟩
            refine iteT ?_
            obtain ⟨a5, m5⟩ := s5.apart (one_in k4) m4 n5
            have k5 : A5 p = some (.lst av) := s5.keep m4 p (by simp) _ k4
            split at e3
            · rename_i ds1 ε6 e6
              refine hi1 ε5 ds1 ε6 σ4 F5 A5 fp5 H5 e6 q5 n5 w5 _ ?_
              intro J1 F6 A6 fp6 H6 w6 s6 n6 q6 wk1
              obtain ⟨a6, m6⟩ := s6.apart (one_in k5) m5 n6
              have k6 : A6 p = some (.lst av) := s6.keep m5 p (by simp) _ k5
              split at e3
              · rename_i acc2 ε7 e7
                refine walk_on wk1 (T := lcTurn g1 tt1 te vs1 σ4 p) (fun j H' => ∃ F' A' fp' ε2 av acc, Wd F' A' H' ∧ A' p = some (.lst av) ∧ DpAll K F' av acc ∧ Step fp (fp' ++ [p]) F A F' A' ∧ (fp' ++ [p]).Nodup ∧ Same F1 F' ∧ Same F6 F' ∧ Rel K F' A' ε2 (wipe σ4 vs1) fp' ∧
                  lcGo vs1 mg1 mt1 me (ds1.drop j) ε2 acc = some (acc2, ε7)) ?_ ?_ ?_ ?_
                · obtain ⟨fp7, q7, sb⟩ := rel_wipe q6 vs1
                  have nn : (fp7 ++ [p]).Nodup := List.Sublist.nodup (List.Sublist.append sb (.refl _)) m6
                  refine ⟨F6, A6, fp7, wipeE ε6 vs1, av, acc, w6, k6, dps_mono (((s3.trans s4.s).trans s5.s).trans s6.s) hda, ((((s3'.trans a4).trans a5).trans a6).sub fun z hz => ?_), nn, (((s12.trans s3).trans s4.s).trans s5.s).trans s6.s, Same.refl _, q7, by simpa using e7⟩
                  exact (List.mem_append.mp hz).elim (fun y => by simp [sb.subset y]) fun y => List.mem_append.mpr (.inr y)
                · rintro j H7 _ ⟨F7, A7, _, _, _, _, w7, _, _, _, _, _, s67, _⟩
                  exact ⟨F7, A7, w7, s67⟩
                · rintro j x1 H7 H8 hl1 ⟨F7, A7, fp7, ε8, av1, acc1, w7, k7, hd7, s7, n7, s17, s67, q7, e8⟩ y1
                  obtain ⟨F8, w8, s8, d1, ed1, dd1⟩ := y1 F7 A7 w7 s67
                  have hdrop1 : ds1.drop j = d1 :: ds1.drop (j + 1) := by
                    rw [List.drop_eq_getElem_cons hl1, Option.some.inj ((List.getElem?_eq_getElem hl1).symm.trans ed1)]
                  rw [hdrop1] at e8
                  refine lc_turn hg1 ht1 he e8 w8 k7 (dps_mono s8 hd7) n7 (q7.mono s8 fun x hx u e => e) dd1 ?_
                  intro F9 A9 fp9 av9 acc9 ε9 H9 w9 k9 hd9 s9 n9 q9 _ e9
                  exact ⟨F9, A9, fp9, ε9, av9, acc9, w9, k9, hd9, (s7.trans ⟨s8, fun x u _ e => e, fun x hx => .inl hx⟩).trans s9, n9, (s17.trans s8).trans s9.s, (s67.trans s8).trans s9.s, q9, e9⟩
                · rintro H7 ⟨F7, A7, fp7, ε8, av1, acc1, w7, k7, hd7, s7, n7, s17, s67, q7, e8⟩
                  simp only [List.drop_length, lcGo] at e8
                  cases e8
                  obtain ⟨fp8, q8, sb⟩ := rel_wipe q7 vs
                  rw [wipe_sub hv, wipe_agr g4] at q8
                  have nn : (fp8 ++ [p]).Nodup := List.Sublist.nodup (List.Sublist.append sb (.refl _)) n7
                  refine ⟨F7, A7, fp8, wipeE ε7 vs, av1, acc2, w7, k7, hd7, s7.sub fun z hz => ?_, nn, s17, q8, fun v hv hl => wipeE_at hv (by rw [wipeE_len] at hl; exact hl), e3⟩
                  exact (List.mem_append.mp hz).elim (fun y => by simp [sb.subset y]) fun y => List.mem_append.mpr (.inr y)
              · cases e3
            · cases e3
          · rename_i ε5 e5
            refine ht ε4 false ε5 σ4 F4 A4 fp4 (fun b F5 A5 => b = false ∧ ∃ fp5, Step fp4 fp5 F4 A4 F5 A5 ∧ fp5.Nodup ∧ Rel K F5 A5 ε5 σ4 fp5) e5 q4 n4 (fun F5 A5 fp5 s5 n5 q5 => ⟨rfl, fp5, s5, n5, q5⟩) H4 w4 _ ?_
            rintro _ F5 A5 H5 w5 ⟨rfl, fp5, s5, n5, q5⟩
            refine iteF ?_
            obtain ⟨a5, m5⟩ := s5.apart (one_in k4) m4 n5
            have k5 : A5 p = some (.lst av) := s5.keep m4 p (by simp) _ k4
            obtain ⟨fp6, q6, sb⟩ := rel_wipe q5 vs
            rw [wipe_agr g4] at q6
            have nn : (fp6 ++ [p]).Nodup := List.Sublist.nodup (List.Sublist.append sb (.refl _)) m5
            refine ⟨F5, A5, fp6, wipeE ε5 vs, av, acc, w5, k5, dps_mono ((s3.trans s4.s).trans s5.s) hda, ((s3'.trans a4).trans a5).sub fun z hz => ?_, nn, ((s12.trans s3).trans s4.s).trans s5.s, q6, fun v hv hl => wipeE_at hv (by rw [wipeE_len] at hl; exact hl), e3⟩
            exact (List.mem_append.mp hz).elim (fun y => by simp [sb.subset y]) fun y => List.mem_append.mpr (.inr y)
          · cases e3
        · cases e3
      · rintro H2 ⟨F2, A2, fp2, ε3, av, acc, w2, hav, hda, s2, n2, s12, q2, hz, e3⟩
        simp only [List.drop_length, lc2Go] at e3
        cases e3
        obtain ⟨fp3, q4, p4⟩ := rel_rest q1 s12 (rel_unwipe q2 hz) vs
        have pp : (fp3 ++ [p]).Perm (fp2 ++ [p]) := List.Perm.append_right _ p4
        exact c _ _ _ _ w2 (k _ F2 A2 fp3 [p] (s2.sub fun z hz => pp.mem_iff.mp hz) (pp.nodup_iff.mpr n2) q4 (.lst hav (rpAll_dat hda)))
    · cases e
  · cases e
end
end M
/-! xs.remove(x), things of any kind -/
namespace M
open PySem PySem.Spec L2 Z
section
open PySem.MeetsSeq
/-- from the place i on: all ahead of j are unlike x, the one at j is alike -/
theorem rm_from {l : Addr} {items : Array Value} {n : Nat} {x : Value} {e : Value → Bool} {j : Nat} (hj : j < items.size) (hit : e items[j] = true) (hno : ∀ m (hm : m < items.size), m < j → e items[m] = false) (hz : items.size ≤ sizeLine) (k : Nat) :
    ∀ i : Nat, i + k = j → Meets (Builtin.«list.remove.loop» ⟨[.ref l, x, rawInt i], []⟩) fun A R s =>
      s.heap.get? l = some { cls := .type "list", dict := none, data := .seq items n, slots := #[] } ∧ (∀ y, y ∈ items → SeqAt.EqAt A.in1 s y x (e y)) ∧ R (.ok (.ret .none)) { s with heap := s.heap.update l (Obj.mapSeq fun xs => xs.eraseIdxIfInBounds j) } := by
  induction k with
  | zero =>
    rintro i hk P w A R ⟨hp, g, d, tk, os⟩ ⟨hl, he, h⟩
    have hk : i = j := hk
    subst hk
    wp_walk using (wpAny_loadPart' hl)
    rw [show items[((i : Nat) : Int).toNat]? = some items[i] by simp [hj]]
    refine wpAny_bind (he items[i] (Array.getElem_mem hj) P w _ _ ?_)
    rw [hit]
    have hz2 : (items.eraseIdxIfInBounds i).size ≤ sizeLine + 1 := Nat.le_trans (size_erased items _) (by omega)
    wp_walk using (wpAny_updateSeq hl rfl (hz := hz) (_hz' := hz2)), wpAny_loadPart' hl
    simpa using h
  | succ k ih =>
    rintro i hk P w A R ⟨hp, g, d, tk, os⟩ ⟨hl, he, h⟩
    have hi : i < items.size := by omega
    wp_walk using (wpAny_loadPart' hl)
    rw [show items[((i : Nat) : Int).toNat]? = some items[i] by simp [hi]]
    refine wpAny_bind (he items[i] (Array.getElem_mem hi) P w _ _ ?_)
    rw [hno i hi (by omega)]
    wp_walk
    rw [show ((i : Int) + 1) = ((i + 1 : Nat) : Int) from rfl]
    refine ⟨plainId_quiet plain_remove_loop _, codeAny_builtin entry_remove_loop ?_⟩
    rw [Around.under_plainId (plain_remove_loop)]
    exact ih (i + 1) (by omega) P w A R _ ⟨hl, he, h⟩
theorem rm_at {l : Addr} {items : Array Value} {n : Nat} {x : Value} {e : Value → Bool} {j : Nat} (hj : j < items.size) (hit : e items[j] = true) (hno : ∀ m (hm : m < items.size), m < j → e items[m] = false) (hz : items.size ≤ sizeLine) :
    Meets (Builtin.«list.remove» ⟨[.ref l, x], []⟩) fun A R s =>
      s.heap.get? l = some { cls := .type "list", dict := none, data := .seq items n, slots := #[] } ∧ (∀ y, y ∈ items → SeqAt.EqAt A.in1 s y x (e y)) ∧ R (.ok (.ret .none)) { s with heap := s.heap.update l (Obj.mapSeq fun xs => xs.eraseIdxIfInBounds j) } := by
  rintro P w A R ⟨hp, g, d, tk, os⟩ ⟨hl, he, h⟩
  wp_walk using (wpAny_loadPart' hl)
  refine ⟨plainId_quiet plain_remove_loop _, codeAny_builtin entry_remove_loop ?_⟩
  rw [Around.under_plainId (plain_remove_loop)]
  exact rm_from hj hit hno hz j 0 (by omega) P w A R _ ⟨hl, he, h⟩
end
section
variable {K : PySem.W.Frag}
def rRemD (K : PySem.W.Frag) : V → List V → Hp → VK → Prop := fun x xs H Q => ∃ (l : Addr) (vs : List V) (ds : List D) (y : V) (d : D) (j : Nat), x = .ref l ∧ xs = [y] ∧ H l = some (.lst vs) ∧ DpAll K H vs ds ∧ Dp K H y d ∧ SeqAt.shaped (.list ds) = true ∧ SeqAt.shaped d = true ∧
  (ds.findIdx? fun e => PyData.eqv e d) = some j ∧ Q .non (upd H l (.lst (vs.eraseIdx j)))
theorem vals_erase : ∀ {vs : List V} {us : List Value} {j : Nat}, Vals vs us → Vals (vs.eraseIdx j) (us.eraseIdx j)
  | _, _, _, .nil => .nil
  | _, _, 0, .cons r t => t
  | _, _, j + 1, .cons r t => .cons r (vals_erase t)
theorem mt_remD {X : Cx} (hK : X.K = K) (hu : X.A.units + 65 < cLine) : MtM X "list.remove" (rRemD K) := by
  subst hK
  rintro pins s σ H x xs v us Q I rx rxs ⟨l, vs, ds, y, d, j, rfl, rfl, hH, ha, hy, sl, sd, hj, q⟩
  cases rx
  obtain ⟨uy, rfl, ry⟩ := rxs.one
  obtain ⟨short, its, n, r, hl, e⟩ := I.lstM hH
  have ⟨bs, r1⟩ := Dp.reads I d y uy hy ry
  have lay : PyData.canLayAll0 ds = true := SeqAt.canLay_of_shaped sl
  have ⟨as, h4⟩ := Dp.readsAll I ds _ its ha r
  have hmap := SeqAt.readsAll_map ds its as lay h4
  obtain ⟨hjl, hjt, hjn⟩ := List.findIdx?_eq_some_iff_getElem.mp hj
  have hlen : its.length = ds.length := by rw [← hmap, List.length_map]
  have rd : ∀ (m : Nat) (hm : m < its.toArray.size), PyData.eqv (SeqAt.readOf s.heap its.toArray[m]) d = PyData.eqv (ds[m]'(by rw [← hlen]; simpa using hm)) d := fun m hm => by
    congr 1
    have h1 : m < its.length := by simpa using hm
    have : (its.map (SeqAt.readOf s.heap))[m]'(by simpa using h1) = ds[m]'(by rw [← hlen]; exact h1) := by
      congr 1
    rw [← this, List.getElem_map]
    simp
  have hjs : j < its.toArray.size := by rw [List.size_toArray, hlen]; exact hjl
  have hz2 : its.toArray.size ≤ sizeLine := by rw [List.size_toArray, ← hl]; exact short
  refine call_meets PySem.F.slot_list_remove ⟨_, e, rfl⟩
    PySem.F.entry_list_remove (PySem.F.args_list_remove_2 ..)
    (rm_at (l := l) (items := its.toArray) (n := n) (x := uy) (e := fun u => PyData.eqv (SeqAt.readOf s.heap u) d) (j := j) hjs ?_ (fun m hm hmj => ?_) hz2) ⟨e, ?_, ?_⟩
  · rw [rd j hjs]
    exact hjt
  · show PyData.eqv _ d = false
    rw [rd m hm]
    simpa using hjn m hmj
  · exact SeqAt.items_eqAt (vs := its.toArray) (by simpa using h4) r1 lay (SeqAt.canLay_of_shaped sd) (PyProof.Rows.room_in_shaped sd hu)
  · refine ⟨.non, _, I.lset (its' := its.eraseIdx j) (t' := s.toks) hH e ?_ (vals_erase r) ?_, rfl, q⟩
    · rw [List.eraseIdxIfInBounds_toArray]
    · exact Nat.le_trans (List.length_eraseIdx_le ..) short
variable {to : TE} {t : TA} {mo : mB} {m : mA}
def mRem (mo : mB) (m : mA) : mB := fun ε => match mo ε with
  | some (.slot i, ε1) => match slotAt ε1 i with
    | some (.lst _) => match m ε1 with
      | some ([.val (.dat d)], ε2) => match slotAt ε2 i with
        | some (.lst os) => match allDat os with
          | some ds => if (SeqAt.shaped (.list ds) && SeqAt.shaped d) = true then (match ds.findIdx? fun e => PyData.eqv e d with
            | some j => some (.val (.dat .none), ε2.set i (some (.lst ((ds.eraseIdx j).map .dat))))
            | none => none) else none
          | none => none
        | _ => none
      | _ => none
    | _ => none
  | _ => none
theorem sn_rem (ho : Sn K to mo) (h : SnA K t m) : Sn K (tBM K "list" (rRemD K) to t) (mRem mo m) := fun ε rr ε' σ F A fp P e q n k => by
  unfold mRem at e
  split at e
  · rename_i i ε1 e1
    split at e
    · rename_i os1 e2
      split at e
      · rename_i d ε2 e3
        split at e
        · rename_i os e4
          split at e
          · rename_i ds e5
            split at e
            · rename_i hs
              split at e
              · rename_i j e6
                cases e
                cases allDat_eq e5
                rw [Bool.and_eq_true_iff] at hs
                refine e_bm (ho ε _ ε1 σ F A fp _ e1 q n fun x F1 A1 fp1 np1 s1 n1 q1 x1 => ?_)
                obtain ⟨p1, vs1, ps1, fpa, rfl, a1, -, -, -, -⟩ := slot_lst q1 x1.2 e2
                refine ⟨ty_lst (.inr a1), fun H w Q c => ?_⟩
                refine h.fact e3 q1 (List.nodup_append.mp n1).1 H w _ ?_
                rintro vs F2 A2 H2 w2 ⟨fp2, np2, s2, n2, q2, x2⟩
                cases x2 with
                | cons x2 x3 =>
                  cases x3
                  cases x2 with
                  | dat x2 =>
                    obtain ⟨p, xs, ps, fpb, e7, a3, r3, q4, pm, hi⟩ := slot_lst q2 x1.2 e4
                    cases e7
                    have dx := (dpAll_of r3).1
                    obtain ⟨fp4, q5, n5, s5⟩ := slot_put q4 x1.2 hi (List.nodup_append.mp n2).1 pm (dps_erase (n := j) dx)
                    refine c _ F2 A2 H2 w2 fun H3 w3 Q3 c3 => ⟨_, _, ds, _, d, j, rfl, rfl, w3.a _ _ a3, dps_mono w3.f dx, dp_mono w3.f x2, hs.1, hs.2, e6, c3 _ _ _ _ (w3.put a3) ?_⟩
                    exact k _ _ _ fp4 [] (((s1.sub fun x hx => by simp [hx]).trans (s2.sub fun x hx => by simp [hx])).trans s5).nil' (nod' n5) q5 (.dat .non)
              · cases e
            · cases e
          · cases e
        · cases e
      · cases e
    · cases e
  · cases e
end
end M
/-! a dict whose keys are tuples, locked while it is gone through; d[k] -= v -/
namespace M
open PySem PySem.Spec L2 Z
section
variable {K : PySem.W.Frag} {F A : Hp} {p : Addr} {od : Obj} {u : HO}
/-- what is neither a list nor a tuple is not leant on by data -/
def NoSeq (u : HO) : Prop := (∀ xs, u ≠ .lst xs) ∧ ∀ xs, u ≠ .tup xs
theorem sq_off {a : Addr} {xs : List V} (nu : NoSeq u) (h : F p = some (.frz od u)) (s : SqL K F a xs) : SqL K (rm F p) a xs := by
  rcases s with (s | ⟨o, s⟩) | s
  · exact .inl (.inl (by rw [rm_ne fun z => by rw [z, h] at s; cases s]; exact s))
  · refine .inl (.inr ⟨o, ?_⟩)
    rw [rm_ne fun z => by rw [z, h] at s; injection s with s; injection s with _ s; exact nu.1 _ s]
    exact s
  · exact .inr s
theorem st_off {a : Addr} {xs : List V} (nu : NoSeq u) (h : F p = some (.frz od u)) (s : SqT K F a xs) : SqT K (rm F p) a xs := by
  rcases s with (s | ⟨o, s⟩) | s
  · exact .inl (.inl (by rw [rm_ne fun z => by rw [z, h] at s; cases s]; exact s))
  · refine .inl (.inr ⟨o, ?_⟩)
    rw [rm_ne fun z => by rw [z, h] at s; injection s with s; injection s with _ s; exact nu.2 _ s]
    exact s
  · exact .inr s
mutual
theorem dp_off (nu : NoSeq u) (h : F p = some (.frz od u)) : ∀ {v : V} {d : D}, Dp K F v d → Dp K (rm F p) v d
  | _, _, .non => .non
  | _, _, .bl b => .bl b
  | _, _, .int i => .int i
  | _, _, .str s => .str s
  | _, _, .lst hs ha => .lst (sq_off nu h hs) (dps_off nu h ha)
  | _, _, .tup hs ha => .tup (st_off nu h hs) (dps_off nu h ha)
theorem dps_off (nu : NoSeq u) (h : F p = some (.frz od u)) : ∀ {vs : List V} {ds : List D}, DpAll K F vs ds → DpAll K (rm F p) vs ds
  | _, _, .nil => .nil
  | _, _, .cons h1 hs => .cons (dp_off nu h h1) (dps_off nu h hs)
end
theorem kd_off (nu : NoSeq u) (h : F p = some (.frz od u)) : ∀ {ys : List (Key × V)} {kvs : List (Key × D)}, KD K F ys kvs → KD K (rm F p) ys kvs
  | _, _, .nil => .nil
  | _, _, .cons h1 hs => .cons (dp_off nu h h1) (kd_off nu h hs)
theorem kdn_off (nu : NoSeq u) (h : F p = some (.frz od u)) : ∀ {ys : List NE} {kvs : List (NK × D)}, KDN K F ys kvs → KDN K (rm F p) ys kvs
  | _, _, .nil => .nil
  | _, _, .cons e z g h1 hs => .cons e z (dp_off nu h g) (dp_off nu h h1) (kdn_off nu h hs)
mutual
theorem rp_off (nu : NoSeq u) (h : F p = some (.frz od u)) : ∀ {v : V} {o : O} {ps : List Addr}, Rp K F A v o ps → noLck o = true → Rp K (rm F p) A v o ps
  | _, _, _, .dat h1, _ => .dat (dp_off nu h h1)
  | _, _, _, .lst h1 hs, n => .lst h1 (rps_off nu h hs n)
  | _, _, _, .tup h1 hs, n => .tup h1 (rps_off nu h hs n)
  | _, _, _, .dic h1 hs, n => .dic h1 (kd_off nu h hs)
  | _, _, _, .lck h1 hs, n => by cases n
  | _, _, _, .dtt h1 hs, n => .dtt h1 (kdn_off nu h hs)
  | _, _, _, .lkn h1 hs, n => by cases n
theorem rps_off (nu : NoSeq u) (h : F p = some (.frz od u)) : ∀ {vs : List V} {os : List O} {ps : List Addr}, RpAll K F A vs os ps → noLckL os = true → RpAll K (rm F p) A vs os ps
  | _, _, _, .nil, _ => .nil
  | _, _, _, .cons h1 hs, n => .cons (rp_off nu h h1 (Bool.and_eq_true_iff.mp n).1) (rps_off nu h hs (Bool.and_eq_true_iff.mp n).2)
end
theorem rel_off (nu : NoSeq u) (h : F p = some (.frz od u)) : ∀ {ε : Env} {σ : St} {fp : List Addr}, Rel K F A ε σ fp → noLckE ε = true → Rel K (rm F p) A ε σ fp
  | _, _, _, .nil, _ => .nil
  | _, _, _, .un h1, n => .un (rel_off nu h h1 n)
  | _, _, _, .va h1 hs, n => .va (rp_off nu h h1 (Bool.and_eq_true_iff.mp n).1) (rel_off nu h hs (Bool.and_eq_true_iff.mp n).2)
theorem wd_shut {H : Hp} (w : Wd F A H) (h : A p = some u) : Wd (upd F p (.frz od u)) (rm A p) (upd H p (.frz od u)) := by
  constructor <;> intro x v e <;> by_cases z : x = p
  · subst z; rw [upd_same] at e ⊢; exact e
  · rw [upd_ne z] at e ⊢; exact w.f x v e
  · subst z; rw [rm_same] at e; cases e
  · rw [rm_ne z] at e; rw [upd_ne z]; exact w.a x v e
  · subst z; rw [rm_same] at e; cases e
  · rw [rm_ne z] at e; rw [upd_ne z]; exact w.d x v e
theorem wd_open {H : Hp} (w : Wd F A H) (h : F p = some (.frz od u)) : Wd (rm F p) (upd A p u) (upd H p u) := by
  constructor <;> intro x v e <;> by_cases z : x = p
  · subst z; rw [rm_same] at e; cases e
  · rw [rm_ne z] at e; rw [upd_ne z]; exact w.f x v e
  · subst z; rw [upd_same] at e ⊢; exact e
  · rw [upd_ne z] at e ⊢; exact w.a x v e
  · subst z; exact rm_same
  · rw [upd_ne z] at e; rw [rm_ne z]; exact w.d x v e
theorem noseq_dn {w : World} {a : Addr} {xs : List NE} : NoSeq (DN w a xs) := ⟨fun _ e => (by cases e), fun _ e => (by cases e)⟩
end
section
variable {K : PySem.W.Frag} {ts : TS} {m : mS}
/-- the name i is locked while m runs; m stores to names of W1 alone -/
def mLockS (i : Nat) (m : mS) : mS := fun ε => match slotAt ε i with
  | some (.dtt w kvs) => match m (ε.set i (some (.lkn w kvs))) with
    | some (.nx, ε1) => if noLckE (ε1.set i none) = true then some (.nx, ε1.set i (some (.dtt w kvs))) else none
    | _ => none
  | _ => none
theorem Agr.wider {W W1 : List Nat} {σ σ' : St} (h : ∀ i ∈ W1, i ∈ W) (a : Agr W1 σ σ') : Agr W σ σ' := ⟨a.1, fun i hi => a.2 i fun z => hi (h i z)⟩
theorem ss_lockS {i : Nat} {W W1 : List Nat} (hi : i ∉ W1) (hw : ∀ j ∈ W1, j ∈ W) (he : SnS K W1 ts m) : SnS K W (tLock ts) (mLockS i m) := fun ε f ε' σ F A fp D e q n k => by
  unfold mLockS at e
  split at e
  · rename_i wd kvs e1
    split at e
    · rename_i ε1 e2
      split at e
      · rename_i hok
        cases e
        intro H w C cc
        obtain ⟨x0, ps0, fp0, g1, _, _, _⟩ := q.get (slotAt_eq e1)
        obtain ⟨p, xs, fp1, rfl, hA, kd, q1, pm, hl⟩ := slot_dtt q g1 e1
        have n1 : (p :: fp1).Nodup := pm.nodup_iff.mp n
        have nd := List.nodup_cons.mp n1
        have hF := w.d _ _ hA
        refine ⟨p, DN wd p xs, w.a _ _ hA, trivial, fun od => ?_⟩
        have sF : Same F (upd F p (.frz od (DN wd p xs))) := same_upd hF
        have q2 : Rel K (upd F p (.frz od (DN wd p xs))) (rm A p) (ε.set i none) σ fp1 := q1.mono sF fun x hx u e => by
          rw [rm_ne fun z => nd.1 (by rw [← z]; exact hx)]; exact e
        obtain ⟨fp2, q3, p3⟩ := q2.back (i := i) (by simp [hl]) g1 (.lkn upd_same (kd.mono sF))
        rw [List.set_set] at q3
        have n3 : fp2.Nodup := p3.nodup_iff.mpr (by simpa using nd.2)
        have in3 : ∀ x, x ∈ fp2 → x ∈ fp1 := fun x hx => by simpa using p3.mem_iff.mp hx
        -- what the statement leaves
        have fin : ∀ σ2 F2 A2 fp4, Step fp2 fp4 (upd F p (.frz od (DN wd p xs))) (rm A p) F2 A2 → fp4.Nodup → Rel K F2 A2 ε1 σ2 fp4 → Agr W1 σ σ2 → ∀ H2, Wd F2 A2 H2 → H2 p = some (.frz od (DN wd p xs)) ∧ C.nx σ2 (upd H2 p (DN wd p xs)) := by
          intro σ2 F2 A2 fp4 s4 n4 q4 g4 H2 w2
          have hp : F2 p = some (.frz od (DN wd p xs)) := s4.s _ _ upd_same
          refine ⟨w2.f _ _ hp, ?_⟩
          have hA2 : A2 p = none := by
            cases z : A2 p with
            | none => rfl
            | some u => have := w2.d _ _ z; rw [hp] at this; cases this
          obtain ⟨fp5, q5, sb5⟩ := q4.clear (i := i)
          have no4 : ∀ x, x ∈ fp4 → x ≠ p := fun x hx z => by
            subst z
            obtain ⟨u, hu⟩ := q4.in x hx
            rw [hA2] at hu; cases hu
          have q7 : Rel K (rm F2 p) (upd A2 p (DN wd p xs)) (ε1.set i none) σ2 fp5 := (rel_off noseq_dn hp q5 hok).mono (Same.refl _) fun x hx u e => by
            rw [upd_ne (no4 x (sb5.subset hx))]; exact e
          have g2 : σ2[i]? = some (some (.ref p)) := by rw [g4.2 i hi]; exact g1
          have hl1 : i < ε1.length := by
            rw [q4.len]
            exact (List.getElem?_eq_some_iff.mp g2).1
          obtain ⟨fp6, q8, p8⟩ := q7.back (i := i) (by simp [hl1]) g2 (.dtt upd_same (kdn_off noseq_dn hp ((kd.mono sF).mono s4.s)))
          rw [List.set_set] at q8
          have n6 : fp6.Nodup := p8.nodup_iff.mpr (List.nodup_cons.mpr ⟨fun z => no4 p (sb5.subset z) rfl, sb5.nodup n4⟩)
          refine cc.nx _ _ _ _ (wd_open w2 hp) (k σ2 _ _ fp6 [] ⟨fun x u e => ?_, fun x u hx e => ?_, fun x hx => ?_⟩ (nod' n6) q8 (g4.wider hw))
          · rw [rm_ne fun z => by rw [z, hF] at e; cases e]
            exact s4.s _ _ (sF _ _ e)
          · have hxp : x ≠ p := fun z => hx (pm.mem_iff.mpr (by rw [z]; simp))
            rw [upd_ne hxp]
            exact s4.o x u (fun z => hx (pm.mem_iff.mpr (List.mem_cons_of_mem _ (in3 x z)))) (by rw [rm_ne hxp]; exact e)
          · rw [List.append_nil] at hx
            rcases List.mem_cons.mp (by simpa using p8.mem_iff.mp hx) with y | y
            · exact .inl (pm.mem_iff.mpr (by rw [y]; simp))
            · rcases s4.f x (sb5.subset y) with z | z
              · exact .inl (pm.mem_iff.mpr (List.mem_cons_of_mem _ (in3 x z)))
              · by_cases hxp : x = p
                · exact .inl (pm.mem_iff.mpr (by rw [hxp]; simp))
                · rw [rm_ne hxp] at z; exact .inr z
        refine he _ _ _ σ _ _ fp2 ⟨fun σ2 F2 A2 => ∃ fp4, Step fp2 fp4 (upd F p (.frz od (DN wd p xs))) (rm A p) F2 A2 ∧ fp4.Nodup ∧ Rel K F2 A2 ε1 σ2 fp4 ∧ Agr W1 σ σ2, fun _ _ _ => False, fun _ _ _ => False, fun _ _ _ => False⟩ e2 q3 n3 ?_ _ (wd_shut w hA) _ ⟨?_, ?_, ?_, ?_⟩
        · intro σ2 F2 A2 fp4 np s4 n4 q4 g4
          exact ⟨fp4, s4.sub fun x hx => by simp [hx], (List.nodup_append.mp n4).1, q4, g4⟩
        · rintro σ2 F2 A2 H2 w2 ⟨fp4, s4, n4, q4, g4⟩
          exact fin σ2 F2 A2 fp4 s4 n4 q4 g4 H2 w2
        · exact fun _ _ _ _ _ h => h.elim
        · exact fun _ _ _ _ _ h => h.elim
        · exact fun _ _ _ _ _ h => h.elim
      · cases e
    · cases e
  · cases e
/-- the pairs, as things -/
def itemsT (kvs : List (NK × D)) : List D := kvs.map fun e => .tuple [e.1.data, e.2]
mutual
theorem nk_data : ∀ {d : D} {k : NK}, nkOf d = some k → k.data = d
  | .none, _, h => by rw [nkOf] at h; cases h; rfl
  | .int i, _, h => by rw [nkOf] at h; cases h; rfl
  | .str x, _, h => by rw [nkOf] at h; cases h; rfl
  | .tuple ds, _, h => by
    rw [nkOf] at h
    split at h
    · rename_i ks g
      cases h
      rw [NestedKey.data, nks_data g]
    · cases h
  | .bool _, _, h => by rw [nkOf] at h; cases h
  | .list _, _, h => by rw [nkOf] at h; cases h
  | .dict _, _, h => by rw [nkOf] at h; cases h
theorem nks_data : ∀ {ds : List D} {ks : List NK}, nksOf ds = some ks → NestedKey.datas ks = ds
  | [], _, h => by rw [nksOf] at h; cases h; rfl
  | d :: ds, _, h => by
    rw [nksOf] at h
    split at h
    · rename_i k g
      split at h
      · rename_i ks g2
        cases h
        rw [NestedKey.datas, nk_data g, nks_data g2]
      · cases h
    · cases h
end
theorem KDN.at {F : Hp} : ∀ {xs : List NE} {kvs : List (NK × D)} {i : Nat} {e : NE}, KDN K F xs kvs → xs[i]? = some e → ∃ d, kvs[i]? = some (e.1, d) ∧ Dp K F (.ref e.2.1) e.1.data ∧ Dp K F e.2.2 d
  | _, _, _, _, .nil, h => by simp at h
  | _, _, 0, _, .cons n _ g h _, e => by simp at e; subst e; exact ⟨_, rfl, by rw [nk_data n]; exact g, h⟩
  | _, _, i + 1, _, .cons _ _ _ _ hs, e => by
    obtain ⟨d, h1, h2, h3⟩ := KDN.at (i := i) hs (by simpa using e)
    exact ⟨d, by simpa using h1, h2, h3⟩
theorem wks_itN {F1 : Hp} {w : World} {d : Addr} {o : Obj} {xs : List NE} {kvs : List (NK × D)} (h : F1 d = some (.frz o (DN w d xs))) (hd : KDN K F1 xs kvs) : Wks K (ItN w d o xs) F1 (itemsT kvs) := by
  have hl := hd.len
  have len : (itemsT kvs).length = kvs.length := by simp [itemsT]
  refine ⟨?_, ?_, ?_⟩
  · rintro i H hi ⟨F, A, wd, s⟩
    exact ⟨wd.f _ _ (s _ _ h), by omega⟩
  · rintro H ⟨F, A, wd, s⟩
    exact ⟨wd.f _ _ (s _ _ h), by omega⟩
  · rintro i H v H' hi _ ⟨T, e, e1, e2, e3, e4⟩ F2 A2 w2 s2
    obtain ⟨d', g1, g2, g3⟩ := hd.at e1
    obtain ⟨F', w', s', d''⟩ := pair_new w2 e2 e3 e4 (dp_mono s2 g2) (dp_mono s2 g3)
    exact ⟨F', w', s', _, by simp [itemsT, g1], d''⟩
end
noncomputable section
variable [HasW] {K : PySem.W.Frag} {td ty tv : TE} {mo mk me : mB} {W : List Nat}
def mWalkN (f : List (NK × D) → List D) (mo : mB) : mI := fun ε => match mo ε with
  | some (.slot i, ε1) => match slotAt ε1 i with
    | some (.lkn w kvs) => open Classical in if w = HasW.w then some (f kvs, ε1) else none
    | _ => none
  | _ => none
theorem si_itN (ho : Sn K td mo) : SnI K (iItN HasW.w td) (mWalkN itemsT mo) := fun ε ds ε' σ F A fp H e q n w R k => by
  unfold mWalkN at e
  split at e
  · rename_i i ε1 e1
    split at e
    · rename_i wd kvs e2
      split at e
      · rename_i hw
        cases e
        refine ho.fact e1 q n H w _ ?_
        rintro x F1 A1 H1 w1 ⟨fp1, np1, s1, n1, q1, x1⟩
        obtain ⟨v, ps, fp2, h1, h2, _, _⟩ := q1.get (slotAt_eq e2)
        rw [x1.2] at h1
        cases h1
        cases h2 with
        | lkn h3 h4 =>
          rw [hw] at h3
          exact ⟨_, _, _, rfl, w1.f _ _ h3, k _ F1 A1 fp1 H1 w1 (s1.sub fun x hx => by simp [hx]) (List.nodup_append.mp n1).1 q1 (wks_itN h3 h4)⟩
      · cases e
    · cases e
  · cases e
/-- d[k] -= v -/
def mNAug (mo mk me : mB) : mS := fun ε => match mo ε with
  | some (.slot i, ε1) => match mk ε1 with
    | some (.val (.dat c), ε2) => match tkOf c with
      | some j => match dttMut ε2 i with
        | some kvs => match valT kvs j with
          | some (.int x) => match me ε2 with
            | some (.val (.dat (.int y)), ε3) => match dttMut ε3 i with
              | some kvs' => if kvs'.length < lim then some (.nx, ε3.set i (some (.dtt HasW.w (putT kvs' j (.int (x - y)))))) else none
              | none => none
            | _ => none
          | _ => none
        | none => none
      | none => none
    | _ => none
  | _ => none
theorem ss_naug (ho : Sn K td mo) (hk : Sn K ty mk) (he : Sn K tv me) : SnS K W (sNAug HasW.w K td ty tv rSub) (mNAug mo mk me) := fun ε f ε' σ F A fp D e q n k => by
  unfold mNAug at e
  split at e
  · rename_i i ε1 e1
    split at e
    · rename_i c ε2 e2
      split at e
      · rename_i j e3
        split at e
        · rename_i kvs e4
          split at e
          · rename_i x e5
            split at e
            · rename_i y ε3 e6
              split at e
              · rename_i kvs' e7
                split at e
                · rename_i hlim
                  cases e
                  intro H w C cc
                  refine ho.fact e1 q n H w _ ?_
                  rintro ov F1 A1 H1 w1 ⟨fp1, np1, s1, n1, q1, x1⟩
                  refine hk.fact e2 q1 (List.nodup_append.mp n1).1 H1 w1 _ ?_
                  rintro kv F2 A2 H2 w2 ⟨fp2, np2, s2, n2, q2, x2⟩
                  have n2' := (List.nodup_append.mp n2).1
                  obtain ⟨p, xs, fpa, rfl, a2, r2, -, -, -⟩ := slot_dtt q2 x1.2 (dttMut_eq e4)
                  cases x2 with
                  | dat x2 =>
                    obtain ⟨b, rfl⟩ := tk_ref e3 x2
                    have hv := r2.val (k := j)
                    rw [e5] at hv
                    obtain ⟨v, g1, g2⟩ := hv
                    cases dp_int g2
                    refine ⟨p, _, rfl, ⟨xs, j, b, c, .inl (w2.a _ _ a2), r2.keys w2.f, rfl, dp_mono w2.f x2, e3, g1.symm⟩, ?_⟩
                    refine he.fact e6 q2 n2' H2 w2 _ ?_
                    rintro yv F3 A3 H3 w3 ⟨fp3, np3, s3, n3, q3, x3⟩
                    have n3' := (List.nodup_append.mp n3).1
                    cases x3 with
                    | dat x3 =>
                      cases dp_int x3
                      obtain ⟨p', xs', fpb, e8, a3, r3, q4, pm, hl⟩ := slot_dtt q3 x1.2 (dttMut_eq e7)
                      cases e8
                      obtain ⟨ds, _, e9, e10⟩ := tkOf_eq e3
                      have x4 := dp_mono s3.s x2
                      obtain ⟨fp5, q6, n6, s6⟩ := slot_putN q4 x1.2 hl n3' pm (r3.put (k := j) e9 e10 x4 (.int (x - y)))
                      refine ⟨x, y, rfl, rfl, _, ⟨xs', j, b, c, w3.a _ _ a3, r3.keys w3.f, rfl, dp_mono w3.f x4, e3, by rw [r3.len]; exact lim_lt (Nat.le_of_lt hlim), rfl⟩, cc.nx _ _ _ _ (w3.put a3) ?_⟩
                      exact k σ _ _ fp5 [] ((((s1.sub fun x hx => by simp [hx]).trans (s2.sub fun x hx => by simp [hx])).trans (s3.sub fun x hx => by simp [hx])).trans s6).nil' (nod' n6) q6 .refl
                · cases e
              · cases e
            · cases e
          · cases e
        · cases e
      · cases e
    · cases e
  · cases e
end
end M
/-! the end of a law whose promise hangs on the world and on the written part -/
namespace Z
open L2 PySem PyProof.Rows PySem.Spec
theorem walk_ofW {l : PySem.W.OpenLaw} {n k : Nat} {q : Program} {loose : List Str} {XP : (Str → Option Value) → Heap → Prop} {YP : World → Heap → Prop} {d : DefRec} {G : Params → PySem.W.Frag} {CX : CXT} {x : Str} (f : World → PySem.W.Frag → Sp)
    (a1 : l.most = some n) (a2 : n ≤ sizeLine) (a3 : d.params.defaults = []) (a4 : Room k callerA)
    (a5 : ∀ (w : World) (h : Heap), YP w h → (G w.params).In h)
    (a6 : ∀ (w : World) (mg : Str → Option Value) (fa : Addr) (h : Heap), (G w.params).In h → h.Ns mainGlobals mg → mg d.name = some (.ref fa) →
      ∃ fd, (∀ (sh : Shared) v, BindsTo sh fd ⟨[v], []⟩ [(x, v)]) ∧
        ∀ base : Heap, (G w.params).In base → base.Ns mainGlobals mg → FnOk l.prog w (G w.params) mg base CX k fa fd [x] (f w (G w.params)))
    (a7 : ∀ (w : World) (K : PySem.W.Frag) (H : Hp) (a : Addr) (ns : List Int), ns.length ≤ n → Only H → SqL K H a (ns.map V.int) → f w K [.ref a] H (fun v _ => v = .bl true) fun _ _ _ => False)
    (a8 : ∀ (H : Hp) (s : Shared) (e : Value) (s' : Shared), CX [] H s (fun _ _ _ => False) e s' → False) :
    PySem.W.WalkO q loose XP YP l.row.toRowW d [] fun g us => PySem.call g us :=
  walk_of (K := G) (CX := fun _ => CX) (sp := fun w => f w (G w.params)) a1 a2 a3 a4 a5 a6 (fun w H a ns h1 h2 h3 => a7 w (G w.params) H a ns h1 h2 h3) fun _ H s e s' => a8 H s e s'
end Z
/-! sorted(set(a list of numbers)); max of two things that are compared as data -/
namespace M
open PySem PySem.Spec L2 Z PyProof.Rows
abbrev emO (w : World) : PySem.Obj := { cls := .type "set", dict := none, data := .set #[] 0 (.fresh 0 0 (!w.params.followText "set-order")) }
section
variable {s : Shared} {A : Around} {P : Program} {w : World} {E : Value → Shared → Prop}
/-- what a set made of a list holds -/
def SetMade (w : World) (s : Shared) (ns : List Int) (h1 : Heap) : Prop :=
  (∃ c, c ≤ ns.length ∧ SetR w h1 s.heap.objs.size (fun j => decide (j ∈ ns)) c) ∧ ∀ b o, s.heap.get? b = some o → h1.get? b = some o
theorem set_fill {B : Around} {l : Addr} {items : Array Value} (ns : List Int) (calm : A.handled = none) {n : Nat} {dd : Option Addr} {sl : Array (Option Value)}
    (at' : s.heap.get? l = some { cls := .type "list", dict := dd, data := .seq items n, slots := sl }) (nums : IntsAre items.toList ns) (few : ns.length + 1 < scanBound) (R : Result → Shared → Prop)
    (fin : ∀ h1 tk, SetMade w s ns h1 → R (.ok (.ret .none)) { s with heap := h1, toks := tk }) :
    wpAny (model P w) A (Builtin.«set.__init__» ⟨[.ref s.heap.objs.size, .ref l], []⟩) (fun z s' => match z with | .done f => R (.ok f) s' | .again c => c.quiet = true ∧ codeAny (model P w) B c R s') E { s with heap := s.heap.push (emO w) } := by
  have sz : items.size = ns.length := by rw [← nums.length, Array.length_toList]
  have low : l < s.heap.objs.size := Heap.lt_size at'
  have there : (s.heap.push (emO w)).get? l = some { cls := .type "list", dict := dd, data := .seq items n, slots := sl } := Heap.get?_push_of_some _ at'
  have new : (s.heap.push (emO w)).get? s.heap.objs.size = some (emO w) := Heap.get?_push_size _ rfl
  have lst : (s.heap.push (emO w)).IsList l items := ⟨_, there, rfl, n, rfl⟩
  have f1 := F.sub_list_set
  have f2 := F.sub_list_frozenset
  have f3 : (Value.type "list" == Value.type "dict") = false := by decide
  have zz : (s.heap.push (emO w)).objs.size = s.heap.objs.size + 1 := Heap.size_push ..
  unfold Builtin.«set.__init__»
  unfold noKeywords Builtin.Frozenset.updateFrom
  generalize e : pyIter = g
  wp_walk
  subst e
  refine wpAny_pyIter_list lst (wpAny_bind (wpAny_runValue ?_))
  have ne1 : l ≠ (s.heap.push (emO w)).objs.size := Nat.ne_of_lt (by rw [zz]; exact Nat.lt_succ_of_lt low)
  have out1 : s.heap.objs.size ∉ [(s.heap.push (emO w)).objs.size, l] := fun z => by
    rcases List.mem_cons.mp z with z | z
    · exact Nat.ne_of_lt (by rw [zz]; exact Nat.lt_succ_self _) z
    · exact Nat.ne_of_gt low (List.mem_singleton.mp z)
  refine set_update_ints (Walks.list (A := A.in1) calm _ l ne1 items).toS s.heap.objs.size out1 ns sz few (fun i v q => ?_) items.size 0 _ rfl (Nat.zero_le _)
    ⟨⟨_, Heap.get?_push_size _ rfl, rfl, rfl⟩, lst.push _⟩ ⟨0, Nat.le_refl 0, setR_new_at (Heap.get?_push_of_some _ new)⟩ fun s2 c mv hc made => ?_
  · obtain ⟨t, q2⟩ := nums.int_at i v (by rw [Array.getElem?_toList]; exact q)
    have hi : i < ns.length := by rw [← sz]; exact (Array.getElem?_eq_some_iff.mp q).1
    exact ⟨ns[i], t, List.getElem?_eq_getElem hi, by rw [q2, List.getD_eq_getElem?_getD, List.getElem?_eq_getElem hi] <;> rfl⟩
  · obtain ⟨h2, gens2, drawn2, tk2, os2⟩ := s2
    cases (show gens2 = s.gens from mv.gens)
    cases (show drawn2 = s.drawn from mv.drawn)
    cases (show os2 = s.os from mv.os)
    refine wpAny_pure (wpAny_pure (fin h2 tk2 ⟨⟨c, by rw [← sz]; exact hc, made⟩, fun b o q => ?_⟩))
    have lb : b < s.heap.objs.size := Heap.lt_size q
    refine mv.heap b o (fun z => ?_) (Heap.get?_push_of_some _ (Heap.get?_push_of_some _ q))
    rcases List.mem_cons.mp z with z | z
    · exact Nat.ne_of_lt lb z
    · exact Nat.ne_of_lt (by rw [zz]; exact Nat.lt_succ_of_lt lb) (List.mem_singleton.mp z)
theorem set_begun {l : Addr} {items : Array Value} (ns : List Int) (calm : A.handled = none) {n : Nat} {dd : Option Addr} {sl : Array (Option Value)}
    (at' : s.heap.get? l = some { cls := .type "list", dict := dd, data := .seq items n, slots := sl }) (nums : IntsAre items.toList ns) (few : ns.length + 1 < scanBound) :
    codeAny (model P w) A (.call (.builtin "set.__init__") ⟨[.ref s.heap.objs.size, .ref l], []⟩) (wants (fun r s2 => r = .none ∧ ∃ h1 tk, s2 = { s with heap := h1, toks := tk } ∧ SetMade w s ns h1) E) { s with heap := s.heap.push (emO w) } := by
  refine codeAny_call_builtin F.called_set.init.plain F.entry_set_init
    (check_set_init_1 (show Shared.TypeIs { s with heap := s.heap.push (emO w) } (.ref s.heap.objs.size) "set" from ⟨_, Heap.get?_push_size _ rfl, rfl⟩) ?_)
  exact wpAny_mono (set_fill (A := A.in1) (B := A) (E := fun _ _ => False) ns calm at' nums few (wants (fun r s2 => r = .none ∧ ∃ h1 tk, s2 = { s with heap := h1, toks := tk } ∧ SetMade w s ns h1) E) fun h1 tk made => ⟨rfl, h1, tk, rfl, made⟩)
    (fun z s' g => by cases z <;> exact g) fun _ _ g => g.elim
/-- set(t) of a list of numbers -/
theorem set_list {l : Addr} {items : Array Value} (ns : List Int) {Q : Value → Shared → Prop} (calm : A.handled = none) (hl : s.heap.IsList l items) (nums : IntsAre items.toList ns) (few : ns.length + 1 < scanBound)
    (fin : ∀ h1 tk, SetMade w s ns h1 → Q (.ref s.heap.objs.size) { s with heap := h1, toks := tk }) : wpAny (model P w) A (call (.type "set") [.ref l]) Q E s := by
  have T := F.called_set
  obtain ⟨_, _, t1⟩ := T.mro
  have t2 := T.made
  have t3 := T.sub
  have t4 := T.notType
  have t5 := T.canCreate
  have t6 := F.typeCall_set_1 (.ref l)
  have t7 := T.init.lookup
  have t8 := T.init.bind (.ref s.heap.objs.size)
  obtain ⟨⟨_, dd, _, sl⟩, at', hc, n, hd⟩ := hl
  cases hc
  cases hd
  apply wpAny_call
  apply codeAny_of_tree
  show wpAny (model P w) _ (callAny (.type "set") _) _ _ _
  refine wpAny_pure (And.intro (Code.quiet_builtin _ (by decide +kernel)) (codeAny_builtin F.entry_type_call ?_))
  rw [Around.under_plain (weight_type_call_type _ _ _) rfl]
  repeat any_goals first | assumption | wp_step
  refine codeAny_mono (code_set_led1 (.ref l) (E := E) (Q₁ := fun v s1 => v = .ref s.heap.objs.size ∧ s1 = { s with heap := s.heap.push (emO w) }) ⟨rfl, rfl⟩) fun r s1 g => ?_
  match r, s1, g with
  | .error _, _, g => exact g
  | .ok (.ret _), _, ⟨rfl, rfl⟩ =>
    repeat any_goals first | assumption | wp_step
    refine codeAny_mono (set_begun (E := E) ns calm at' nums few) fun r s2 g => ?_
    match r, s2, g with
    | .error _, _, g => exact g
    | .ok (.ret _), _, ⟨rfl, h1, tk, rfl, made⟩ =>
      repeat any_goals first | assumption | wp_step
      exact fin h1 tk made
end
end M
/-! max(a, b) of two things that are compared as data -/
namespace M
open PySem PySem.Spec L2 Z PyProof.Rows PySem.W
section
variable {s : Shared} {A : Around} {P : Program} {w : World} {E : Value → Shared → Prop}
theorem max_of2 {a b : Value} {d e : D} {as : List Addr} {Q : Value → Shared → Prop} (calm : A.handled = none) (rd : ReadsAll s.heap [a, b] [d, e] as) (al : AlikeAll [d, e]) (room : A.units + 1 + PyData.depthAll [d, e] < cLine)
    (fin : ∀ (i : Nat) v h1 tk bs, [a, b][i]? = some v → Reads h1 v (maxD d [e]) bs → (∀ c o, s.heap.get? c = some o → h1.get? c = some o) → Q v { s with heap := h1, toks := tk }) :
    wpAny (model P w) A (call (.builtin "max") [a, b]) Q E s := by
  refine call_function_tree (args := [a, b]) F.kind_max F.plain_max F.entry_max
    (F.args_max2 a b) ?_
  refine wpAny_bind (m := Builtin.Builtins.bindParams "max" ["key", "default"] 0 ⟨[], []⟩) (wpAny_of_eq (a := [none, none]) (by rfl) ?_)
  refine wpAny_bind (m := newTuple [a, b]) (wpAny_newObj_type ?_)
  have keep0 : ∀ c o, s.heap.get? c = some o → (s.heap.push { cls := .type "tuple", data := .seq #[a, b] }).get? c = some o := fun _ _ q => Heap.get?_push_of_some _ q
  have rd1 : ReadsAll (s.heap.push { cls := .type "tuple", data := .seq #[a, b] }) #[a, b].toList [d, e] as := ReadsAll.keeps keep0 rd
  refine wpAny_bind (iter_tupleW (A := A.in1) (vs := #[a, b]) (s := { s with heap := s.heap.push { cls := .type "tuple", data := .seq #[a, b] } }) calm ⟨_, Heap.get?_push_size _ rfl, rfl, 0, rfl⟩ fun s2 es W st below off keep => ?_)
  refine wpAny_bind (wpAny_newObj_type ?_)
  rw [show (toString "max" ++ toString ".loop" : String) = "max.loop" by decide]
  have new : s2.heap.objs.size ∉ [(s.heap.push { cls := .type "tuple", data := .seq #[a, b] }).objs.size, s.heap.objs.size] := fun z => Nat.lt_irrefl _ (below _ z)
  refine wpAny_pure ⟨plainId_quiet F.plain_max_loop _, codeAny_max_loop_firstH W _ off _ (cmpIn_gt (A := A.in1) rd1 al (by show A.units + 1 + _ < _; exact room)) _ new (fresh_in keep) _ (by show 0 < 2; decide)
    (fun c o q => Heap.get?_push_of_some _ (keep c o q)) (W.frame 0 s2 _ s2.toks st (Nat.le_refl _) fun c _ o q => Heap.get?_push_of_some _ q) (Heap.get?_push_size _ rfl) fun v s3 hv m => ?_⟩
  obtain ⟨h3, tk, rfl, keep3⟩ := moved_old es rfl (Moved.drop_new (tk := s2.toks) m (Nat.le_refl _))
  obtain ⟨bs, r, _, _, _⟩ := readsAll_atA rd1 _ v hv
  have e2 := (argBest_fold (fun x y => dataLt y x) PyData.none d [e] 1 (Nat.le_refl _)).2
  have r2 : Reads h3 v (maxD d [e]) bs := reads_keeps keep3 (by unfold maxD; rw [show [e].take 1 = [e] from rfl] at e2; rw [← e2]; exact r)
  exact fin _ v h3 tk bs (by simpa using hv) r2 fun c o q => keep3 c o (keep0 c o q)
end
section
variable {X : Cx} {K : PySem.W.Frag}
/-- max(x, y) of two things as they stand -/
def rMax2D (K : PySem.W.Frag) : List V → Hp → VK → Prop := fun vs H Q => ∃ (G : V → D → Prop) (x y : V) (d e : D), vs = [x, y] ∧ Eh G [x, y] [d, e] ∧ (∀ x d, G x d → Dp K H x d) ∧ OrdB [d, e] ∧ ∀ v, G v (maxD d [e]) → Q v H
theorem cr_max2D (hK : X.K = K) (hc : X.calm = true) (hu : X.A.units + 65 < cLine) : CallR X (.builtin "max") (rMax2D K) := by
  subst hK
  rintro pins s σ H vs us Q I r ⟨G, x, y, d, e, rfl, ha, g, ok, q⟩
  obtain ⟨as, rd⟩ := Dp.readsAll I _ _ us (eh_dps g ha) r
  have rv := r
  cases r with
  | cons r1 r => cases r with
    | cons r2 r =>
      cases r
      refine max_of2 (I.ok.hd hc) rd ok.alikeAll (by have := ok.dep; omega) fun i v h1 tk bs hi rd1 keep => ?_
      obtain ⟨z, rz, dz⟩ := std_at I ha g rv ok.lay hi maxD_mem rd1 keep
      exact ⟨z, H, I.kept keep, rz, q z dz⟩
def pMax2D : O → O → Option O
  | .dat d, .dat e => if ordB [d, e] then some (.dat (maxD d [e])) else none
  | _, _ => none
theorem cm_max2D : CbM K (rMax2D K) (two pMax2D) := cm_two fun oa ob o F A x y ps qs P e r1 r2 k => by
  unfold pMax2D at e
  split at e
  · rename_i d1 d2
    split at e
    · rename_i h1
      cases e
      cases r1 with
      | dat a1 => cases r2 with
        | dat a2 => exact fun H w Q c => ⟨Dp K F, x, y, d1, d2, rfl, .cons a1 (.cons a2 .nil), fun x d h => dp_mono w.f h, ordB_iff.mp h1, fun v hv => c _ _ _ _ w (ret_dat k hv)⟩
    · cases e
  · cases e
end
end M
/-! sorted(set(a list of numbers)) -/
namespace M
open PySem PySem.Spec L2 Z PyProof.Rows
/-- k among those in order -/
def insI (k : Int) : List Int → List Int
  | [] => [k]
  | j :: js => if k < j then k :: j :: js else if k = j then j :: js else j :: insI k js
def setI : List Int → List Int
  | [] => []
  | k :: ks => insI k (setI ks)
theorem mem_insI {k j : Int} : ∀ {ks : List Int}, j ∈ insI k ks ↔ j = k ∨ j ∈ ks
  | [] => by simp [insI]
  | i :: ks => by
    unfold insI
    split
    · simp
    · split
      · rename_i h
        simp only [List.mem_cons, h]
        constructor
        · exact .inr
        · rintro (z | z)
          · exact .inl z
          · exact z
      · simp only [List.mem_cons, mem_insI (ks := ks)]
        constructor
        · rintro (z | z | z)
          · exact .inr (.inl z)
          · exact .inl z
          · exact .inr (.inr z)
        · rintro (z | z | z)
          · exact .inr (.inl z)
          · exact .inl z
          · exact .inr (.inr z)
theorem mem_setI {j : Int} : ∀ {ks : List Int}, j ∈ setI ks ↔ j ∈ ks
  | [] => Iff.rfl
  | k :: ks => by rw [setI, mem_insI, mem_setI, List.mem_cons]
theorem lt_insI {k : Int} : ∀ {ks : List Int}, ks.Pairwise (· < ·) → (insI k ks).Pairwise (· < ·)
  | [], _ => List.pairwise_singleton _ _
  | j :: ks, h => by
    obtain ⟨h1, h2⟩ := List.pairwise_cons.mp h
    unfold insI
    split
    · rename_i g
      exact List.pairwise_cons.mpr ⟨fun i hi => by rcases List.mem_cons.mp hi with z | z; (· omega); (· have := h1 i z; omega), h⟩
    · split
      · exact h
      · refine List.pairwise_cons.mpr ⟨fun i hi => ?_, lt_insI h2⟩
        rcases mem_insI.mp hi with z | z
        · omega
        · exact h1 i z
theorem lt_setI : ∀ {ks : List Int}, (setI ks).Pairwise (· < ·)
  | [] => .nil
  | _ :: _ => lt_insI lt_setI
theorem lt_ext : ∀ {xs ys : List Int}, xs.Pairwise (· < ·) → ys.Pairwise (· < ·) → (∀ k, k ∈ xs ↔ k ∈ ys) → xs = ys
  | [], [], _, _, _ => rfl
  | [], y :: ys, _, _, m => by have := (m y).mpr (by simp); cases this
  | x :: xs, [], _, _, m => by have := (m x).mp (by simp); cases this
  | x :: xs, y :: ys, h1, h2, m => by
    obtain ⟨a1, a2⟩ := List.pairwise_cons.mp h1
    obtain ⟨b1, b2⟩ := List.pairwise_cons.mp h2
    have e : x = y := by
      have p := (m x).mp (by simp)
      have q := (m y).mpr (by simp)
      rcases List.mem_cons.mp p with z | z
      · exact z
      · rcases List.mem_cons.mp q with z2 | z2
        · exact z2.symm
        · have := b1 x z; have := a1 y z2; omega
    subst e
    rw [lt_ext a2 b2 fun k => ?_]
    constructor
    · intro hk
      rcases List.mem_cons.mp ((m k).mp (List.mem_cons_of_mem _ hk)) with z | z
      · have := a1 k hk; omega
      · exact z
    · intro hk
      rcases List.mem_cons.mp ((m k).mpr (List.mem_cons_of_mem _ hk)) with z | z
      · have := b1 k hk; omega
      · exact z
theorem len_insI {k : Int} : ∀ {ks : List Int}, (insI k ks).length ≤ ks.length + 1
  | [] => by simp [insI]
  | j :: ks => by
    unfold insI
    split
    · simp
    · split
      · simp
      · simp only [List.length_cons]; have := len_insI (k := k) (ks := ks); omega
theorem len_setI : ∀ {ks : List Int}, (setI ks).length ≤ ks.length
  | [] => by simp [setI]
  | k :: ks => by have := len_insI (k := k) (ks := setI ks); have := len_setI (ks := ks); simp only [setI, List.length_cons]; omega
section
variable {s : Shared} {A : Around} {P : Program} {w : World} {E : Value → Shared → Prop}
theorem sort_set {a : Addr} {S : Int → Bool} {n : Nat} {Q : Value → Shared → Prop} (R : SetR w s.heap a S n) (calm : A.handled = none)
    (fin : ∀ s2 p (out : Array Value) (c : Nat) (ks : List Int), (∀ b o, s.heap.get? b = some o → s2.heap.get? b = some o) → s2.gens = s.gens → s2.os = s.os → s.heap.objs.size ≤ p →
      s2.heap.get? p = some (seqObj "list" out c) → IntsAre out.toList ks → ks.Pairwise (· < ·) → (∀ k, k ∈ ks ↔ S k = true) → Q (.ref p) s2) :
    wpAny (model P w) A (call (.builtin "sorted") [Value.ref a]) Q E s := by
  obtain ⟨o, es, ep, t, at', ex, dat, good, nd, mem, few, fits, len, ris, led⟩ := R
  refine Calls.call_function_entry kind_sorted plain_sorted entry_sorted
    (args_sorted1 _) ?_
  unfold Builtin.«sorted»
  refine wpAny_bind (m := checkCount "sorted" 1 1 _) (wpAny_pure (wpAny_bind (collect_set (A := A.in1) calm ⟨o, at', ex.1, dat⟩ fits few ris led fun s1 us keep grow g1 o1 pm => ?_)))
  have ul : us.length = es.size := by rw [pm.length_eq, List.length_map, Array.length_toList]
  have many : us.length ≤ sizeLine := by
    have b1 : scanBound ≤ sizeLine := by decide
    omega
  have nums : IntsAre us (us.map Builtin.Re.reRawOf) := ints_of us fun v hv => by
    obtain ⟨e, he, rfl⟩ := List.mem_map.mp (pm.mem_iff.mp hv)
    obtain ⟨k, tk, z, _⟩ := good e he
    exact ⟨k, tk, z⟩
  have pk : (us.map Builtin.Re.reRawOf).Perm (es.toList.map L2.keyOf) := by
    have := pm.map Builtin.Re.reRawOf
    rwa [List.map_map] at this
  refine wpAny_bind (wpAny_newList ?_ many)
  have at1 : (s1.heap.push (seqObj "list" us.toArray 0)).get? s1.heap.objs.size = some (seqObj "list" us.toArray 0) := Heap.get?_push_size _ rfl
  refine wpAny_bind (wpAny_holding (wpAny_call_entry slot_list_sort ⟨_, at1, rfl⟩ entry_list_sort
    (SrtO.list_sort_ord SrtO.swo_int at1 many (fun h2 => SrtO.ints_sortable nums h2) fun out h1 h2 => ⟨.none, rfl, ?_⟩) (args_list_sort _)))
  obtain ⟨k1, k2, k3⟩ := SrtO.ints_out nums h1 h2
  obtain ⟨c, hc⟩ := sortedHeap_at (vs := us) (out := out.toArray) at1
  have pn := k2.trans pk
  refine wpAny_pure ⟨_, rfl, fin _ s1.heap.objs.size out.toArray c _ (fun b u q => ?_) g1 o1 grow hc k1 (lt_of_le_nodup _ k3 (pn.nodup_iff.mpr nd)) fun k => by rw [pn.mem_iff, ← mem k]⟩
  have low := Heap.lt_size (keep b u q)
  refine (sortedHeap_old (Nat.ne_of_lt low) (by rw [Heap.size_push]; exact Nat.lt_succ_of_lt low)).trans ?_
  exact Heap.get?_push_of_some _ (keep b u q)
end
section
variable {X : Cx} {K : PySem.W.Frag}
def rSetSort (K : PySem.W.Frag) : List V → Hp → VK → Prop := fun vs H Q => ∃ (a : Addr) (ns : List Int), vs = [.ref a] ∧ SqL K H a (ns.map V.int) ∧ ns.length ≤ 4000 ∧ ∀ p, H p = none → Q (.ref p) (upd H p (.lst ((setI ns).map V.int)))
variable {a : Expr} {t : TA} {p1 p2 q1 q2 : Pos}
theorem pe_setSort (hK : X.K = K) (hc : X.calm = true) (hg : Gl X "sorted") (hm : X.mg "sorted" = none) (gs : Gl X "set") (ms : X.mg "set" = none) (ha : PA X [a] t)
    (na : starEach [a] X.env = (false, eval a X.env) :: starEach [] X.env := by rfl) : PE X (.Call (.Name "sorted" p1) [.Call (.Name "set" p2) [a] [] q1] [] q2) (tCB (rSetSort K) t) := by
  subst hK
  refine ⟨fun pins s σ H Q I h => ?_⟩
  refine Call_ (ld_blt I hg hm boot_sorted ?_)
  refine callWith_builtin1 (args_cons ?_ rfl) rfl rfl
  refine Call_ (ld_blt I gs ms boot_set ?_)
  refine callWith_type1 (thn (ha.run q1 pins s σ H _ I h) fun us s1 ⟨vs, H1, I1, r1, l, ns, ex, hs, few, q⟩ => ?_) na rfl
  subst ex
  rw [Vals.ref1 r1]
  obtain ⟨its, rv, hl, hz⟩ := I1.list hs
  refine set_list ns (I1.ok.hd hc) hl.isList (by simpa using intsAre_of rv) (by show _ < 4096; omega) fun h1 tk made => ?_
  obtain ⟨⟨c, hc1, R⟩, keep⟩ := made
  refine args_nil ?_
  refine sort_set (s := { s1 with heap := h1, toks := tk }) R (I1.ok.hd hc) fun s2 p out c2 ks keep2 g o hp at' nums lt mem => ?_
  have e : ks = setI ns := lt_ext lt lt_setI fun k => by rw [mem k, mem_setI]; exact decide_eq_true_iff
  subst e
  have up : s1.heap.objs.size ≤ p := Nat.le_of_lt (Nat.lt_of_lt_of_le R.lt hp)
  have un : H1 p = none := I1.hok.fresh up
  have kk : ∀ b u, s1.heap.get? b = some u → s2.heap.get? b = some u := fun b u z => keep2 b u (keep b u z)
  have short : ((setI ns).map V.int).length ≤ sizeLine := by
    have := len_setI (ks := ns)
    rw [List.length_map, sizeLine_eq]
    omega
  obtain ⟨heap2, g2, drawn2, toks2, os2⟩ := s2
  cases (show os2 = s1.os from o)
  exact ⟨.ref p, upd H1 p (.lst ((setI ns).map V.int)), I1.call (ch := []) (Un.laid kk up un) (I1.hok.laid kk up ⟨short, out.toList, c2, vals_of_ints nums, at'⟩) (by rw [show g2 = s1.gens from g]; exact I1.bare) (fun _ z => nomatch z), rfl, q p un⟩
/-- the numbers of a list, if it holds nothing else -/
def asI : List D → Option (List Int)
  | [] => some []
  | .int i :: ds => match asI ds with
    | some is => some (i :: is)
    | none => none
  | _ :: _ => none
theorem asI_eq : ∀ {ds : List D} {is : List Int}, asI ds = some is → ds = is.map .int
  | [], is, h => by cases h; rfl
  | .int i :: ds, is, h => by
    unfold asI at h
    split at h
    · rename_i js e
      cases h
      rw [asI_eq e]; rfl
    · cases h
  | .none :: _, _, h => by cases h
  | .bool _ :: _, _, h => by cases h
  | .str _ :: _, _, h => by cases h
  | .list _ :: _, _, h => by cases h
  | .tuple _ :: _, _, h => by cases h
  | .dict _ :: _, _, h => by cases h
theorem asI_map : ∀ (is : List Int), asI (is.map .int) = some is
  | [] => rfl
  | i :: is => by rw [List.map_cons, asI, asI_map is]
theorem vs_ints {F : Hp} : ∀ {xs : List V} {is : List Int}, DpAll K F xs (is.map .int) → xs = is.map .int
  | _, [], .nil => rfl
  | _, i :: is, .cons h hs => by
    cases dp_int h
    rw [vs_ints hs]; rfl
theorem ints_dps {F : Hp} : ∀ (is : List Int), DpAll K F (is.map .int) (is.map .int)
  | [] => .nil
  | i :: is => .cons (.int i) (ints_dps is)
/-- sorted(set(xs)) of numbers -/
def pSetSort (o : O) : Option O := match asL o with
  | some ds => match asI ds with
    | some is => if is.length ≤ 4000 then some (.lst (((setI is).map .int).map .dat)) else none
    | none => none
  | none => none
theorem cm_setSort : CbM K (rSetSort K) (one pSetSort) := cm_one fun oa o F A x ps P e r k => by
  unfold pSetSort at e
  split at e
  · rename_i ds h0
    split at e
    · rename_i is h1
      split at e
      · rename_i h2
        cases e
        obtain ⟨a, xs, rfl, h3, h4⟩ := asL_rp h0 r
        rw [asI_eq h1] at h4
        cases vs_ints h4
        exact fun H w Q c => ⟨a, is, rfl, h3.at w, h2, fun p hp => c _ _ _ _ (w.newA hp) (ret_lst k (w.an hp) (ints_dps _))⟩
      · cases e
    · cases e
  · cases e
end
end M
/-! for x in (a, b): the parts are one's own -/
namespace M
open PySem PySem.Spec L2 Z
section
variable {K : PySem.W.Frag} {t : TA} {m : mA} {W : List Nat}
def forO (mg : mG) (mb : mS) : List O → Env → Option (Fl × Env)
  | [], ε => some (.nx, ε)
  | o :: os, ε => match mg o ε with
    | some ε1 => match mb ε1 with
      | some (.nx, ε2) => forO mg mb os ε2
      | _ => none
    | none => none
def mForO (m : mA) (mg : mG) (mb : mS) : mS := fun ε => match mTupO m ε with
  | some (.val (.tup os), ε1) => forO mg mb os ε1
  | _ => none
def OInv (K : PySem.W.Frag) (W : List Nat) (fp : List Addr) (F A : Hp) (σ : St) (mg : mG) (mb : mS) (p : Addr) (vs : List V) (os : List O) (f : Fl) (ε' : Env) (i : Nat) (σ' : St) (H' : Hp) : Prop :=
  ∃ F' A' fp' qs ε2, Wd F' A' H' ∧ Step fp (fp' ++ qs) F A F' A' ∧ A' p = some (.tup vs) ∧ p ∉ fp' ++ qs ∧ RpAll K F' A' (vs.drop i) (os.drop i) qs ∧ (fp' ++ qs).Nodup ∧ Rel K F' A' ε2 σ' fp' ∧ Agr W σ σ' ∧ forO mg mb (os.drop i) ε2 = some (f, ε')
theorem ss_forO {g : TG} {mg : mG} {tb : TS} {mb : mS} (ht : SnA K t m) (hg : SnG K W g mg) (hb : SnS K W tb mb) : SnS K W (tFor (iTup K (L2.tTup t)) g tb) (mForO m mg mb) := fun ε f ε' σ F A fp D e q n k => by
  unfold mForO at e
  split at e
  · rename_i os ε1 e1
    intro H w C c
    unfold tFor iTup
    refine (sn_tupO ht).fact e1 q n H w _ fun v F1 A1 H1 w1 ⟨fp1, np1, s1, n1, q1, x1⟩ => ?_
    cases x1 with
    | @tup p vs _ ps at' r =>
      have n2 := List.nodup_append.mp n1
      have pin : p ∉ fp1 ++ ps := fun z => by
        rcases List.mem_append.mp z with z | z
        · exact n2.2.2 p z p (by simp) rfl
        · exact (List.nodup_cons.mp n2.2.1).1 z
      have n3 : (fp1 ++ ps).Nodup := (List.nodup_cons.mp ((List.perm_middle (a := p) (l₁ := fp1) (l₂ := ps)).nodup_iff.mp n1)).2
      refine ⟨p, rfl, ⟨vs, .inl (.inl (w1.a p _ at'))⟩, ?_⟩
      refine for_it (walk_tup (K := K) (a := p) (xs := vs)) (OInv K W fp F A σ mg mb p vs os f ε')
        ⟨F1, A1, fp1, ps, ε1, w1, s1.sub fun x hx => by rcases List.mem_append.mp hx with z | z <;> simp [z], at', pin, r, n3, q1, .refl, e⟩ (fun i σ' H' _ ⟨F', A', _, _, _, w', _, a', _⟩ => .inl (.inl (w'.a p _ a'))) ?_ ?_
      · rintro i x σ' H2 H3 hl ⟨F2, A2, fp2, qs, ε2, w2, s2, a2, p2, r2, n2, q2, g2, e2⟩ y
        obtain ⟨rfl, y⟩ := y
        have hv : vs.drop i = x :: vs.drop (i + 1) := by
          rw [List.getElem?_eq_getElem hl] at y
          cases y
          exact List.drop_eq_getElem_cons hl
        rw [hv] at r2
        generalize ho : os.drop i = os1 at r2 e2
        cases r2 with
        | @cons _ _ o os2 ps1 qs1 ra rb =>
          have ho2 : os.drop (i + 1) = os2 := by rw [← List.drop_drop, ho]; rfl
          unfold forO at e2
          split at e2
          · rename_i ε3 e3
            split at e2
            · rename_i ε5 e5
              have na : ((fp2 ++ ps1) ++ qs1).Nodup := by rw [List.append_assoc]; exact n2
              have pa : p ∉ (fp2 ++ ps1) ++ qs1 := by rw [List.append_assoc]; exact p2
              refine hg o ε2 ε3 x σ' F2 A2 fp2 ps1 (fun σ4 F4 A4 => ∃ fp4, Step (fp2 ++ ps1) fp4 F2 A2 F4 A4 ∧ fp4.Nodup ∧ Rel K F4 A4 ε3 σ4 fp4 ∧ Agr W σ' σ4) e3 q2 ra (List.nodup_append.mp na).1
                (fun σ4 F4 A4 fp4 s4 n4 q4 g4 => ⟨fp4, s4, n4, q4, g4⟩) _ w2 _ (fun σ4 F4 A4 H4 w4 ⟨fp4, s4, n4, q4, g4⟩ => ?_)
              have pq : ∀ x ∈ [p] ++ qs1, ∃ u, A2 x = some u := fun x hx => by
                rcases List.mem_append.mp hx with z | z
                · simp at z; subst z; exact ⟨_, a2⟩
                · exact rb.in x z
              obtain ⟨s4a, n4a⟩ := s4.apart (fun x hx => rb.in x hx) na n4
              have k4 := s4.keep na
              have a4 : A4 p = some (.tup vs) := s4.o p _ (fun z => pa (by rcases List.mem_append.mp z with z | z <;> simp [z])) a2
              have rb4 := rb.mono s4.s k4
              have p4 : p ∉ fp4 ++ qs1 := fun z => by
                rcases s4a.f p z with z | z
                · exact pa z
                · rw [a2] at z; cases z
              refine (hb ε3 .nx ε5 σ4 F4 A4 fp4 (EdFor (fun σ5 F5 A5 => ∃ fp5, Step fp4 fp5 F4 A4 F5 A5 ∧ fp5.Nodup ∧ Rel K F5 A5 ε5 σ5 fp5 ∧ Agr W σ4 σ5) D) e5 q4 n4 fun σ5 F5 A5 fp5 np5 s5 n5 q5 g5 => ⟨fp5, s5.sub fun x hx => by simp [hx], (List.nodup_append.mp n5).1, q5, g5⟩) H4 w4
                { C with nx := OInv K W fp F A σ mg mb p vs os f ε' (i + 1), ct := OInv K W fp F A σ mg mb p vs os f ε' (i + 1), bk := C.nx } ?_
              have fin : ∀ σ5 F5 A5 H5, Wd F5 A5 H5 → (∃ fp5, Step fp4 fp5 F4 A4 F5 A5 ∧ fp5.Nodup ∧ Rel K F5 A5 ε5 σ5 fp5 ∧ Agr W σ4 σ5) → OInv K W fp F A σ mg mb p vs os f ε' (i + 1) σ5 H5 := fun σ5 F5 A5 H5 w5 ⟨fp5, s5, n5, q5, g5⟩ => by
                obtain ⟨s5a, n5a⟩ := s5.apart (fun x hx => rb4.in x hx) n4a n5
                have a5 : A5 p = some (.tup vs) := s5.o p _ (fun z => p4 (by simp [z])) a4
                refine ⟨F5, A5, fp5, qs1, ε5, w5, ?_, a5, ?_, ?_, n5a, q5, (g2.trans g4).trans g5, ?_⟩
                · have : Step fp ((fp2 ++ ps1) ++ qs1) F A F2 A2 := by rw [List.append_assoc]; exact s2
                  exact (this.trans s4a).trans s5a
                · intro z
                  rcases s5a.f p z with z | z
                  · exact p4 z
                  · rw [a4] at z; cases z
                · rw [ho2]; exact rb4.mono s5.s (s5.keep n4a)
                · rw [ho2]; exact e2
              exact ⟨fin, c.rt, c.nx, fin⟩
            · cases e2
          · cases e2
      · rintro σ' H' ⟨F', A', fp', qs, ε2, w', s', a', p', r', n', q', g', e2⟩
        rw [List.drop_length] at r'
        generalize ho : os.drop vs.length = os1 at r' e2
        cases r'
        cases e2
        rw [List.append_nil] at n' s'
        exact c.nx _ _ _ _ w' (k σ' F' A' fp' [] s'.nil' (nod' n') q' g')
  · cases e
end
end M
namespace K10
open PySem M
-- slots of lates: 0 prints, 1 late, 2 latest, 3 place, 4 moment, 5 price, 6 count
abbrev l_lates_1 : mS :=
  (mIfS (mTest (mOp pLt (mVar 4) (mVar 2))) (mDrop (mApp (mVar 1) (mCons (mVar 3) mNil))) (mSet 2 (mVar 4)))
def b_lates : mS :=
  (mSeq (mSet 1 (mLst mNil))
  (mSeq (mSet 2 (mC (.int 0)))
  (mSeq (mFor (mEnum (mCons (mVar 0) mNil)) (gT 2 (gsC (gN 3) (gsC (gT 3 (gsC (gN 4) (gsC (gN 5) (gsC (gN 6) gsN)))) gsN)))
  l_lates_1)
  (mRet (mVar 1)))))
def f_lates : mF := mDef 1 7 [1, 2, 3, 4, 5, 6] b_lates
theorem d_lates {a0 : O} {PF : O → List (Option O) → Prop} (h : W2 ((mSeq (mSet 1 (mLst mNil))
  (mSeq (mSet 2 (mC (.int 0)))
  (mSeq (mFor (mEnum (mCons (mVar 0) mNil)) (gT 2 (gsC (gN 3) (gsC (gT 3 (gsC (gN 4) (gsC (gN 5) (gsC (gN 6) gsN)))) gsN)))
  l_lates_1)
  (mRet (mVar 1))))) [some a0, none, none, none, none, none, none]) (DefK [1, 2, 3, 4, 5, 6] [a0] PF)) : W2 (f_lates [a0]) PF := w_def rfl h
-- slots of rows_of: 0 prints, 1 rows, 2 moment, 3 price, 4 count, 5 least, 6 greatest, 7 lots
abbrev l_rows_of_1 : mS :=
  (mSeq (mAsg (mDGet2 (mVar 1) (mVar 2) (mTup (mCons (mVar 3) (mCons (mVar 3) (mCons (mC (.int 0)) mNil))))) (gT 3 (gsC (gN 5) (gsC (gN 6) (gsC (gN 7) gsN)))))
  (mDPut (mVar 1) (mVar 2) (mTup (mCons (mCB (two pMin) (mCons (mVar 5) (mCons (mVar 3) mNil))) (mCons (mCB (two pMax) (mCons (mVar 6) (mCons (mVar 3) mNil))) (mCons (mOp pAdd (mVar 7) (mVar 4)) mNil))))))
def b_rows_of : mS :=
  (mSeq (mSet 1 mDNew)
  (mSeq (mFor (mIL (mVar 0)) (gT 3 (gsC (gN 2) (gsC (gN 3) (gsC (gN 4) gsN))))
  l_rows_of_1)
  (mRet (mLc [2] (mIL (mSortK (mCons (mVar 1) mNil))) (gN 2) mYes (mOp pAdd (mTup (mCons (mVar 2) mNil)) (mDIx (mVar 1) (mVar 2)))))))
def f_rows_of : mF := mDef 1 8 [1, 2, 3, 4, 5, 6, 7] b_rows_of
theorem d_rows_of {a0 : O} {PF : O → List (Option O) → Prop} (h : W2 ((mSeq (mSet 1 mDNew)
  (mSeq (mFor (mIL (mVar 0)) (gT 3 (gsC (gN 2) (gsC (gN 3) (gsC (gN 4) gsN))))
  l_rows_of_1)
  (mRet (mLc [2] (mIL (mSortK (mCons (mVar 1) mNil))) (gN 2) mYes (mOp pAdd (mTup (mCons (mVar 2) mNil)) (mDIx (mVar 1) (mVar 2))))))) [some a0, none, none, none, none, none, none, none]) (DefK [1, 2, 3, 4, 5, 6, 7] [a0] PF)) : W2 (f_rows_of [a0]) PF := w_def rfl h
-- slots of called_price: 0 prints, 1 first, 2 latest, 3 lots, 4 moment, 5 price, 6 count, 7 many
abbrev l_called_price_1 : mS :=
  (mIfS (mTest (mOp pEq (mVar 4) (mVar 2))) (mDPut (mVar 3) (mVar 5) (mOp pAdd (mDGet2 (mVar 3) (mVar 5) (mC (.int 0))) (mVar 6))) mNext)
def b_called_price : mS :=
  (mSeq (mIfS (mNot (mTru (mVar 0))) (mRet (mVar 1)) mNext)
  (mSeq (mSet 2 (mCB (one pTop) (mCons (mLc [4, 5, 6] (mIL (mVar 0)) (gT 3 (gsC (gN 4) (gsC (gN 5) (gsC (gN 6) gsN)))) mYes (mVar 4)) mNil)))
  (mSeq (mSet 3 mDNew)
  (mSeq (mFor (mIL (mVar 0)) (gT 3 (gsC (gN 4) (gsC (gN 5) (gsC (gN 6) gsN))))
  l_called_price_1)
  (mRet (mOp pIx (mCB (one (pBestD PySem.W.maxD)) (mCons (mLockE 3 (mLc [5, 7] (mWalkD itemsD (mVar 3)) (gT 2 (gsC (gN 5) (gsC (gN 7) gsN))) mYes (mTup (mCons (mVar 7) (mCons (mVar 5) mNil))))) mNil)) (mC (.int 1))))))))
def f_called_price : mF := mDef 2 8 [2, 3, 4, 5, 6] b_called_price
theorem d_called_price {a0 a1 : O} {PF : O → List (Option O) → Prop} (h : W2 ((mSeq (mIfS (mNot (mTru (mVar 0))) (mRet (mVar 1)) mNext)
  (mSeq (mSet 2 (mCB (one pTop) (mCons (mLc [4, 5, 6] (mIL (mVar 0)) (gT 3 (gsC (gN 4) (gsC (gN 5) (gsC (gN 6) gsN)))) mYes (mVar 4)) mNil)))
  (mSeq (mSet 3 mDNew)
  (mSeq (mFor (mIL (mVar 0)) (gT 3 (gsC (gN 4) (gsC (gN 5) (gsC (gN 6) gsN))))
  l_called_price_1)
  (mRet (mOp pIx (mCB (one (pBestD PySem.W.maxD)) (mCons (mLockE 3 (mLc [5, 7] (mWalkD itemsD (mVar 3)) (gT 2 (gsC (gN 5) (gsC (gN 7) gsN))) mYes (mTup (mCons (mVar 7) (mCons (mVar 5) mNil))))) mNil)) (mC (.int 1)))))))) [some a0, some a1, none, none, none, none, none, none]) (DefK [2, 3, 4, 5, 6] [a0, a1] PF)) : W2 (f_called_price [a0, a1]) PF := w_def rfl h
-- slots of _law_rows: 0 prints, 1 found, 2 moment, 3 some, 4 prices, 5 row
abbrev l_z_rows_1 : mS :=
  (mSeq (mSet 3 (mLc [5] (mIL (mVar 0)) (gN 5) (mTest (mOp pEq (mOp pIx (mVar 5) (mC (.int 0))) (mVar 2))) (mVar 5)))
  (mSeq (mSet 4 (mLc [5] (mIL (mVar 3)) (gN 5) mYes (mOp pIx (mVar 5) (mC (.int 1)))))
  (mDrop (mApp (mVar 1) (mCons (mTup (mCons (mVar 2) (mCons (mCB (one pLow) (mCons (mVar 4) mNil)) (mCons (mCB (one pTop) (mCons (mVar 4) mNil)) (mCons (mCB (one pSum) (mCons (mLc [5] (mIL (mVar 3)) (gN 5) mYes (mOp pIx (mVar 5) (mC (.int 2)))) mNil)) mNil))))) mNil)))))
def b_z_rows : mS :=
  (mSeq (mSet 1 (mLst mNil))
  (mSeq (mFor (mIL (mCB (one pSetSort) (mCons (mLc [5] (mIL (mVar 0)) (gN 5) mYes (mOp pIx (mVar 5) (mC (.int 0)))) mNil))) (gN 2)
  l_z_rows_1)
  (mRet (mVar 1))))
def f_z_rows : mF := mDef 1 6 [1, 2, 3, 4] b_z_rows
theorem d_z_rows {a0 : O} {PF : O → List (Option O) → Prop} (h : W2 ((mSeq (mSet 1 (mLst mNil))
  (mSeq (mFor (mIL (mCB (one pSetSort) (mCons (mLc [5] (mIL (mVar 0)) (gN 5) mYes (mOp pIx (mVar 5) (mC (.int 0)))) mNil))) (gN 2)
  l_z_rows_1)
  (mRet (mVar 1)))) [some a0, none, none, none, none, none]) (DefK [1, 2, 3, 4] [a0] PF)) : W2 (f_z_rows [a0]) PF := w_def rfl h
-- slots of _law_bag: 0 script, 1 k, 2 cell
def b_z_bag : mS :=
  (mSeq (mSet 2 (mC (.int 0)))
  (mSeq (mIfS (mTest (mOp pLt (mVar 1) (mCB (one pLen) (mCons (mVar 0) mNil)))) (mSet 2 (mOp pMod (mOp pIx (mVar 0) (mVar 1)) (mOp pMul (mOp pPow (mC (.int 10)) (mC (.int 60))) (mOp pPow (mC (.int 10)) (mC (.int 60)))))) mNext)
  (mSeq (mIfS (mTest (mOp pLt (mVar 2) (mOp pPow (mC (.int 10)) (mC (.int 18))))) (mRet (mLst (mCons (mC (.int 0)) (mCons (mOp pAdd (mC (.int 1)) (mOp pMod (mOp pAdd (mOp pMul (mVar 2) (mC (.int 7919))) (mOp pMul (mC (.int 104729)) (mVar 1))) (mC (.int 2147483646)))) mNil)))) mNext)
  (mRet (mLst (mCons (mVar 2) (mCons (mOp pAdd (mC (.int 1)) (mOp pMod (mOp pAdd (mVar 2) (mVar 1)) (mC (.int 2147483646)))) mNil)))))))
def f_z_bag : mF := mDef 2 3 [2] b_z_bag
theorem d_z_bag {a0 a1 : O} {PF : O → List (Option O) → Prop} (h : W2 ((mSeq (mSet 2 (mC (.int 0)))
  (mSeq (mIfS (mTest (mOp pLt (mVar 1) (mCB (one pLen) (mCons (mVar 0) mNil)))) (mSet 2 (mOp pMod (mOp pIx (mVar 0) (mVar 1)) (mOp pMul (mOp pPow (mC (.int 10)) (mC (.int 60))) (mOp pPow (mC (.int 10)) (mC (.int 60)))))) mNext)
  (mSeq (mIfS (mTest (mOp pLt (mVar 2) (mOp pPow (mC (.int 10)) (mC (.int 18))))) (mRet (mLst (mCons (mC (.int 0)) (mCons (mOp pAdd (mC (.int 1)) (mOp pMod (mOp pAdd (mOp pMul (mVar 2) (mC (.int 7919))) (mOp pMul (mC (.int 104729)) (mVar 1))) (mC (.int 2147483646)))) mNil)))) mNext)
  (mRet (mLst (mCons (mVar 2) (mCons (mOp pAdd (mC (.int 1)) (mOp pMod (mOp pAdd (mVar 2) (mVar 1)) (mC (.int 2147483646)))) mNil))))))) [some a0, some a1, none]) (DefK [2] [a0, a1] PF)) : W2 (f_z_bag [a0, a1]) PF := w_def rfl h
-- slots of _law_take: 0 bag, 1 many, 2 found
def b_z_take : mS :=
  (mSeq (mIfS (mTest (mOp pGt (mOp pIx (mVar 0) (mC (.int 0))) (mC (.int 0)))) (mSeq (mSet 2 (mOp pMod (mOp pIx (mVar 0) (mC (.int 0))) (mVar 1)))
  (mSeq (mPutIx (mVar 0) (mC (.int 0)) (mOp pDiv (mOp pIx (mVar 0) (mC (.int 0))) (mVar 1)))
  (mRet (mVar 2)))) mNext)
  (mSeq (mPutIx (mVar 0) (mC (.int 1)) (mOp pMod (mOp pMul (mOp pIx (mVar 0) (mC (.int 1))) (mC (.int 48271))) (mC (.int 2147483647))))
  (mRet (mOp pMod (mOp pDiv (mOp pMod (mOp pMul (mOp pIx (mVar 0) (mC (.int 1))) (mOp pIx (mVar 0) (mC (.int 1)))) (mC (.int 2147483629))) (mC (.int 64))) (mVar 1)))))
def f_z_take : mF := mDef 2 3 [2] b_z_take
theorem d_z_take {a0 a1 : O} {PF : O → List (Option O) → Prop} (h : W2 ((mSeq (mIfS (mTest (mOp pGt (mOp pIx (mVar 0) (mC (.int 0))) (mC (.int 0)))) (mSeq (mSet 2 (mOp pMod (mOp pIx (mVar 0) (mC (.int 0))) (mVar 1)))
  (mSeq (mPutIx (mVar 0) (mC (.int 0)) (mOp pDiv (mOp pIx (mVar 0) (mC (.int 0))) (mVar 1)))
  (mRet (mVar 2)))) mNext)
  (mSeq (mPutIx (mVar 0) (mC (.int 1)) (mOp pMod (mOp pMul (mOp pIx (mVar 0) (mC (.int 1))) (mC (.int 48271))) (mC (.int 2147483647))))
  (mRet (mOp pMod (mOp pDiv (mOp pMod (mOp pMul (mOp pIx (mVar 0) (mC (.int 1))) (mOp pIx (mVar 0) (mC (.int 1)))) (mC (.int 2147483629))) (mC (.int 64))) (mVar 1))))) [some a0, some a1, none]) (DefK [2] [a0, a1] PF)) : W2 (f_z_take [a0, a1]) PF := w_def rfl h
-- slots of _law_called: 0 prints, 1 first, 2 latest, 3 best, 4 row, 5 lots, 6 other
abbrev l_z_called_1 : mS :=
  (mIfS (mTest (mOp pEq (mOp pIx (mVar 4) (mC (.int 0))) (mVar 2))) (mSeq (mSet 5 (mCB (one pSum) (mCons (mLc [6] (mIL (mVar 0)) (gN 6) (mAnd (mTest (mOp pEq (mOp pIx (mVar 6) (mC (.int 0))) (mVar 2))) (mTest (mOp pEq (mOp pIx (mVar 6) (mC (.int 1))) (mOp pIx (mVar 4) (mC (.int 1)))))) (mOp pIx (mVar 6) (mC (.int 2)))) mNil)))
  (mSet 3 (mCB (two pMax2D) (mCons (mVar 3) (mCons (mTup (mCons (mVar 5) (mCons (mOp pIx (mVar 4) (mC (.int 1))) mNil))) mNil))))) mNext)
def b_z_called : mS :=
  (mSeq (mIfS (mTest (mOp pEq (mVar 0) (mLst mNil))) (mRet (mVar 1)) mNext)
  (mSeq (mSet 2 (mCB (one pTop) (mCons (mLc [4] (mIL (mVar 0)) (gN 4) mYes (mOp pIx (mVar 4) (mC (.int 0)))) mNil)))
  (mSeq (mSet 3 (mTup (mCons (mC (.int 0)) (mCons (mC (.int 0)) mNil))))
  (mSeq (mFor (mIL (mVar 0)) (gN 4)
  l_z_called_1)
  (mRet (mOp pIx (mVar 3) (mC (.int 1))))))))
def f_z_called : mF := mDef 2 7 [2, 3, 4, 5] b_z_called
theorem d_z_called {a0 a1 : O} {PF : O → List (Option O) → Prop} (h : W2 ((mSeq (mIfS (mTest (mOp pEq (mVar 0) (mLst mNil))) (mRet (mVar 1)) mNext)
  (mSeq (mSet 2 (mCB (one pTop) (mCons (mLc [4] (mIL (mVar 0)) (gN 4) mYes (mOp pIx (mVar 4) (mC (.int 0)))) mNil)))
  (mSeq (mSet 3 (mTup (mCons (mC (.int 0)) (mCons (mC (.int 0)) mNil))))
  (mSeq (mFor (mIL (mVar 0)) (gN 4)
  l_z_called_1)
  (mRet (mOp pIx (mVar 3) (mC (.int 1)))))))) [some a0, some a1, none, none, none, none, none]) (DefK [2, 3, 4, 5] [a0, a1] PF)) : W2 (f_z_called [a0, a1]) PF := w_def rfl h
-- slots of _law_board: 0 prints, 1 moments, 2 ends, 3 moment, 4 prices, 5 row
abbrev l_z_board_1 : mS :=
  (mSeq (mSet 4 (mLc [5] (mIL (mVar 0)) (gN 5) (mTest (mOp pEq (mOp pIx (mVar 5) (mC (.int 0))) (mVar 3))) (mOp pIx (mVar 5) (mC (.int 1)))))
  (mDrop (mApp (mVar 2) (mCons (mTup (mCons (mCB (one pLow) (mCons (mVar 4) mNil)) (mCons (mCB (one pTop) (mCons (mVar 4) mNil)) mNil))) mNil))))
def b_z_board : mS :=
  (mSeq (mIfS (mTest (mOp pEq (mVar 0) (mLst mNil))) (mRet (mC .none)) mNext)
  (mSeq (mSet 1 (mLc [5] (mIL (mVar 0)) (gN 5) mYes (mOp pIx (mVar 5) (mC (.int 0)))))
  (mSeq (mSet 2 (mLst mNil))
  (mSeq (mFor (mIT (mTup (mCons (mCB (one pLow) (mCons (mVar 1) mNil)) (mCons (mCB (one pTop) (mCons (mVar 1) mNil)) mNil)))) (gN 3)
  l_z_board_1)
  (mSeq (mSet 4 (mLc [5] (mIL (mVar 0)) (gN 5) mYes (mOp pIx (mVar 5) (mC (.int 1)))))
  (mRet (mTup (mCons (mOp pIx (mVar 2) (mC (.int 0))) (mCons (mCB (one pTop) (mCons (mVar 4) mNil)) (mCons (mCB (one pLow) (mCons (mVar 4) mNil)) (mCons (mOp pIx (mVar 2) (mC (.int 1))) (mCons (mCB (one pSum) (mCons (mLc [5] (mIL (mVar 0)) (gN 5) mYes (mOp pIx (mVar 5) (mC (.int 2)))) mNil)) mNil))))))))))))
def f_z_board : mF := mDef 1 6 [1, 2, 3, 4] b_z_board
theorem d_z_board {a0 : O} {PF : O → List (Option O) → Prop} (h : W2 ((mSeq (mIfS (mTest (mOp pEq (mVar 0) (mLst mNil))) (mRet (mC .none)) mNext)
  (mSeq (mSet 1 (mLc [5] (mIL (mVar 0)) (gN 5) mYes (mOp pIx (mVar 5) (mC (.int 0)))))
  (mSeq (mSet 2 (mLst mNil))
  (mSeq (mFor (mIT (mTup (mCons (mCB (one pLow) (mCons (mVar 1) mNil)) (mCons (mCB (one pTop) (mCons (mVar 1) mNil)) mNil)))) (gN 3)
  l_z_board_1)
  (mSeq (mSet 4 (mLc [5] (mIL (mVar 0)) (gN 5) mYes (mOp pIx (mVar 5) (mC (.int 1)))))
  (mRet (mTup (mCons (mOp pIx (mVar 2) (mC (.int 0))) (mCons (mCB (one pTop) (mCons (mVar 4) mNil)) (mCons (mCB (one pLow) (mCons (mVar 4) mNil)) (mCons (mOp pIx (mVar 2) (mC (.int 1))) (mCons (mCB (one pSum) (mCons (mLc [5] (mIL (mVar 0)) (gN 5) mYes (mOp pIx (mVar 5) (mC (.int 2)))) mNil)) mNil)))))))))))) [some a0, none, none, none, none, none]) (DefK [1, 2, 3, 4] [a0] PF)) : W2 (f_z_board [a0]) PF := w_def rfl h
-- slots of _law_lates: 0 prints, 1 found, 2 k, 3 row
abbrev l_z_lates_1 : mS :=
  (mIfS (mTest (mOp pNe (mLc [3] (mIL (mSl (mVar 0) mNoPart (mPart (mVar 2)))) (gN 3) (mTest (mOp pGt (mOp pIx (mVar 3) (mC (.int 0))) (mOp pIx (mOp pIx (mVar 0) (mVar 2)) (mC (.int 0))))) (mVar 3)) (mLst mNil))) (mDrop (mApp (mVar 1) (mCons (mVar 2) mNil))) mNext)
def b_z_lates : mS :=
  (mSeq (mSet 1 (mLst mNil))
  (mSeq (mFor (mRng1 (mCons (mCB (one pLen) (mCons (mVar 0) mNil)) mNil)) (gN 2)
  l_z_lates_1)
  (mRet (mVar 1))))
def f_z_lates : mF := mDef 1 4 [1, 2] b_z_lates
theorem d_z_lates {a0 : O} {PF : O → List (Option O) → Prop} (h : W2 ((mSeq (mSet 1 (mLst mNil))
  (mSeq (mFor (mRng1 (mCons (mCB (one pLen) (mCons (mVar 0) mNil)) mNil)) (gN 2)
  l_z_lates_1)
  (mRet (mVar 1)))) [some a0, none, none, none]) (DefK [1, 2] [a0] PF)) : W2 (f_z_lates [a0]) PF := w_def rfl h
-- slots of board: 0 prints, 1 rows, 2 first, 3 last, 4 low, 5 high, 6 moment, 7 least, 8 greatest, 9 lots
def b_board : mS :=
  (mSeq (mSet 1 (mCall f_rows_of (mCons (mVar 0) mNil)))
  (mSeq (mIfS (mNot (mTru (mVar 1))) (mRet (mC .none)) mNext)
  (mSeq (mSet 2 (mSl (mOp pIx (mVar 1) (mC (.int 0))) (mPart (mC (.int 1))) (mPart (mC (.int 3)))))
  (mSeq (mSet 3 (mSl (mOp pIx (mVar 1) (mUn pNeg (mC (.int 1)))) (mPart (mC (.int 1))) (mPart (mC (.int 3)))))
  (mSeq (mSet 4 (mCB (one pLow) (mCons (mLc [6, 7, 8, 9] (mIL (mVar 1)) (gT 4 (gsC (gN 6) (gsC (gN 7) (gsC (gN 8) (gsC (gN 9) gsN))))) mYes (mVar 7)) mNil)))
  (mSeq (mSet 5 (mCB (one pTop) (mCons (mLc [6, 7, 8, 9] (mIL (mVar 1)) (gT 4 (gsC (gN 6) (gsC (gN 7) (gsC (gN 8) (gsC (gN 9) gsN))))) mYes (mVar 8)) mNil)))
  (mRet (mTup (mCons (mVar 2) (mCons (mVar 5) (mCons (mVar 4) (mCons (mVar 3) (mCons (mCB (one pSum) (mCons (mLc [6, 7, 8, 9] (mIL (mVar 1)) (gT 4 (gsC (gN 6) (gsC (gN 7) (gsC (gN 8) (gsC (gN 9) gsN))))) mYes (mVar 9)) mNil)) mNil)))))))))))))
def f_board : mF := mDef 1 10 [1, 2, 3, 4, 5] b_board
theorem d_board {a0 : O} {PF : O → List (Option O) → Prop} (h : W2 ((mSeq (mSet 1 (mCall f_rows_of (mCons (mVar 0) mNil)))
  (mSeq (mIfS (mNot (mTru (mVar 1))) (mRet (mC .none)) mNext)
  (mSeq (mSet 2 (mSl (mOp pIx (mVar 1) (mC (.int 0))) (mPart (mC (.int 1))) (mPart (mC (.int 3)))))
  (mSeq (mSet 3 (mSl (mOp pIx (mVar 1) (mUn pNeg (mC (.int 1)))) (mPart (mC (.int 1))) (mPart (mC (.int 3)))))
  (mSeq (mSet 4 (mCB (one pLow) (mCons (mLc [6, 7, 8, 9] (mIL (mVar 1)) (gT 4 (gsC (gN 6) (gsC (gN 7) (gsC (gN 8) (gsC (gN 9) gsN))))) mYes (mVar 7)) mNil)))
  (mSeq (mSet 5 (mCB (one pTop) (mCons (mLc [6, 7, 8, 9] (mIL (mVar 1)) (gT 4 (gsC (gN 6) (gsC (gN 7) (gsC (gN 8) (gsC (gN 9) gsN))))) mYes (mVar 8)) mNil)))
  (mRet (mTup (mCons (mVar 2) (mCons (mVar 5) (mCons (mVar 4) (mCons (mVar 3) (mCons (mCB (one pSum) (mCons (mLc [6, 7, 8, 9] (mIL (mVar 1)) (gT 4 (gsC (gN 6) (gsC (gN 7) (gsC (gN 8) (gsC (gN 9) gsN))))) mYes (mVar 9)) mNil)) mNil))))))))))))) [some a0, none, none, none, none, none, none, none, none, none]) (DefK [1, 2, 3, 4, 5] [a0] PF)) : W2 (f_board [a0]) PF := w_def rfl h
-- slots of _law_prints: 0 bag, 1 many, 2 found, 3 moment, 4 k, 5 price
abbrev l_z_prints_1 : mS :=
  (mSeq (mSet 3 (mCB (two pMax) (mCons (mC (.int 0)) (mCons (mOp pSub (mOp pAdd (mVar 3) (mCall f_z_take (mCons (mVar 0) (mCons (mC (.int 4)) mNil)))) (mC (.int 1))) mNil))))
  (mSeq (mSet 5 (mOp pIx (mLst (mCons (mOp pAdd (mC (.int 100)) (mCall f_z_take (mCons (mVar 0) (mCons (mC (.int 5)) mNil)))) (mCons (mCall f_z_take (mCons (mVar 0) (mCons (mOp pAdd (mOp pPow (mC (.int 10)) (mC (.int 9))) (mC (.int 1))) mNil))) mNil))) (mCB (one pInt) (mCons (mOp pEq (mCall f_z_take (mCons (mVar 0) (mCons (mC (.int 9)) mNil))) (mC (.int 0))) mNil))))
  (mDrop (mApp (mVar 2) (mCons (mTup (mCons (mVar 3) (mCons (mVar 5) (mCons (mOp pAdd (mC (.int 1)) (mCall f_z_take (mCons (mVar 0) (mCons (mOp pIx (mLst (mCons (mC (.int 4)) (mCons (mOp pPow (mC (.int 10)) (mC (.int 6))) mNil))) (mCB (one pInt) (mCons (mOp pEq (mCall f_z_take (mCons (mVar 0) (mCons (mC (.int 9)) mNil))) (mC (.int 0))) mNil))) mNil)))) mNil)))) mNil)))))
def b_z_prints : mS :=
  (mSeq (mSet 1 (mOp pIx (mLst (mCons (mCall f_z_take (mCons (mVar 0) (mCons (mC (.int 6)) mNil))) (mCons (mCall f_z_take (mCons (mVar 0) (mCons (mC (.int 61)) mNil))) (mCons (mCall f_z_take (mCons (mVar 0) (mCons (mC (.int 401)) mNil))) mNil)))) (mCB (two pMin) (mCons (mC (.int 2)) (mCons (mOp pDiv (mCall f_z_take (mCons (mVar 0) (mCons (mC (.int 5)) mNil))) (mC (.int 2))) mNil)))))
  (mSeq (mSet 2 (mLst mNil))
  (mSeq (mSet 3 (mCall f_z_take (mCons (mVar 0) (mCons (mC (.int 9)) mNil))))
  (mSeq (mFor (mRng1 (mCons (mVar 1) mNil)) (gN 4)
  l_z_prints_1)
  (mRet (mVar 2))))))
def f_z_prints : mF := mDef 1 6 [1, 2, 3, 4, 5] b_z_prints
theorem d_z_prints {a0 : O} {PF : O → List (Option O) → Prop} (h : W2 ((mSeq (mSet 1 (mOp pIx (mLst (mCons (mCall f_z_take (mCons (mVar 0) (mCons (mC (.int 6)) mNil))) (mCons (mCall f_z_take (mCons (mVar 0) (mCons (mC (.int 61)) mNil))) (mCons (mCall f_z_take (mCons (mVar 0) (mCons (mC (.int 401)) mNil))) mNil)))) (mCB (two pMin) (mCons (mC (.int 2)) (mCons (mOp pDiv (mCall f_z_take (mCons (mVar 0) (mCons (mC (.int 5)) mNil))) (mC (.int 2))) mNil)))))
  (mSeq (mSet 2 (mLst mNil))
  (mSeq (mSet 3 (mCall f_z_take (mCons (mVar 0) (mCons (mC (.int 9)) mNil))))
  (mSeq (mFor (mRng1 (mCons (mVar 1) mNil)) (gN 4)
  l_z_prints_1)
  (mRet (mVar 2)))))) [some a0, none, none, none, none, none]) (DefK [1, 2, 3, 4, 5] [a0] PF)) : W2 (f_z_prints [a0]) PF := w_def rfl h
-- slots of _law_shuffled: 0 bag, 1 some, 2 found, 3 one
abbrev l_z_shuffled_1 : mS :=
  (mDrop (mIns (mVar 2) (mCons (mCall f_z_take (mCons (mVar 0) (mCons (mOp pAdd (mCB (one pLen) (mCons (mVar 2) mNil)) (mC (.int 1))) mNil))) (mCons (mVar 3) mNil))))
def b_z_shuffled : mS :=
  (mSeq (mSet 2 (mLst mNil))
  (mSeq (mFor (mIL (mVar 1)) (gN 3)
  l_z_shuffled_1)
  (mRet (mVar 2))))
def f_z_shuffled : mF := mDef 2 4 [2, 3] b_z_shuffled
theorem d_z_shuffled {a0 a1 : O} {PF : O → List (Option O) → Prop} (h : W2 ((mSeq (mSet 2 (mLst mNil))
  (mSeq (mFor (mIL (mVar 1)) (gN 3)
  l_z_shuffled_1)
  (mRet (mVar 2)))) [some a0, some a1, none, none]) (DefK [2, 3] [a0, a1] PF)) : W2 (f_z_shuffled [a0, a1]) PF := w_def rfl h
-- slots of law: 0 script, 1 k, 2 bag, 3 prints, 4 first, 5 handed, 6 due, 7 some, 8 told
abbrev l_law_1 : mS :=
  (mDrop (mApp (mVar 8) (mCons (mC .none) mNil)))
abbrev l_law_2 : mS :=
  (mSeq (mIfS (mOr (mTest (mOp pNe (mLst (mCons (mCall f_board (mCons (mVar 7) mNil)) (mCons (mCall f_rows_of (mCons (mVar 7) mNil)) (mCons (mCall f_called_price (mCons (mVar 7) (mCons (mVar 4) mNil))) mNil)))) (mVar 6))) (mTest (mOp pNe (mCall f_lates (mCons (mVar 7) mNil)) (mCall f_z_lates (mCons (mVar 7) mNil))))) (mRet (mC (.bool false))) mNext)
  (mForO (mCons (mCall f_rows_of (mCons (mVar 7) mNil)) (mCons (mCall f_lates (mCons (mVar 7) mNil)) mNil)) (gN 8)
  l_law_1))
abbrev l_law_3 : mS :=
  (mSeq (mSet 2 (mCall f_z_bag (mCons (mVar 0) (mCons (mVar 1) mNil))))
  (mSeq (mSet 3 (mCall f_z_prints (mCons (mVar 2) mNil)))
  (mSeq (mSet 4 (mCall f_z_take (mCons (mVar 2) (mCons (mOp pAdd (mOp pPow (mC (.int 10)) (mC (.int 9))) (mC (.int 1))) mNil))))
  (mSeq (mSet 5 (mCB (one pList) (mCons (mVar 3) mNil)))
  (mSeq (mSet 6 (mLst (mCons (mCall f_z_board (mCons (mVar 3) mNil)) (mCons (mCall f_z_rows (mCons (mVar 3) mNil)) (mCons (mCall f_z_called (mCons (mVar 3) (mCons (mVar 4) mNil))) mNil)))))
  (mSeq (mFor (mIT (mTup (mCons (mVar 5) (mCons (mCall f_z_shuffled (mCons (mVar 2) (mCons (mVar 3) mNil))) (mCons (mVar 5) mNil))))) (gN 7)
  l_law_2)
  (mIfS (mTest (mOp pNe (mVar 5) (mVar 3))) (mRet (mC (.bool false))) mNext)))))))
def b_law : mS :=
  (mSeq (mFor (mRng1 (mCons (mOp pAdd (mC (.int 1)) (mCB (two pMin) (mCons (mCB (one pLen) (mCons (mVar 0) mNil)) (mCons (mC (.int 10)) mNil)))) mNil)) (gN 1)
  l_law_3)
  (mRet (mC (.bool true))))
def f_law : mF := mDef 1 9 [1, 2, 3, 4, 5, 6, 7, 8] b_law
theorem d_law {a0 : O} {PF : O → List (Option O) → Prop} (h : W2 ((mSeq (mFor (mRng1 (mCons (mOp pAdd (mC (.int 1)) (mCB (two pMin) (mCons (mCB (one pLen) (mCons (mVar 0) mNil)) (mCons (mC (.int 10)) mNil)))) mNil)) (gN 1)
  l_law_3)
  (mRet (mC (.bool true)))) [some a0, none, none, none, none, none, none, none, none]) (DefK [1, 2, 3, 4, 5, 6, 7, 8] [a0] PF)) : W2 (f_law [a0]) PF := w_def rfl h
end K10
namespace K10
open PySem PySem.Spec L2 Z M
def topS (i : Nat) : Stmt := PySem.Challenge.pw_palmhall_k10_the_board.main.body.getD i (.Pass ⟨0, 0, 0, 0⟩)
abbrev s_lates : Stmt := topS 1
abbrev n_lates : List Str := ["prints", "late", "latest", "place", "moment", "price", "count"]
abbrev p_lates : List Str := ["prints"]
theorem sc_lates : FnScope n_lates p_lates (defScope s_lates) := ⟨rfl, rfl, rfl, by decide +kernel, rfl, by decide +kernel, by decide +kernel⟩
abbrev s_board : Stmt := topS 2
abbrev n_board : List Str := ["prints", "rows", "first", "last", "low", "high", "moment", "least", "greatest", "lots"]
abbrev p_board : List Str := ["prints"]
theorem sc_board : FnScope n_board p_board (defScope s_board) := ⟨rfl, rfl, rfl, by decide +kernel, rfl, by decide +kernel, by decide +kernel⟩
abbrev s_rows_of : Stmt := topS 3
abbrev n_rows_of : List Str := ["prints", "rows", "moment", "price", "count", "least", "greatest", "lots"]
abbrev p_rows_of : List Str := ["prints"]
theorem sc_rows_of : FnScope n_rows_of p_rows_of (defScope s_rows_of) := ⟨rfl, rfl, rfl, by decide +kernel, rfl, by decide +kernel, by decide +kernel⟩
abbrev s_called_price : Stmt := topS 4
abbrev n_called_price : List Str := ["prints", "first", "latest", "lots", "moment", "price", "count", "many"]
abbrev p_called_price : List Str := ["prints", "first"]
theorem sc_called_price : FnScope n_called_price p_called_price (defScope s_called_price) := ⟨rfl, rfl, rfl, by decide +kernel, rfl, by decide +kernel, by decide +kernel⟩
abbrev s_z_rows : Stmt := topS 6
abbrev n_z_rows : List Str := ["prints", "found", "moment", "some", "prices", "row"]
abbrev p_z_rows : List Str := ["prints"]
theorem sc_z_rows : FnScope n_z_rows p_z_rows (defScope s_z_rows) := ⟨rfl, rfl, rfl, by decide +kernel, rfl, by decide +kernel, by decide +kernel⟩
abbrev s_z_bag : Stmt := topS 7
abbrev n_z_bag : List Str := ["script", "k", "cell"]
abbrev p_z_bag : List Str := ["script", "k"]
theorem sc_z_bag : FnScope n_z_bag p_z_bag (defScope s_z_bag) := ⟨rfl, rfl, rfl, by decide +kernel, rfl, by decide +kernel, by decide +kernel⟩
abbrev s_z_take : Stmt := topS 8
abbrev n_z_take : List Str := ["bag", "many", "found"]
abbrev p_z_take : List Str := ["bag", "many"]
theorem sc_z_take : FnScope n_z_take p_z_take (defScope s_z_take) := ⟨rfl, rfl, rfl, by decide +kernel, rfl, by decide +kernel, by decide +kernel⟩
abbrev s_z_prints : Stmt := topS 9
abbrev n_z_prints : List Str := ["bag", "many", "found", "moment", "k", "price"]
abbrev p_z_prints : List Str := ["bag"]
theorem sc_z_prints : FnScope n_z_prints p_z_prints (defScope s_z_prints) := ⟨rfl, rfl, rfl, by decide +kernel, rfl, by decide +kernel, by decide +kernel⟩
abbrev s_z_shuffled : Stmt := topS 10
abbrev n_z_shuffled : List Str := ["bag", "some", "found", "one"]
abbrev p_z_shuffled : List Str := ["bag", "some"]
theorem sc_z_shuffled : FnScope n_z_shuffled p_z_shuffled (defScope s_z_shuffled) := ⟨rfl, rfl, rfl, by decide +kernel, rfl, by decide +kernel, by decide +kernel⟩
abbrev s_z_called : Stmt := topS 11
abbrev n_z_called : List Str := ["prints", "first", "latest", "best", "row", "lots", "other"]
abbrev p_z_called : List Str := ["prints", "first"]
theorem sc_z_called : FnScope n_z_called p_z_called (defScope s_z_called) := ⟨rfl, rfl, rfl, by decide +kernel, rfl, by decide +kernel, by decide +kernel⟩
abbrev s_z_board : Stmt := topS 12
abbrev n_z_board : List Str := ["prints", "moments", "ends", "moment", "prices", "row"]
abbrev p_z_board : List Str := ["prints"]
theorem sc_z_board : FnScope n_z_board p_z_board (defScope s_z_board) := ⟨rfl, rfl, rfl, by decide +kernel, rfl, by decide +kernel, by decide +kernel⟩
abbrev s_z_lates : Stmt := topS 13
abbrev n_z_lates : List Str := ["prints", "found", "k", "row"]
abbrev p_z_lates : List Str := ["prints"]
theorem sc_z_lates : FnScope n_z_lates p_z_lates (defScope s_z_lates) := ⟨rfl, rfl, rfl, by decide +kernel, rfl, by decide +kernel, by decide +kernel⟩
abbrev s_law : Stmt := topS 14
abbrev n_law : List Str := ["script", "k", "bag", "prints", "first", "handed", "due", "some", "told"]
abbrev p_law : List Str := ["script"]
theorem sc_law : FnScope n_law p_law (defScope s_law) := ⟨rfl, rfl, rfl, by decide +kernel, rfl, by decide +kernel, by decide +kernel⟩
section
variable {P : Program} {w : World} {K : PySem.W.Frag} {mg : Str → Option Value} {base : Heap}
theorem ok_lates {f : Addr} {fd : FuncData} (Fn : Fun K "lates" "lates" s_lates f fd) (m_enumerate : mg "enumerate" = none) : FnOk P w K mg base CX0 1 f fd p_lates (conc (saM K 1 f_lates)) := by
  refine Fn.ok sc_lates (fun vs H Q E h => saM_len h) (fun cdv Ar outer s H vs Q E hr h => ⟨_, (pss_cons (ps_set (i := 1) sc_lates.nd rfl (by first | exact Or.inl rfl | exact Or.inr rfl) (pe_lst pa_nil))
  (pss_cons (ps_set (i := 2) sc_lates.nd rfl (by first | exact Or.inl rfl | exact Or.inr rfl) pe_int)
  (pss_cons (ps_for PassesOwn.never rfl (pi_enumA K rfl (by rfl) m_enumerate (pa_cons (pv 0) pa_nil)) (kpg_tup (n := 2) K rfl (by rfl) (pgs_cons (pg_name (i := 3) sc_lates.nd rfl (by first | exact Or.inl rfl | exact Or.inr rfl)) (pgs_cons (kpg_tup (n := 3) K rfl (by rfl) (pgs_cons (pg_name (i := 4) sc_lates.nd rfl (by first | exact Or.inl rfl | exact Or.inr rfl)) (pgs_cons (pg_name (i := 5) sc_lates.nd rfl (by first | exact Or.inl rfl | exact Or.inr rfl)) (pgs_cons (pg_name (i := 6) sc_lates.nd rfl (by first | exact Or.inl rfl | exact Or.inr rfl)) pgs_nil)))) pgs_nil)))
  (pss_one (ps_if (pt_cmpR oLt (pv 4) (pv 2) (nomark _)) (pss_one (ps_expr (pe_bm PySem.F.plainAttrs_list PySem.F.slot_list_append PySem.F.type_list_append mt_append (pv 1) (pa_cons (pv 3) pa_nil)))) (pss_one (ps_set (i := 2) sc_lates.nd rfl (by first | exact Or.inl rfl | exact Or.inr rfl) (pv 4))))))
  (pss_one (ps_ret (pv 1)))))), ?_⟩)
  exact body_ok (W := [1, 2, 3, 4, 5, 6]) (mb := b_lates) (show SnS K [1, 2, 3, 4, 5, 6] _ b_lates from (ss_seq (ss_set (by decide) (sn_lst sn_nil))
  (ss_seq (ss_set (by decide) sn_int)
  (ss_seq (ss_for (si_enum (sn_cons (sn_var 0) sn_nil)) (sg_tup (sg_cons (sg_name (by decide)) (sg_cons (sg_tup (sg_cons (sg_name (by decide)) (sg_cons (sg_name (by decide)) (sg_cons (sg_name (by decide)) sg_nil)))) sg_nil)))
  (ss_if (snT_test (sn_op om_lt (sn_var 4) (sn_var 2))) (ss_drop (sn_app (sn_var 1) (sn_cons (sn_var 3) sn_nil))) (ss_set (by decide) (sn_var 4))))
  (ss_ret (sn_var 1)))))) rfl h
theorem ok_rows_of {f : Addr} {fd : FuncData} (Fn : Fun K "rows_of" "rows_of" s_rows_of f fd) (m_min : mg "min" = none) (m_max : mg "max" = none) (m_sorted : mg "sorted" = none) : FnOk P w K mg base CX0 1 f fd p_rows_of (conc (saM K 1 f_rows_of)) := by
  refine Fn.ok sc_rows_of (fun vs H Q E h => saM_len h) (fun cdv Ar outer s H vs Q E hr h => ⟨_, (pss_cons (ps_set (i := 1) sc_rows_of.nd rfl (by first | exact Or.inl rfl | exact Or.inr rfl) pe_dnewK)
  (pss_cons (ps_for PassesOwn.never rfl (kpi_list K rfl (pv 0)) (kpg_tup (n := 3) K rfl (by rfl) (pgs_cons (pg_name (i := 2) sc_rows_of.nd rfl (by first | exact Or.inl rfl | exact Or.inr rfl)) (pgs_cons (pg_name (i := 3) sc_rows_of.nd rfl (by first | exact Or.inl rfl | exact Or.inr rfl)) (pgs_cons (pg_name (i := 4) sc_rows_of.nd rfl (by first | exact Or.inl rfl | exact Or.inr rfl)) pgs_nil))))
  (pss_cons (ps_asg (pe_dget2 (units_1 hr) (pv 1) (pv 2) (pe_tup (pa_cons (pv 3) (pa_cons (pv 3) (pa_cons pe_int pa_nil)))) ⟨by rfl, by rfl, by rfl, by rfl⟩) (kpg_tup (n := 3) K rfl (by rfl) (pgs_cons (pg_name (i := 5) sc_rows_of.nd rfl (by first | exact Or.inl rfl | exact Or.inr rfl)) (pgs_cons (pg_name (i := 6) sc_rows_of.nd rfl (by first | exact Or.inl rfl | exact Or.inr rfl)) (pgs_cons (pg_name (i := 7) sc_rows_of.nd rfl (by first | exact Or.inl rfl | exact Or.inr rfl)) pgs_nil)))))
  (pss_one (ps_dput (units_1 hr) (pv 1) (pv 2) (pe_tup (pa_cons (pe_callB (kMin K rfl rfl) (by rfl) m_min (by decide +kernel) (pa_cons (pv 5) (pa_cons (pv 3) pa_nil))) (pa_cons (pe_callB (kMax K rfl rfl) (by rfl) m_max (by decide +kernel) (pa_cons (pv 6) (pa_cons (pv 3) pa_nil))) (pa_cons (pe_op (kAdd K rfl) (pv 7) (pv 4)) pa_nil)))) (by rfl)))))
  (pss_one (ps_ret (pe_lc (own := [("moment", 2)]) rfl sc_rows_of.nd (kpi_list K rfl (pe_callB (cr_sortK rfl (units_in hr)) (by rfl) m_sorted (by decide +kernel) (pa_cons (pv 1) pa_nil))) (blkOk_by (N := n_rows_of) (sc := defScope s_rows_of) (by decide +kernel)) (fun _ _ _ _ _ => (pg_name (i := 2) sc_rows_of.nd rfl (by first | exact Or.inl rfl | exact Or.inr rfl))) (fun _ _ _ _ _ => pts_nil) (fun _ _ _ _ _ => (pe_op (kAdd K rfl) (pe_tup (pa_cons (pv 2) pa_nil)) (pe_dget (units_1 hr) (pv 1) (pv 2) (fun _ _ => rfl))))))))), ?_⟩)
  exact body_ok (W := [1, 2, 3, 4, 5, 6, 7]) (mb := b_rows_of) (show SnS K [1, 2, 3, 4, 5, 6, 7] _ b_rows_of from (ss_seq (ss_set (by decide) sn_dnew)
  (ss_seq (ss_for (si_list (sn_var 0)) (sg_tup (sg_cons (sg_name (by decide)) (sg_cons (sg_name (by decide)) (sg_cons (sg_name (by decide)) sg_nil))))
  (ss_seq (ss_asg (sn_dget2 (sn_var 1) (sn_var 2) (sn_tup (sn_cons (sn_var 3) (sn_cons (sn_var 3) (sn_cons sn_int sn_nil))))) (sg_tup (sg_cons (sg_name (by decide)) (sg_cons (sg_name (by decide)) (sg_cons (sg_name (by decide)) sg_nil)))))
  (ss_dput (sn_var 1) (sn_var 2) (sn_tup (sn_cons (sn_cb cm_min (sn_cons (sn_var 5) (sn_cons (sn_var 3) sn_nil))) (sn_cons (sn_cb cm_max (sn_cons (sn_var 6) (sn_cons (sn_var 3) sn_nil))) (sn_cons (sn_op om_add (sn_var 7) (sn_var 4)) sn_nil)))))))
  (ss_ret (sn_lc (vs := [2]) (si_list (sn_sortK (sn_cons (sn_var 1) sn_nil))) (sg_name (by decide)) snT_yes (sn_op om_add (sn_tup (sn_cons (sn_var 2) sn_nil)) (sn_dix (sn_var 1) (sn_var 2)))))))) rfl h
theorem ok_called_price {f : Addr} {fd : FuncData} (Fn : Fun K "called_price" "called_price" s_called_price f fd) (m_max : mg "max" = none) : FnOk P w K mg base CX0 1 f fd p_called_price (conc (saM K 2 f_called_price)) := by
  refine Fn.ok sc_called_price (fun vs H Q E h => saM_len h) (fun cdv Ar outer s H vs Q E hr h => ⟨_, (pss_cons (ps_if (pt_not (kTru (K := K) rfl (pv 0) (by intro _; rfl))) (pss_one (ps_ret (pv 1))) pss_nil)
  (pss_cons (ps_set (i := 2) sc_called_price.nd rfl (by first | exact Or.inl rfl | exact Or.inr rfl) (pe_callB (kMax K rfl rfl) (by rfl) m_max (by decide +kernel) (pa_cons (pe_lc (own := [("moment", 4), ("price", 5), ("count", 6)]) rfl sc_called_price.nd (kpi_list K rfl (pv 0)) (blkOk_by (N := n_called_price) (sc := defScope s_called_price) (by decide +kernel)) (fun _ _ _ _ _ => (kpg_tup (n := 3) K rfl (by rfl) (pgs_cons (pg_name (i := 4) sc_called_price.nd rfl (by first | exact Or.inl rfl | exact Or.inr rfl)) (pgs_cons (pg_name (i := 5) sc_called_price.nd rfl (by first | exact Or.inl rfl | exact Or.inr rfl)) (pgs_cons (pg_name (i := 6) sc_called_price.nd rfl (by first | exact Or.inl rfl | exact Or.inr rfl)) pgs_nil))))) (fun _ _ _ _ _ => pts_nil) (fun _ _ _ _ _ => (pv 4))) pa_nil)))
  (pss_cons (ps_set (i := 3) sc_called_price.nd rfl (by first | exact Or.inl rfl | exact Or.inr rfl) pe_dnewK)
  (pss_cons (ps_for PassesOwn.never rfl (kpi_list K rfl (pv 0)) (kpg_tup (n := 3) K rfl (by rfl) (pgs_cons (pg_name (i := 4) sc_called_price.nd rfl (by first | exact Or.inl rfl | exact Or.inr rfl)) (pgs_cons (pg_name (i := 5) sc_called_price.nd rfl (by first | exact Or.inl rfl | exact Or.inr rfl)) (pgs_cons (pg_name (i := 6) sc_called_price.nd rfl (by first | exact Or.inl rfl | exact Or.inr rfl)) pgs_nil))))
  (pss_one (ps_if (pt_cmpR (kEq K rfl hr.units) (pv 4) (pv 2) (nomark _)) (pss_one (ps_dput (units_1 hr) (pv 3) (pv 5) (pe_op (kAdd K rfl) (pe_dget2 (units_1 hr) (pv 3) (pv 5) pe_int ⟨by rfl, by rfl, by rfl, by rfl⟩) (pv 6)) (by rfl))) pss_nil)))
  (pss_one (ps_ret (pe_ix (kIx K rfl) (pe_callB (cr_topD (K := K) rfl rfl (units_in hr)) (by rfl) m_max (by decide +kernel) (pa_cons (pe_lock (pe_lc (own := [("price", 5), ("many", 7)]) rfl sc_called_price.nd (pi_items (pv 3)) (blkOk_by (N := n_called_price) (sc := defScope s_called_price) (by decide +kernel)) (fun _ _ _ _ _ => (kpg_tup (n := 2) K rfl (by rfl) (pgs_cons (pg_name (i := 5) sc_called_price.nd rfl (by first | exact Or.inl rfl | exact Or.inr rfl)) (pgs_cons (pg_name (i := 7) sc_called_price.nd rfl (by first | exact Or.inl rfl | exact Or.inr rfl)) pgs_nil)))) (fun _ _ _ _ _ => pts_nil) (fun _ _ _ _ _ => (pe_tup (pa_cons (pv 7) (pa_cons (pv 5) pa_nil)))))) pa_nil)) pe_int (fun _ _ => rfl)))))))), ?_⟩)
  exact body_ok (W := [2, 3, 4, 5, 6]) (mb := b_called_price) (show SnS K [2, 3, 4, 5, 6] _ b_called_price from (ss_seq (ss_if (snT_not (snT_tru (sn_var 0))) (ss_ret (sn_var 1)) ss_next)
  (ss_seq (ss_set (by decide) (sn_cb cm_top (sn_cons (sn_lc (vs := [4, 5, 6]) (si_list (sn_var 0)) (sg_tup (sg_cons (sg_name (by decide)) (sg_cons (sg_name (by decide)) (sg_cons (sg_name (by decide)) sg_nil)))) snT_yes (sn_var 4)) sn_nil)))
  (ss_seq (ss_set (by decide) sn_dnew)
  (ss_seq (ss_for (si_list (sn_var 0)) (sg_tup (sg_cons (sg_name (by decide)) (sg_cons (sg_name (by decide)) (sg_cons (sg_name (by decide)) sg_nil))))
  (ss_if (snT_test (sn_op om_eq (sn_var 4) (sn_var 2))) (ss_dput (sn_var 3) (sn_var 5) (sn_op om_add (sn_dget2 (sn_var 3) (sn_var 5) sn_int) (sn_var 6))) ss_next))
  (ss_ret (sn_op om_ix (sn_cb cm_bestD (sn_cons (sn_lock (i := 3) (sn_lc (vs := [5, 7]) (si_items (sn_var 3)) (sg_tup (sg_cons (sg_name (by decide)) (sg_cons (sg_name (by decide)) sg_nil))) snT_yes (sn_tup (sn_cons (sn_var 7) (sn_cons (sn_var 5) sn_nil))))) sn_nil)) sn_int))))))) rfl h
theorem ok_z_rows {f : Addr} {fd : FuncData} (Fn : Fun K "_law_rows" "_law_rows" s_z_rows f fd) (m_sorted : mg "sorted" = none) (m_set : mg "set" = none) (m_min : mg "min" = none) (m_max : mg "max" = none) (m_sum : mg "sum" = none) : FnOk P w K mg base CX0 1 f fd p_z_rows (conc (saM K 1 f_z_rows)) := by
  refine Fn.ok sc_z_rows (fun vs H Q E h => saM_len h) (fun cdv Ar outer s H vs Q E hr h => ⟨_, (pss_cons (ps_set (i := 1) sc_z_rows.nd rfl (by first | exact Or.inl rfl | exact Or.inr rfl) (pe_lst pa_nil))
  (pss_cons (ps_for PassesOwn.never rfl (kpi_list K rfl (pe_setSort (K := K) rfl rfl (by rfl) m_sorted (by rfl) m_set (pa_cons (pe_lc (own := [("row", 5)]) rfl sc_z_rows.nd (kpi_list K rfl (pv 0)) (blkOk_by (N := n_z_rows) (sc := defScope s_z_rows) (by decide +kernel)) (fun _ _ _ _ _ => (pg_name (i := 5) sc_z_rows.nd rfl (by first | exact Or.inl rfl | exact Or.inr rfl))) (fun _ _ _ _ _ => pts_nil) (fun _ _ _ _ _ => (pe_ix (kIx K rfl) (pv 5) pe_int (fun _ _ => rfl)))) pa_nil))) (pg_name (i := 2) sc_z_rows.nd rfl (by first | exact Or.inl rfl | exact Or.inr rfl))
  (pss_cons (ps_setLc (i := 3) (own := [("row", 5)]) rfl sc_z_rows.nd rfl rfl (sw_true rfl rfl rfl (by decide +kernel)) (kpi_list K rfl (pv 0)) (blkOk_by (N := n_z_rows) (sc := defScope s_z_rows) (by decide +kernel)) (fun _ _ _ _ _ => (pg_name (i := 5) sc_z_rows.nd rfl (by first | exact Or.inl rfl | exact Or.inr rfl))) (fun _ _ _ _ _ => (pts_one (pt_cmpR (kEq K rfl hr.units) (pe_ix (kIx K rfl) (pv 5) pe_int (fun _ _ => rfl)) (pv 2) (nomark _)))) (fun _ _ _ _ _ => (pv 5)))
  (pss_cons (ps_setLc (i := 4) (own := [("row", 5)]) rfl sc_z_rows.nd rfl rfl (sw_true rfl rfl rfl (by decide +kernel)) (kpi_list K rfl (pv 3)) (blkOk_by (N := n_z_rows) (sc := defScope s_z_rows) (by decide +kernel)) (fun _ _ _ _ _ => (pg_name (i := 5) sc_z_rows.nd rfl (by first | exact Or.inl rfl | exact Or.inr rfl))) (fun _ _ _ _ _ => pts_nil) (fun _ _ _ _ _ => (pe_ix (kIx K rfl) (pv 5) pe_int (fun _ _ => rfl))))
  (pss_one (ps_expr (pe_bm PySem.F.plainAttrs_list PySem.F.slot_list_append PySem.F.type_list_append mt_append (pv 1) (pa_cons (pe_tup (pa_cons (pv 2) (pa_cons (pe_callB (kMin K rfl rfl) (by rfl) m_min (by decide +kernel) (pa_cons (pv 4) pa_nil)) (pa_cons (pe_callB (kMax K rfl rfl) (by rfl) m_max (by decide +kernel) (pa_cons (pv 4) pa_nil)) (pa_cons (pe_callB (kSum K rfl rfl) (by rfl) m_sum (by decide +kernel) (pa_cons (pe_lc (own := [("row", 5)]) rfl sc_z_rows.nd (kpi_list K rfl (pv 3)) (blkOk_by (N := n_z_rows) (sc := defScope s_z_rows) (by decide +kernel)) (fun _ _ _ _ _ => (pg_name (i := 5) sc_z_rows.nd rfl (by first | exact Or.inl rfl | exact Or.inr rfl))) (fun _ _ _ _ _ => pts_nil) (fun _ _ _ _ _ => (pe_ix (kIx K rfl) (pv 5) pe_int (fun _ _ => rfl)))) pa_nil)) pa_nil))))) pa_nil)))))))
  (pss_one (ps_ret (pv 1))))), ?_⟩)
  exact body_ok (W := [1, 2, 3, 4]) (mb := b_z_rows) (show SnS K [1, 2, 3, 4] _ b_z_rows from (ss_seq (ss_set (by decide) (sn_lst sn_nil))
  (ss_seq (ss_for (si_list (sn_cb cm_setSort (sn_cons (sn_lc (vs := [5]) (si_list (sn_var 0)) (sg_name (by decide)) snT_yes (sn_op om_ix (sn_var 5) sn_int)) sn_nil))) (sg_name (by decide))
  (ss_seq (ss_set (by decide) (sn_lc (vs := [5]) (si_list (sn_var 0)) (sg_name (by decide)) (snT_test (sn_op om_eq (sn_op om_ix (sn_var 5) sn_int) (sn_var 2))) (sn_var 5)))
  (ss_seq (ss_set (by decide) (sn_lc (vs := [5]) (si_list (sn_var 3)) (sg_name (by decide)) snT_yes (sn_op om_ix (sn_var 5) sn_int)))
  (ss_drop (sn_app (sn_var 1) (sn_cons (sn_tup (sn_cons (sn_var 2) (sn_cons (sn_cb cm_low (sn_cons (sn_var 4) sn_nil)) (sn_cons (sn_cb cm_top (sn_cons (sn_var 4) sn_nil)) (sn_cons (sn_cb cm_sum (sn_cons (sn_lc (vs := [5]) (si_list (sn_var 3)) (sg_name (by decide)) snT_yes (sn_op om_ix (sn_var 5) sn_int)) sn_nil)) sn_nil))))) sn_nil))))))
  (ss_ret (sn_var 1))))) rfl h
theorem ok_z_bag {f : Addr} {fd : FuncData} (Fn : Fun K "_law_bag" "_law_bag" s_z_bag f fd) (m_len : mg "len" = none) : FnOk P w K mg base CX0 1 f fd p_z_bag (conc (saM K 2 f_z_bag)) := by
  refine Fn.ok sc_z_bag (fun vs H Q E h => saM_len h) (fun cdv Ar outer s H vs Q E hr h => ⟨_, (pss_cons (ps_set (i := 2) sc_z_bag.nd rfl (by first | exact Or.inl rfl | exact Or.inr rfl) pe_int)
  (pss_cons (ps_if (pt_cmpR oLt (pv 1) (pe_callB (kLen K rfl) (by rfl) m_len (by decide +kernel) (pa_cons (pv 0) pa_nil)) (nomark _)) (pss_one (ps_set (i := 2) sc_z_bag.nd rfl (by first | exact Or.inl rfl | exact Or.inr rfl) (pe_op oMod (pe_ix (kIx K rfl) (pv 0) (pv 1) (fun _ _ => rfl)) (pe_op oMul (pe_op oPow pe_int pe_int) (pe_op oPow pe_int pe_int))))) pss_nil)
  (pss_cons (ps_if (pt_cmpR oLt (pv 2) (pe_op oPow pe_int pe_int) (nomark _)) (pss_one (ps_ret (pe_lst (pa_cons pe_int (pa_cons (pe_op (kAdd K rfl) pe_int (pe_op oMod (pe_op (kAdd K rfl) (pe_op oMul (pv 2) pe_int) (pe_op oMul pe_int (pv 1))) pe_int)) pa_nil))))) pss_nil)
  (pss_one (ps_ret (pe_lst (pa_cons (pv 2) (pa_cons (pe_op (kAdd K rfl) pe_int (pe_op oMod (pe_op (kAdd K rfl) (pv 2) (pv 1)) pe_int)) pa_nil)))))))), ?_⟩)
  exact body_ok (W := [2]) (mb := b_z_bag) (show SnS K [2] _ b_z_bag from (ss_seq (ss_set (by decide) sn_int)
  (ss_seq (ss_if (snT_test (sn_op om_lt (sn_var 1) (sn_cb cm_len (sn_cons (sn_var 0) sn_nil)))) (ss_set (by decide) (sn_op om_mod (sn_op om_ix (sn_var 0) (sn_var 1)) (sn_op om_mul (sn_op om_pow sn_int sn_int) (sn_op om_pow sn_int sn_int)))) ss_next)
  (ss_seq (ss_if (snT_test (sn_op om_lt (sn_var 2) (sn_op om_pow sn_int sn_int))) (ss_ret (sn_lst (sn_cons sn_int (sn_cons (sn_op om_add sn_int (sn_op om_mod (sn_op om_add (sn_op om_mul (sn_var 2) sn_int) (sn_op om_mul sn_int (sn_var 1))) sn_int)) sn_nil)))) ss_next)
  (ss_ret (sn_lst (sn_cons (sn_var 2) (sn_cons (sn_op om_add sn_int (sn_op om_mod (sn_op om_add (sn_var 2) (sn_var 1)) sn_int)) sn_nil)))))))) rfl h
theorem ok_z_take {f : Addr} {fd : FuncData} (Fn : Fun K "_law_take" "_law_take" s_z_take f fd)  : FnOk P w K mg base CX0 1 f fd p_z_take (conc (saM K 2 f_z_take)) := by
  refine Fn.ok sc_z_take (fun vs H Q E h => saM_len h) (fun cdv Ar outer s H vs Q E hr h => ⟨_, (pss_cons (ps_if (pt_cmpR oGt (pe_ix (kIx K rfl) (pv 0) pe_int (fun _ _ => rfl)) pe_int (nomark _)) (pss_cons (ps_set (i := 2) sc_z_take.nd rfl (by first | exact Or.inl rfl | exact Or.inr rfl) (pe_op oMod (pe_ix (kIx K rfl) (pv 0) pe_int (fun _ _ => rfl)) (pv 1)))
  (pss_cons (ps_asg (pe_op oDiv (pe_ix (kIx K rfl) (pv 0) pe_int (fun _ _ => rfl)) (pv 1)) (pg_sub (pv 0) pe_int set_list))
  (pss_one (ps_ret (pv 2))))) pss_nil)
  (pss_cons (ps_asg (pe_op oMod (pe_op oMul (pe_ix (kIx K rfl) (pv 0) pe_int (fun _ _ => rfl)) pe_int) pe_int) (pg_sub (pv 0) pe_int set_list))
  (pss_one (ps_ret (pe_op oMod (pe_op oDiv (pe_op oMod (pe_op oMul (pe_ix (kIx K rfl) (pv 0) pe_int (fun _ _ => rfl)) (pe_ix (kIx K rfl) (pv 0) pe_int (fun _ _ => rfl))) pe_int) pe_int) (pv 1)))))), ?_⟩)
  exact body_ok (W := [2]) (mb := b_z_take) (show SnS K [2] _ b_z_take from (ss_seq (ss_if (snT_test (sn_op om_gt (sn_op om_ix (sn_var 0) sn_int) sn_int)) (ss_seq (ss_set (by decide) (sn_op om_mod (sn_op om_ix (sn_var 0) sn_int) (sn_var 1)))
  (ss_seq (ss_putIx (sn_var 0) sn_int (sn_op om_div (sn_op om_ix (sn_var 0) sn_int) (sn_var 1)))
  (ss_ret (sn_var 2)))) ss_next)
  (ss_seq (ss_putIx (sn_var 0) sn_int (sn_op om_mod (sn_op om_mul (sn_op om_ix (sn_var 0) sn_int) sn_int) sn_int))
  (ss_ret (sn_op om_mod (sn_op om_div (sn_op om_mod (sn_op om_mul (sn_op om_ix (sn_var 0) sn_int) (sn_op om_ix (sn_var 0) sn_int)) sn_int) sn_int) (sn_var 1)))))) rfl h
theorem ok_z_called {f : Addr} {fd : FuncData} (Fn : Fun K "_law_called" "_law_called" s_z_called f fd) (m_max : mg "max" = none) (m_sum : mg "sum" = none) : FnOk P w K mg base CX0 1 f fd p_z_called (conc (saM K 2 f_z_called)) := by
  refine Fn.ok sc_z_called (fun vs H Q E h => saM_len h) (fun cdv Ar outer s H vs Q E hr h => ⟨_, (pss_cons (ps_if (pt_cmpR (kEq K rfl hr.units) (pv 0) (pe_lst pa_nil) (nomark _)) (pss_one (ps_ret (pv 1))) pss_nil)
  (pss_cons (ps_set (i := 2) sc_z_called.nd rfl (by first | exact Or.inl rfl | exact Or.inr rfl) (pe_callB (kMax K rfl rfl) (by rfl) m_max (by decide +kernel) (pa_cons (pe_lc (own := [("row", 4)]) rfl sc_z_called.nd (kpi_list K rfl (pv 0)) (blkOk_by (N := n_z_called) (sc := defScope s_z_called) (by decide +kernel)) (fun _ _ _ _ _ => (pg_name (i := 4) sc_z_called.nd rfl (by first | exact Or.inl rfl | exact Or.inr rfl))) (fun _ _ _ _ _ => pts_nil) (fun _ _ _ _ _ => (pe_ix (kIx K rfl) (pv 4) pe_int (fun _ _ => rfl)))) pa_nil)))
  (pss_cons (ps_set (i := 3) sc_z_called.nd rfl (by first | exact Or.inl rfl | exact Or.inr rfl) (pe_tup (pa_cons pe_int (pa_cons pe_int pa_nil))))
  (pss_cons (ps_for PassesOwn.never rfl (kpi_list K rfl (pv 0)) (pg_name (i := 4) sc_z_called.nd rfl (by first | exact Or.inl rfl | exact Or.inr rfl))
  (pss_one (ps_if (pt_cmpR (kEq K rfl hr.units) (pe_ix (kIx K rfl) (pv 4) pe_int (fun _ _ => rfl)) (pv 2) (nomark _)) (pss_cons (ps_set (i := 5) sc_z_called.nd rfl (by first | exact Or.inl rfl | exact Or.inr rfl) (pe_callB (kSum K rfl rfl) (by rfl) m_sum (by decide +kernel) (pa_cons (pe_lc (own := [("other", 6)]) rfl sc_z_called.nd (kpi_list K rfl (pv 0)) (blkOk_by (N := n_z_called) (sc := defScope s_z_called) (by decide +kernel)) (fun _ _ _ _ _ => (pg_name (i := 6) sc_z_called.nd rfl (by first | exact Or.inl rfl | exact Or.inr rfl))) (fun _ _ _ _ _ => (pts_one (PW.pt (pw_and (pt_cmpR (kEq K rfl hr.units) (pe_ix (kIx K rfl) (pv 6) pe_int (fun _ _ => rfl)) (pv 2) (nomark _)) (pw_and1 (pt_cmpR (kEq K rfl hr.units) (pe_ix (kIx K rfl) (pv 6) pe_int (fun _ _ => rfl)) (pe_ix (kIx K rfl) (pv 4) pe_int (fun _ _ => rfl)) (nomark _))))))) (fun _ _ _ _ _ => (pe_ix (kIx K rfl) (pv 6) pe_int (fun _ _ => rfl)))) pa_nil)))
  (pss_one (ps_set (i := 3) sc_z_called.nd rfl (by first | exact Or.inl rfl | exact Or.inr rfl) (pe_callB (cr_max2D (K := K) rfl rfl (units_in hr)) (by rfl) m_max (by decide +kernel) (pa_cons (pv 3) (pa_cons (pe_tup (pa_cons (pv 5) (pa_cons (pe_ix (kIx K rfl) (pv 4) pe_int (fun _ _ => rfl)) pa_nil))) pa_nil)))))) pss_nil)))
  (pss_one (ps_ret (pe_ix (kIx K rfl) (pv 3) pe_int (fun _ _ => rfl)))))))), ?_⟩)
  exact body_ok (W := [2, 3, 4, 5]) (mb := b_z_called) (show SnS K [2, 3, 4, 5] _ b_z_called from (ss_seq (ss_if (snT_test (sn_op om_eq (sn_var 0) (sn_lst sn_nil))) (ss_ret (sn_var 1)) ss_next)
  (ss_seq (ss_set (by decide) (sn_cb cm_top (sn_cons (sn_lc (vs := [4]) (si_list (sn_var 0)) (sg_name (by decide)) snT_yes (sn_op om_ix (sn_var 4) sn_int)) sn_nil)))
  (ss_seq (ss_set (by decide) (sn_tup (sn_cons sn_int (sn_cons sn_int sn_nil))))
  (ss_seq (ss_for (si_list (sn_var 0)) (sg_name (by decide))
  (ss_if (snT_test (sn_op om_eq (sn_op om_ix (sn_var 4) sn_int) (sn_var 2))) (ss_seq (ss_set (by decide) (sn_cb cm_sum (sn_cons (sn_lc (vs := [6]) (si_list (sn_var 0)) (sg_name (by decide)) (snT_and (snT_test (sn_op om_eq (sn_op om_ix (sn_var 6) sn_int) (sn_var 2))) (snT_test (sn_op om_eq (sn_op om_ix (sn_var 6) sn_int) (sn_op om_ix (sn_var 4) sn_int)))) (sn_op om_ix (sn_var 6) sn_int)) sn_nil)))
  (ss_set (by decide) (sn_cb cm_max2D (sn_cons (sn_var 3) (sn_cons (sn_tup (sn_cons (sn_var 5) (sn_cons (sn_op om_ix (sn_var 4) sn_int) sn_nil))) sn_nil))))) ss_next))
  (ss_ret (sn_op om_ix (sn_var 3) sn_int))))))) rfl h
theorem ok_z_board {f : Addr} {fd : FuncData} (Fn : Fun K "_law_board" "_law_board" s_z_board f fd) (m_min : mg "min" = none) (m_max : mg "max" = none) (m_sum : mg "sum" = none) : FnOk P w K mg base CX0 1 f fd p_z_board (conc (saM K 1 f_z_board)) := by
  refine Fn.ok sc_z_board (fun vs H Q E h => saM_len h) (fun cdv Ar outer s H vs Q E hr h => ⟨_, (pss_cons (ps_if (pt_cmpR (kEq K rfl hr.units) (pv 0) (pe_lst pa_nil) (nomark _)) (pss_one (ps_ret pe_non)) pss_nil)
  (pss_cons (ps_setLc (i := 1) (own := [("row", 5)]) rfl sc_z_board.nd rfl rfl (sw_true rfl rfl rfl (by decide +kernel)) (kpi_list K rfl (pv 0)) (blkOk_by (N := n_z_board) (sc := defScope s_z_board) (by decide +kernel)) (fun _ _ _ _ _ => (pg_name (i := 5) sc_z_board.nd rfl (by first | exact Or.inl rfl | exact Or.inr rfl))) (fun _ _ _ _ _ => pts_nil) (fun _ _ _ _ _ => (pe_ix (kIx K rfl) (pv 5) pe_int (fun _ _ => rfl))))
  (pss_cons (ps_set (i := 2) sc_z_board.nd rfl (by first | exact Or.inl rfl | exact Or.inr rfl) (pe_lst pa_nil))
  (pss_cons (ps_for PassesOwn.never rfl (kpi_tup K rfl (pe_tup (pa_cons (pe_callB (kMin K rfl rfl) (by rfl) m_min (by decide +kernel) (pa_cons (pv 1) pa_nil)) (pa_cons (pe_callB (kMax K rfl rfl) (by rfl) m_max (by decide +kernel) (pa_cons (pv 1) pa_nil)) pa_nil)))) (pg_name (i := 3) sc_z_board.nd rfl (by first | exact Or.inl rfl | exact Or.inr rfl))
  (pss_cons (ps_setLc (i := 4) (own := [("row", 5)]) rfl sc_z_board.nd rfl rfl (sw_true rfl rfl rfl (by decide +kernel)) (kpi_list K rfl (pv 0)) (blkOk_by (N := n_z_board) (sc := defScope s_z_board) (by decide +kernel)) (fun _ _ _ _ _ => (pg_name (i := 5) sc_z_board.nd rfl (by first | exact Or.inl rfl | exact Or.inr rfl))) (fun _ _ _ _ _ => (pts_one (pt_cmpR (kEq K rfl hr.units) (pe_ix (kIx K rfl) (pv 5) pe_int (fun _ _ => rfl)) (pv 3) (nomark _)))) (fun _ _ _ _ _ => (pe_ix (kIx K rfl) (pv 5) pe_int (fun _ _ => rfl))))
  (pss_one (ps_expr (pe_bm PySem.F.plainAttrs_list PySem.F.slot_list_append PySem.F.type_list_append mt_append (pv 2) (pa_cons (pe_tup (pa_cons (pe_callB (kMin K rfl rfl) (by rfl) m_min (by decide +kernel) (pa_cons (pv 4) pa_nil)) (pa_cons (pe_callB (kMax K rfl rfl) (by rfl) m_max (by decide +kernel) (pa_cons (pv 4) pa_nil)) pa_nil))) pa_nil))))))
  (pss_cons (ps_setLc (i := 4) (own := [("row", 5)]) rfl sc_z_board.nd rfl rfl (sw_true rfl rfl rfl (by decide +kernel)) (kpi_list K rfl (pv 0)) (blkOk_by (N := n_z_board) (sc := defScope s_z_board) (by decide +kernel)) (fun _ _ _ _ _ => (pg_name (i := 5) sc_z_board.nd rfl (by first | exact Or.inl rfl | exact Or.inr rfl))) (fun _ _ _ _ _ => pts_nil) (fun _ _ _ _ _ => (pe_ix (kIx K rfl) (pv 5) pe_int (fun _ _ => rfl))))
  (pss_one (ps_ret (pe_tup (pa_cons (pe_ix (kIx K rfl) (pv 2) pe_int (fun _ _ => rfl)) (pa_cons (pe_callB (kMax K rfl rfl) (by rfl) m_max (by decide +kernel) (pa_cons (pv 4) pa_nil)) (pa_cons (pe_callB (kMin K rfl rfl) (by rfl) m_min (by decide +kernel) (pa_cons (pv 4) pa_nil)) (pa_cons (pe_ix (kIx K rfl) (pv 2) pe_int (fun _ _ => rfl)) (pa_cons (pe_callB (kSum K rfl rfl) (by rfl) m_sum (by decide +kernel) (pa_cons (pe_lc (own := [("row", 5)]) rfl sc_z_board.nd (kpi_list K rfl (pv 0)) (blkOk_by (N := n_z_board) (sc := defScope s_z_board) (by decide +kernel)) (fun _ _ _ _ _ => (pg_name (i := 5) sc_z_board.nd rfl (by first | exact Or.inl rfl | exact Or.inr rfl))) (fun _ _ _ _ _ => pts_nil) (fun _ _ _ _ _ => (pe_ix (kIx K rfl) (pv 5) pe_int (fun _ _ => rfl)))) pa_nil)) pa_nil))))))))))))), ?_⟩)
  exact body_ok (W := [1, 2, 3, 4]) (mb := b_z_board) (show SnS K [1, 2, 3, 4] _ b_z_board from (ss_seq (ss_if (snT_test (sn_op om_eq (sn_var 0) (sn_lst sn_nil))) (ss_ret sn_non) ss_next)
  (ss_seq (ss_set (by decide) (sn_lc (vs := [5]) (si_list (sn_var 0)) (sg_name (by decide)) snT_yes (sn_op om_ix (sn_var 5) sn_int)))
  (ss_seq (ss_set (by decide) (sn_lst sn_nil))
  (ss_seq (ss_for (si_tup (sn_tup (sn_cons (sn_cb cm_low (sn_cons (sn_var 1) sn_nil)) (sn_cons (sn_cb cm_top (sn_cons (sn_var 1) sn_nil)) sn_nil)))) (sg_name (by decide))
  (ss_seq (ss_set (by decide) (sn_lc (vs := [5]) (si_list (sn_var 0)) (sg_name (by decide)) (snT_test (sn_op om_eq (sn_op om_ix (sn_var 5) sn_int) (sn_var 3))) (sn_op om_ix (sn_var 5) sn_int)))
  (ss_drop (sn_app (sn_var 2) (sn_cons (sn_tup (sn_cons (sn_cb cm_low (sn_cons (sn_var 4) sn_nil)) (sn_cons (sn_cb cm_top (sn_cons (sn_var 4) sn_nil)) sn_nil))) sn_nil)))))
  (ss_seq (ss_set (by decide) (sn_lc (vs := [5]) (si_list (sn_var 0)) (sg_name (by decide)) snT_yes (sn_op om_ix (sn_var 5) sn_int)))
  (ss_ret (sn_tup (sn_cons (sn_op om_ix (sn_var 2) sn_int) (sn_cons (sn_cb cm_top (sn_cons (sn_var 4) sn_nil)) (sn_cons (sn_cb cm_low (sn_cons (sn_var 4) sn_nil)) (sn_cons (sn_op om_ix (sn_var 2) sn_int) (sn_cons (sn_cb cm_sum (sn_cons (sn_lc (vs := [5]) (si_list (sn_var 0)) (sg_name (by decide)) snT_yes (sn_op om_ix (sn_var 5) sn_int)) sn_nil)) sn_nil))))))))))))) rfl h
theorem ok_z_lates {f : Addr} {fd : FuncData} (Fn : Fun K "_law_lates" "_law_lates" s_z_lates f fd) (m_range : mg "range" = none) (m_len : mg "len" = none) : FnOk P w K mg base CX0 1 f fd p_z_lates (conc (saM K 1 f_z_lates)) := by
  refine Fn.ok sc_z_lates (fun vs H Q E h => saM_len h) (fun cdv Ar outer s H vs Q E hr h => ⟨_, (pss_cons (ps_set (i := 1) sc_z_lates.nd rfl (by first | exact Or.inl rfl | exact Or.inr rfl) (pe_lst pa_nil))
  (pss_cons (ps_for PassesOwn.never rfl (pi_range1 (by rfl) m_range (pa_cons (pe_callB (kLen K rfl) (by rfl) m_len (by decide +kernel) (pa_cons (pv 0) pa_nil)) pa_nil)) (pg_name (i := 2) sc_z_lates.nd rfl (by first | exact Or.inl rfl | exact Or.inr rfl))
  (pss_one (ps_if (pt_cmpR (kNe K rfl hr.units) (pe_lc (own := [("row", 3)]) rfl sc_z_lates.nd (kpi_list K rfl (pe_slice (kSl K rfl) (pv 0) po_none (po_some (pv 2)))) (blkOk_by (N := n_z_lates) (sc := defScope s_z_lates) (by decide +kernel)) (fun _ _ _ _ _ => (pg_name (i := 3) sc_z_lates.nd rfl (by first | exact Or.inl rfl | exact Or.inr rfl))) (fun _ _ _ _ _ => (pts_one (pt_cmpR oGt (pe_ix (kIx K rfl) (pv 3) pe_int (fun _ _ => rfl)) (pe_ix (kIx K rfl) (pe_ix (kIx K rfl) (pv 0) (pv 2) (fun _ _ => rfl)) pe_int (fun _ _ => rfl)) (nomark _)))) (fun _ _ _ _ _ => (pv 3))) (pe_lst pa_nil) (nomark _)) (pss_one (ps_expr (pe_bm PySem.F.plainAttrs_list PySem.F.slot_list_append PySem.F.type_list_append mt_append (pv 1) (pa_cons (pv 2) pa_nil)))) pss_nil)))
  (pss_one (ps_ret (pv 1))))), ?_⟩)
  exact body_ok (W := [1, 2]) (mb := b_z_lates) (show SnS K [1, 2] _ b_z_lates from (ss_seq (ss_set (by decide) (sn_lst sn_nil))
  (ss_seq (ss_for (si_rng1 (sn_cons (sn_cb cm_len (sn_cons (sn_var 0) sn_nil)) sn_nil)) (sg_name (by decide))
  (ss_if (snT_test (sn_op om_ne (sn_lc (vs := [3]) (si_list (sn_sl (sn_var 0) sn_noPart (sn_part (sn_var 2)))) (sg_name (by decide)) (snT_test (sn_op om_gt (sn_op om_ix (sn_var 3) sn_int) (sn_op om_ix (sn_op om_ix (sn_var 0) (sn_var 2)) sn_int))) (sn_var 3)) (sn_lst sn_nil))) (ss_drop (sn_app (sn_var 1) (sn_cons (sn_var 2) sn_nil))) ss_next))
  (ss_ret (sn_var 1))))) rfl h
theorem ok_board {f : Addr} {fd : FuncData} (Fn : Fun K "board" "board" s_board f fd) (C_rows_of : Cal P w K mg base 1 "rows_of" p_rows_of 1 f_rows_of) (m_min : mg "min" = none) (m_max : mg "max" = none) (m_sum : mg "sum" = none) : FnOk P w K mg base CX0 2 f fd p_board (conc (saM K 1 f_board)) := by
  obtain ⟨f_rows_of, d_rows_of, G_rows_of, g_rows_of, k_rows_of, b_rows_of⟩ := C_rows_of
  refine Fn.ok sc_board (fun vs H Q E h => saM_len h) (fun cdv Ar outer s H vs Q E hr h => ⟨_, (pss_cons (ps_set (i := 1) sc_board.nd rfl (by first | exact Or.inl rfl | exact Or.inr rfl) (pe_call G_rows_of (hr.mono (by decide)) (by rfl) g_rows_of k_rows_of b_rows_of .nil pass0 (pa_cons (pv 0) pa_nil)))
  (pss_cons (ps_if (pt_not (kTru (K := K) rfl (pv 1) (by intro _; rfl))) (pss_one (ps_ret pe_non)) pss_nil)
  (pss_cons (ps_set (i := 2) sc_board.nd rfl (by first | exact Or.inl rfl | exact Or.inr rfl) (pe_slice (kSl K rfl) (pe_ix (kIx K rfl) (pv 1) pe_int (fun _ _ => rfl)) (po_some pe_int) (po_some pe_int)))
  (pss_cons (ps_set (i := 3) sc_board.nd rfl (by first | exact Or.inl rfl | exact Or.inr rfl) (pe_slice (kSl K rfl) (pe_ix (kIx K rfl) (pv 1) (pe_un oNeg pe_int) (fun _ _ => rfl)) (po_some pe_int) (po_some pe_int)))
  (pss_cons (ps_set (i := 4) sc_board.nd rfl (by first | exact Or.inl rfl | exact Or.inr rfl) (pe_callB (kMin K rfl rfl) (by rfl) m_min (by decide +kernel) (pa_cons (pe_lc (own := [("moment", 6), ("least", 7), ("greatest", 8), ("lots", 9)]) rfl sc_board.nd (kpi_list K rfl (pv 1)) (blkOk_by (N := n_board) (sc := defScope s_board) (by decide +kernel)) (fun _ _ _ _ _ => (kpg_tup (n := 4) K rfl (by rfl) (pgs_cons (pg_name (i := 6) sc_board.nd rfl (by first | exact Or.inl rfl | exact Or.inr rfl)) (pgs_cons (pg_name (i := 7) sc_board.nd rfl (by first | exact Or.inl rfl | exact Or.inr rfl)) (pgs_cons (pg_name (i := 8) sc_board.nd rfl (by first | exact Or.inl rfl | exact Or.inr rfl)) (pgs_cons (pg_name (i := 9) sc_board.nd rfl (by first | exact Or.inl rfl | exact Or.inr rfl)) pgs_nil)))))) (fun _ _ _ _ _ => pts_nil) (fun _ _ _ _ _ => (pv 7))) pa_nil)))
  (pss_cons (ps_set (i := 5) sc_board.nd rfl (by first | exact Or.inl rfl | exact Or.inr rfl) (pe_callB (kMax K rfl rfl) (by rfl) m_max (by decide +kernel) (pa_cons (pe_lc (own := [("moment", 6), ("least", 7), ("greatest", 8), ("lots", 9)]) rfl sc_board.nd (kpi_list K rfl (pv 1)) (blkOk_by (N := n_board) (sc := defScope s_board) (by decide +kernel)) (fun _ _ _ _ _ => (kpg_tup (n := 4) K rfl (by rfl) (pgs_cons (pg_name (i := 6) sc_board.nd rfl (by first | exact Or.inl rfl | exact Or.inr rfl)) (pgs_cons (pg_name (i := 7) sc_board.nd rfl (by first | exact Or.inl rfl | exact Or.inr rfl)) (pgs_cons (pg_name (i := 8) sc_board.nd rfl (by first | exact Or.inl rfl | exact Or.inr rfl)) (pgs_cons (pg_name (i := 9) sc_board.nd rfl (by first | exact Or.inl rfl | exact Or.inr rfl)) pgs_nil)))))) (fun _ _ _ _ _ => pts_nil) (fun _ _ _ _ _ => (pv 8))) pa_nil)))
  (pss_one (ps_ret (pe_tup (pa_cons (pv 2) (pa_cons (pv 5) (pa_cons (pv 4) (pa_cons (pv 3) (pa_cons (pe_callB (kSum K rfl rfl) (by rfl) m_sum (by decide +kernel) (pa_cons (pe_lc (own := [("moment", 6), ("least", 7), ("greatest", 8), ("lots", 9)]) rfl sc_board.nd (kpi_list K rfl (pv 1)) (blkOk_by (N := n_board) (sc := defScope s_board) (by decide +kernel)) (fun _ _ _ _ _ => (kpg_tup (n := 4) K rfl (by rfl) (pgs_cons (pg_name (i := 6) sc_board.nd rfl (by first | exact Or.inl rfl | exact Or.inr rfl)) (pgs_cons (pg_name (i := 7) sc_board.nd rfl (by first | exact Or.inl rfl | exact Or.inr rfl)) (pgs_cons (pg_name (i := 8) sc_board.nd rfl (by first | exact Or.inl rfl | exact Or.inr rfl)) (pgs_cons (pg_name (i := 9) sc_board.nd rfl (by first | exact Or.inl rfl | exact Or.inr rfl)) pgs_nil)))))) (fun _ _ _ _ _ => pts_nil) (fun _ _ _ _ _ => (pv 9))) pa_nil)) pa_nil)))))))))))))), ?_⟩)
  exact body_ok (W := [1, 2, 3, 4, 5]) (mb := b_board) (show SnS K [1, 2, 3, 4, 5] _ b_board from (ss_seq (ss_set (by decide) (sn_call (fun _ _ h => mDef_len h) (sn_cons (sn_var 0) sn_nil)))
  (ss_seq (ss_if (snT_not (snT_tru (sn_var 1))) (ss_ret sn_non) ss_next)
  (ss_seq (ss_set (by decide) (sn_sl (sn_op om_ix (sn_var 1) sn_int) (sn_part sn_int) (sn_part sn_int)))
  (ss_seq (ss_set (by decide) (sn_sl (sn_op om_ix (sn_var 1) (sn_un um_neg sn_int)) (sn_part sn_int) (sn_part sn_int)))
  (ss_seq (ss_set (by decide) (sn_cb cm_low (sn_cons (sn_lc (vs := [6, 7, 8, 9]) (si_list (sn_var 1)) (sg_tup (sg_cons (sg_name (by decide)) (sg_cons (sg_name (by decide)) (sg_cons (sg_name (by decide)) (sg_cons (sg_name (by decide)) sg_nil))))) snT_yes (sn_var 7)) sn_nil)))
  (ss_seq (ss_set (by decide) (sn_cb cm_top (sn_cons (sn_lc (vs := [6, 7, 8, 9]) (si_list (sn_var 1)) (sg_tup (sg_cons (sg_name (by decide)) (sg_cons (sg_name (by decide)) (sg_cons (sg_name (by decide)) (sg_cons (sg_name (by decide)) sg_nil))))) snT_yes (sn_var 8)) sn_nil)))
  (ss_ret (sn_tup (sn_cons (sn_var 2) (sn_cons (sn_var 5) (sn_cons (sn_var 4) (sn_cons (sn_var 3) (sn_cons (sn_cb cm_sum (sn_cons (sn_lc (vs := [6, 7, 8, 9]) (si_list (sn_var 1)) (sg_tup (sg_cons (sg_name (by decide)) (sg_cons (sg_name (by decide)) (sg_cons (sg_name (by decide)) (sg_cons (sg_name (by decide)) sg_nil))))) snT_yes (sn_var 9)) sn_nil)) sn_nil)))))))))))))) rfl h
theorem ok_z_prints {f : Addr} {fd : FuncData} (Fn : Fun K "_law_prints" "_law_prints" s_z_prints f fd) (C_z_take : Cal P w K mg base 1 "_law_take" p_z_take 2 f_z_take) (m_range : mg "range" = none) (m_min : mg "min" = none) (m_max : mg "max" = none) (m_int : mg "int" = none) : FnOk P w K mg base CX0 2 f fd p_z_prints (conc (saM K 1 f_z_prints)) := by
  obtain ⟨f_z_take, d_z_take, G_z_take, g_z_take, k_z_take, b_z_take⟩ := C_z_take
  refine Fn.ok sc_z_prints (fun vs H Q E h => saM_len h) (fun cdv Ar outer s H vs Q E hr h => ⟨_, (pss_cons (ps_set (i := 1) sc_z_prints.nd rfl (by first | exact Or.inl rfl | exact Or.inr rfl) (pe_ix (kIx K rfl) (pe_lst (pa_cons (pe_call G_z_take (hr.mono (by decide)) (by rfl) g_z_take k_z_take b_z_take .nil pass0 (pa_cons (pv 0) (pa_cons pe_int pa_nil))) (pa_cons (pe_call G_z_take (hr.mono (by decide)) (by rfl) g_z_take k_z_take b_z_take .nil pass0 (pa_cons (pv 0) (pa_cons pe_int pa_nil))) (pa_cons (pe_call G_z_take (hr.mono (by decide)) (by rfl) g_z_take k_z_take b_z_take .nil pass0 (pa_cons (pv 0) (pa_cons pe_int pa_nil))) pa_nil)))) (pe_callB (kMin K rfl rfl) (by rfl) m_min (by decide +kernel) (pa_cons pe_int (pa_cons (pe_op oDiv (pe_call G_z_take (hr.mono (by decide)) (by rfl) g_z_take k_z_take b_z_take .nil pass0 (pa_cons (pv 0) (pa_cons pe_int pa_nil))) pe_int) pa_nil))) (fun _ _ => rfl)))
  (pss_cons (ps_set (i := 2) sc_z_prints.nd rfl (by first | exact Or.inl rfl | exact Or.inr rfl) (pe_lst pa_nil))
  (pss_cons (ps_set (i := 3) sc_z_prints.nd rfl (by first | exact Or.inl rfl | exact Or.inr rfl) (pe_call G_z_take (hr.mono (by decide)) (by rfl) g_z_take k_z_take b_z_take .nil pass0 (pa_cons (pv 0) (pa_cons pe_int pa_nil))))
  (pss_cons (ps_for PassesOwn.never rfl (pi_range1 (by rfl) m_range (pa_cons (pv 1) pa_nil)) (pg_name (i := 4) sc_z_prints.nd rfl (by first | exact Or.inl rfl | exact Or.inr rfl))
  (pss_cons (ps_set (i := 3) sc_z_prints.nd rfl (by first | exact Or.inl rfl | exact Or.inr rfl) (pe_callB (kMax K rfl rfl) (by rfl) m_max (by decide +kernel) (pa_cons pe_int (pa_cons (pe_op oSub (pe_op (kAdd K rfl) (pv 3) (pe_call G_z_take (hr.mono (by decide)) (by rfl) g_z_take k_z_take b_z_take .nil pass0 (pa_cons (pv 0) (pa_cons pe_int pa_nil)))) pe_int) pa_nil))))
  (pss_cons (ps_set (i := 5) sc_z_prints.nd rfl (by first | exact Or.inl rfl | exact Or.inr rfl) (pe_ix (kIx K rfl) (pe_lst (pa_cons (pe_op (kAdd K rfl) pe_int (pe_call G_z_take (hr.mono (by decide)) (by rfl) g_z_take k_z_take b_z_take .nil pass0 (pa_cons (pv 0) (pa_cons pe_int pa_nil)))) (pa_cons (pe_call G_z_take (hr.mono (by decide)) (by rfl) g_z_take k_z_take b_z_take .nil pass0 (pa_cons (pv 0) (pa_cons (pe_op (kAdd K rfl) (pe_op oPow pe_int pe_int) pe_int) pa_nil))) pa_nil))) (pe_callTy cInt (by rfl) m_int (by decide +kernel) (pa_cons (pe_cmpR (kEq K rfl hr.units) (pe_call G_z_take (hr.mono (by decide)) (by rfl) g_z_take k_z_take b_z_take .nil pass0 (pa_cons (pv 0) (pa_cons pe_int pa_nil))) pe_int (nomark _)) pa_nil)) (fun _ _ => rfl)))
  (pss_one (ps_expr (pe_bm PySem.F.plainAttrs_list PySem.F.slot_list_append PySem.F.type_list_append mt_append (pv 2) (pa_cons (pe_tup (pa_cons (pv 3) (pa_cons (pv 5) (pa_cons (pe_op (kAdd K rfl) pe_int (pe_call G_z_take (hr.mono (by decide)) (by rfl) g_z_take k_z_take b_z_take .nil pass0 (pa_cons (pv 0) (pa_cons (pe_ix (kIx K rfl) (pe_lst (pa_cons pe_int (pa_cons (pe_op oPow pe_int pe_int) pa_nil))) (pe_callTy cInt (by rfl) m_int (by decide +kernel) (pa_cons (pe_cmpR (kEq K rfl hr.units) (pe_call G_z_take (hr.mono (by decide)) (by rfl) g_z_take k_z_take b_z_take .nil pass0 (pa_cons (pv 0) (pa_cons pe_int pa_nil))) pe_int (nomark _)) pa_nil)) (fun _ _ => rfl)) pa_nil)))) pa_nil)))) pa_nil)))))))
  (pss_one (ps_ret (pv 2))))))), ?_⟩)
  exact body_ok (W := [1, 2, 3, 4, 5]) (mb := b_z_prints) (show SnS K [1, 2, 3, 4, 5] _ b_z_prints from (ss_seq (ss_set (by decide) (sn_op om_ix (sn_lst (sn_cons (sn_call (fun _ _ h => mDef_len h) (sn_cons (sn_var 0) (sn_cons sn_int sn_nil))) (sn_cons (sn_call (fun _ _ h => mDef_len h) (sn_cons (sn_var 0) (sn_cons sn_int sn_nil))) (sn_cons (sn_call (fun _ _ h => mDef_len h) (sn_cons (sn_var 0) (sn_cons sn_int sn_nil))) sn_nil)))) (sn_cb cm_min (sn_cons sn_int (sn_cons (sn_op om_div (sn_call (fun _ _ h => mDef_len h) (sn_cons (sn_var 0) (sn_cons sn_int sn_nil))) sn_int) sn_nil)))))
  (ss_seq (ss_set (by decide) (sn_lst sn_nil))
  (ss_seq (ss_set (by decide) (sn_call (fun _ _ h => mDef_len h) (sn_cons (sn_var 0) (sn_cons sn_int sn_nil))))
  (ss_seq (ss_for (si_rng1 (sn_cons (sn_var 1) sn_nil)) (sg_name (by decide))
  (ss_seq (ss_set (by decide) (sn_cb cm_max (sn_cons sn_int (sn_cons (sn_op om_sub (sn_op om_add (sn_var 3) (sn_call (fun _ _ h => mDef_len h) (sn_cons (sn_var 0) (sn_cons sn_int sn_nil)))) sn_int) sn_nil))))
  (ss_seq (ss_set (by decide) (sn_op om_ix (sn_lst (sn_cons (sn_op om_add sn_int (sn_call (fun _ _ h => mDef_len h) (sn_cons (sn_var 0) (sn_cons sn_int sn_nil)))) (sn_cons (sn_call (fun _ _ h => mDef_len h) (sn_cons (sn_var 0) (sn_cons (sn_op om_add (sn_op om_pow sn_int sn_int) sn_int) sn_nil))) sn_nil))) (sn_cb cm_int (sn_cons (sn_op om_eq (sn_call (fun _ _ h => mDef_len h) (sn_cons (sn_var 0) (sn_cons sn_int sn_nil))) sn_int) sn_nil))))
  (ss_drop (sn_app (sn_var 2) (sn_cons (sn_tup (sn_cons (sn_var 3) (sn_cons (sn_var 5) (sn_cons (sn_op om_add sn_int (sn_call (fun _ _ h => mDef_len h) (sn_cons (sn_var 0) (sn_cons (sn_op om_ix (sn_lst (sn_cons sn_int (sn_cons (sn_op om_pow sn_int sn_int) sn_nil))) (sn_cb cm_int (sn_cons (sn_op om_eq (sn_call (fun _ _ h => mDef_len h) (sn_cons (sn_var 0) (sn_cons sn_int sn_nil))) sn_int) sn_nil))) sn_nil)))) sn_nil)))) sn_nil))))))
  (ss_ret (sn_var 2))))))) rfl h
theorem ok_z_shuffled {f : Addr} {fd : FuncData} (Fn : Fun K "_law_shuffled" "_law_shuffled" s_z_shuffled f fd) (C_z_take : Cal P w K mg base 1 "_law_take" p_z_take 2 f_z_take) (m_len : mg "len" = none) : FnOk P w K mg base CX0 2 f fd p_z_shuffled (conc (saM K 2 f_z_shuffled)) := by
  obtain ⟨f_z_take, d_z_take, G_z_take, g_z_take, k_z_take, b_z_take⟩ := C_z_take
  refine Fn.ok sc_z_shuffled (fun vs H Q E h => saM_len h) (fun cdv Ar outer s H vs Q E hr h => ⟨_, (pss_cons (ps_set (i := 2) sc_z_shuffled.nd rfl (by first | exact Or.inl rfl | exact Or.inr rfl) (pe_lst pa_nil))
  (pss_cons (ps_for PassesOwn.never rfl (kpi_list K rfl (pv 1)) (pg_name (i := 3) sc_z_shuffled.nd rfl (by first | exact Or.inl rfl | exact Or.inr rfl))
  (pss_one (ps_expr (pe_bm PySem.F.plainAttrs_list PySem.F.slot_list_insert PySem.F.type_list_insert mt_insert (pv 2) (pa_cons (pe_call G_z_take (hr.mono (by decide)) (by rfl) g_z_take k_z_take b_z_take .nil pass0 (pa_cons (pv 0) (pa_cons (pe_op (kAdd K rfl) (pe_callB (kLen K rfl) (by rfl) m_len (by decide +kernel) (pa_cons (pv 2) pa_nil)) pe_int) pa_nil))) (pa_cons (pv 3) pa_nil))))))
  (pss_one (ps_ret (pv 2))))), ?_⟩)
  exact body_ok (W := [2, 3]) (mb := b_z_shuffled) (show SnS K [2, 3] _ b_z_shuffled from (ss_seq (ss_set (by decide) (sn_lst sn_nil))
  (ss_seq (ss_for (si_list (sn_var 1)) (sg_name (by decide))
  (ss_drop (sn_ins (fun _ _ _ _ _ _ h1 h2 h3 h4 q => ⟨_, _, _, _, rfl, rfl, h1, h2, h3, h4, q⟩) (sn_var 2) (sn_cons (sn_call (fun _ _ h => mDef_len h) (sn_cons (sn_var 0) (sn_cons (sn_op om_add (sn_cb cm_len (sn_cons (sn_var 2) sn_nil)) sn_int) sn_nil))) (sn_cons (sn_var 3) sn_nil)))))
  (ss_ret (sn_var 2))))) rfl h
theorem ok_law {f : Addr} {fd : FuncData} (Fn : Fun K "law" "law" s_law f fd) (C_z_bag : Cal P w K mg base 1 "_law_bag" p_z_bag 2 f_z_bag) (C_z_prints : Cal P w K mg base 2 "_law_prints" p_z_prints 1 f_z_prints) (C_z_take : Cal P w K mg base 1 "_law_take" p_z_take 2 f_z_take) (C_z_board : Cal P w K mg base 1 "_law_board" p_z_board 1 f_z_board) (C_z_rows : Cal P w K mg base 1 "_law_rows" p_z_rows 1 f_z_rows) (C_z_called : Cal P w K mg base 1 "_law_called" p_z_called 2 f_z_called) (C_z_shuffled : Cal P w K mg base 2 "_law_shuffled" p_z_shuffled 2 f_z_shuffled) (C_rows_of : Cal P w K mg base 1 "rows_of" p_rows_of 1 f_rows_of) (C_lates : Cal P w K mg base 1 "lates" p_lates 1 f_lates) (C_z_lates : Cal P w K mg base 1 "_law_lates" p_z_lates 1 f_z_lates) (C_board : Cal P w K mg base 2 "board" p_board 1 f_board) (C_called_price : Cal P w K mg base 1 "called_price" p_called_price 2 f_called_price) (m_range : mg "range" = none) (m_list : mg "list" = none) (m_min : mg "min" = none) (m_len : mg "len" = none) : FnOk P w K mg base CX0 3 f fd p_law (conc (saM K 1 f_law)) := by
  obtain ⟨f_z_bag, d_z_bag, G_z_bag, g_z_bag, k_z_bag, b_z_bag⟩ := C_z_bag
  obtain ⟨f_z_prints, d_z_prints, G_z_prints, g_z_prints, k_z_prints, b_z_prints⟩ := C_z_prints
  obtain ⟨f_z_take, d_z_take, G_z_take, g_z_take, k_z_take, b_z_take⟩ := C_z_take
  obtain ⟨f_z_board, d_z_board, G_z_board, g_z_board, k_z_board, b_z_board⟩ := C_z_board
  obtain ⟨f_z_rows, d_z_rows, G_z_rows, g_z_rows, k_z_rows, b_z_rows⟩ := C_z_rows
  obtain ⟨f_z_called, d_z_called, G_z_called, g_z_called, k_z_called, b_z_called⟩ := C_z_called
  obtain ⟨f_z_shuffled, d_z_shuffled, G_z_shuffled, g_z_shuffled, k_z_shuffled, b_z_shuffled⟩ := C_z_shuffled
  obtain ⟨f_rows_of, d_rows_of, G_rows_of, g_rows_of, k_rows_of, b_rows_of⟩ := C_rows_of
  obtain ⟨f_lates, d_lates, G_lates, g_lates, k_lates, b_lates⟩ := C_lates
  obtain ⟨f_z_lates, d_z_lates, G_z_lates, g_z_lates, k_z_lates, b_z_lates⟩ := C_z_lates
  obtain ⟨f_board, d_board, G_board, g_board, k_board, b_board⟩ := C_board
  obtain ⟨f_called_price, d_called_price, G_called_price, g_called_price, k_called_price, b_called_price⟩ := C_called_price
  refine Fn.ok sc_law (fun vs H Q E h => saM_len h) (fun cdv Ar outer s H vs Q E hr h => ⟨_, (pss_cons (ps_for PassesOwn.never rfl (pi_range1 (by rfl) m_range (pa_cons (pe_op (kAdd K rfl) pe_int (pe_callB (kMin K rfl rfl) (by rfl) m_min (by decide +kernel) (pa_cons (pe_callB (kLen K rfl) (by rfl) m_len (by decide +kernel) (pa_cons (pv 0) pa_nil)) (pa_cons pe_int pa_nil)))) pa_nil)) (pg_name (i := 1) sc_law.nd rfl (by first | exact Or.inl rfl | exact Or.inr rfl))
  (pss_cons (ps_set (i := 2) sc_law.nd rfl (by first | exact Or.inl rfl | exact Or.inr rfl) (pe_call G_z_bag (hr.mono (by decide)) (by rfl) g_z_bag k_z_bag b_z_bag .nil pass0 (pa_cons (pv 0) (pa_cons (pv 1) pa_nil))))
  (pss_cons (ps_set (i := 3) sc_law.nd rfl (by first | exact Or.inl rfl | exact Or.inr rfl) (pe_call G_z_prints (hr.mono (by decide)) (by rfl) g_z_prints k_z_prints b_z_prints .nil pass0 (pa_cons (pv 2) pa_nil)))
  (pss_cons (ps_set (i := 4) sc_law.nd rfl (by first | exact Or.inl rfl | exact Or.inr rfl) (pe_call G_z_take (hr.mono (by decide)) (by rfl) g_z_take k_z_take b_z_take .nil pass0 (pa_cons (pv 2) (pa_cons (pe_op (kAdd K rfl) (pe_op oPow pe_int pe_int) pe_int) pa_nil))))
  (pss_cons (ps_set (i := 5) sc_law.nd rfl (by first | exact Or.inl rfl | exact Or.inr rfl) (pe_callTy (kList K rfl) (by rfl) m_list (by decide +kernel) (pa_cons (pv 3) pa_nil)))
  (pss_cons (ps_set (i := 6) sc_law.nd rfl (by first | exact Or.inl rfl | exact Or.inr rfl) (pe_lst (pa_cons (pe_call G_z_board (hr.mono (by decide)) (by rfl) g_z_board k_z_board b_z_board .nil pass0 (pa_cons (pv 3) pa_nil)) (pa_cons (pe_call G_z_rows (hr.mono (by decide)) (by rfl) g_z_rows k_z_rows b_z_rows .nil pass0 (pa_cons (pv 3) pa_nil)) (pa_cons (pe_call G_z_called (hr.mono (by decide)) (by rfl) g_z_called k_z_called b_z_called .nil pass0 (pa_cons (pv 3) (pa_cons (pv 4) pa_nil))) pa_nil)))))
  (pss_cons (ps_for PassesOwn.never rfl (kpi_tup K rfl (pe_tup (pa_cons (pv 5) (pa_cons (pe_call G_z_shuffled (hr.mono (by decide)) (by rfl) g_z_shuffled k_z_shuffled b_z_shuffled .nil pass0 (pa_cons (pv 2) (pa_cons (pv 3) pa_nil))) (pa_cons (pv 5) pa_nil))))) (pg_name (i := 7) sc_law.nd rfl (by first | exact Or.inl rfl | exact Or.inr rfl))
  (pss_cons (ps_if (PW.pt (pw_or (pt_cmpR (kNe K rfl hr.units) (pe_lst (pa_cons (pe_call G_board (hr.mono (by decide)) (by rfl) g_board k_board b_board .nil pass0 (pa_cons (pv 7) pa_nil)) (pa_cons (pe_call G_rows_of (hr.mono (by decide)) (by rfl) g_rows_of k_rows_of b_rows_of .nil pass0 (pa_cons (pv 7) pa_nil)) (pa_cons (pe_call G_called_price (hr.mono (by decide)) (by rfl) g_called_price k_called_price b_called_price .nil pass0 (pa_cons (pv 7) (pa_cons (pv 4) pa_nil))) pa_nil)))) (pv 6) (nomark _)) (pw_or1 (pt_cmpR (kNe K rfl hr.units) (pe_call G_lates (hr.mono (by decide)) (by rfl) g_lates k_lates b_lates .nil pass0 (pa_cons (pv 7) pa_nil)) (pe_call G_z_lates (hr.mono (by decide)) (by rfl) g_z_lates k_z_lates b_z_lates .nil pass0 (pa_cons (pv 7) pa_nil)) (nomark _))))) (pss_one (ps_ret pe_bl)) pss_nil)
  (pss_one (ps_for PassesOwn.never rfl (kpi_tup K rfl (pe_tup (pa_cons (pe_call G_rows_of (hr.mono (by decide)) (by rfl) g_rows_of k_rows_of b_rows_of .nil pass0 (pa_cons (pv 7) pa_nil)) (pa_cons (pe_call G_lates (hr.mono (by decide)) (by rfl) g_lates k_lates b_lates .nil pass0 (pa_cons (pv 7) pa_nil)) pa_nil)))) (pg_name (i := 8) sc_law.nd rfl (by first | exact Or.inl rfl | exact Or.inr rfl))
  (pss_one (ps_expr (pe_bm PySem.F.plainAttrs_list PySem.F.slot_list_append PySem.F.type_list_append mt_append (pv 8) (pa_cons pe_non pa_nil))))))))
  (pss_one (ps_if (pt_cmpR (kNe K rfl hr.units) (pv 5) (pv 3) (nomark _)) (pss_one (ps_ret pe_bl)) pss_nil)))))))))
  (pss_one (ps_ret pe_bl))), ?_⟩)
  exact body_ok (W := [1, 2, 3, 4, 5, 6, 7, 8]) (mb := b_law) (show SnS K [1, 2, 3, 4, 5, 6, 7, 8] _ b_law from (ss_seq (ss_for (si_rng1 (sn_cons (sn_op om_add sn_int (sn_cb cm_min (sn_cons (sn_cb cm_len (sn_cons (sn_var 0) sn_nil)) (sn_cons sn_int sn_nil)))) sn_nil)) (sg_name (by decide))
  (ss_seq (ss_set (by decide) (sn_call (fun _ _ h => mDef_len h) (sn_cons (sn_var 0) (sn_cons (sn_var 1) sn_nil))))
  (ss_seq (ss_set (by decide) (sn_call (fun _ _ h => mDef_len h) (sn_cons (sn_var 2) sn_nil)))
  (ss_seq (ss_set (by decide) (sn_call (fun _ _ h => mDef_len h) (sn_cons (sn_var 2) (sn_cons (sn_op om_add (sn_op om_pow sn_int sn_int) sn_int) sn_nil))))
  (ss_seq (ss_set (by decide) (sn_cb cm_list (sn_cons (sn_var 3) sn_nil)))
  (ss_seq (ss_set (by decide) (sn_lst (sn_cons (sn_call (fun _ _ h => mDef_len h) (sn_cons (sn_var 3) sn_nil)) (sn_cons (sn_call (fun _ _ h => mDef_len h) (sn_cons (sn_var 3) sn_nil)) (sn_cons (sn_call (fun _ _ h => mDef_len h) (sn_cons (sn_var 3) (sn_cons (sn_var 4) sn_nil))) sn_nil)))))
  (ss_seq (ss_for (si_tup (sn_tup (sn_cons (sn_var 5) (sn_cons (sn_call (fun _ _ h => mDef_len h) (sn_cons (sn_var 2) (sn_cons (sn_var 3) sn_nil))) (sn_cons (sn_var 5) sn_nil))))) (sg_name (by decide))
  (ss_seq (ss_if (snT_or (snT_test (sn_op om_ne (sn_lst (sn_cons (sn_call (fun _ _ h => mDef_len h) (sn_cons (sn_var 7) sn_nil)) (sn_cons (sn_call (fun _ _ h => mDef_len h) (sn_cons (sn_var 7) sn_nil)) (sn_cons (sn_call (fun _ _ h => mDef_len h) (sn_cons (sn_var 7) (sn_cons (sn_var 4) sn_nil))) sn_nil)))) (sn_var 6))) (snT_test (sn_op om_ne (sn_call (fun _ _ h => mDef_len h) (sn_cons (sn_var 7) sn_nil)) (sn_call (fun _ _ h => mDef_len h) (sn_cons (sn_var 7) sn_nil))))) (ss_ret sn_bl) ss_next)
  (ss_forO (sn_cons (sn_call (fun _ _ h => mDef_len h) (sn_cons (sn_var 7) sn_nil)) (sn_cons (sn_call (fun _ _ h => mDef_len h) (sn_cons (sn_var 7) sn_nil)) sn_nil)) (sg_name (by decide))
  (ss_drop (sn_app (sn_var 8) (sn_cons sn_non sn_nil))))))
  (ss_if (snT_test (sn_op om_ne (sn_var 5) (sn_var 3))) (ss_ret sn_bl) ss_next))))))))
  (ss_ret sn_bl))) rfl h
end
theorem all_mk {l : PySem.W.OpenLaw} {w : World} {K : PySem.W.Frag} {h : Heap} {mg : Str → Option Value} {fa : Addr} (X : K.In h) (G : h.Ns mainGlobals mg) (hfa : mg "law" = some (.ref fa))
    {f1 : Addr} {od1 an1 : Option Addr} {sl1 : Array (Option Value)} {oc1 kV1 dc1 pm1 cd1 ct1 : Value}
    {f2 : Addr} {od2 an2 : Option Addr} {sl2 : Array (Option Value)} {oc2 kV2 dc2 pm2 cd2 ct2 : Value}
    {f3 : Addr} {od3 an3 : Option Addr} {sl3 : Array (Option Value)} {oc3 kV3 dc3 pm3 cd3 ct3 : Value}
    {f4 : Addr} {od4 an4 : Option Addr} {sl4 : Array (Option Value)} {oc4 kV4 dc4 pm4 cd4 ct4 : Value}
    {f5 : Addr} {od5 an5 : Option Addr} {sl5 : Array (Option Value)} {oc5 kV5 dc5 pm5 cd5 ct5 : Value}
    {f6 : Addr} {od6 an6 : Option Addr} {sl6 : Array (Option Value)} {oc6 kV6 dc6 pm6 cd6 ct6 : Value}
    {f7 : Addr} {od7 an7 : Option Addr} {sl7 : Array (Option Value)} {oc7 kV7 dc7 pm7 cd7 ct7 : Value}
    {f8 : Addr} {od8 an8 : Option Addr} {sl8 : Array (Option Value)} {oc8 kV8 dc8 pm8 cd8 ct8 : Value}
    {f9 : Addr} {od9 an9 : Option Addr} {sl9 : Array (Option Value)} {oc9 kV9 dc9 pm9 cd9 ct9 : Value}
    {f10 : Addr} {od10 an10 : Option Addr} {sl10 : Array (Option Value)} {oc10 kV10 dc10 pm10 cd10 ct10 : Value}
    {f11 : Addr} {od11 an11 : Option Addr} {sl11 : Array (Option Value)} {oc11 kV11 dc11 pm11 cd11 ct11 : Value}
    {f12 : Addr} {od12 an12 : Option Addr} {sl12 : Array (Option Value)} {oc12 kV12 dc12 pm12 cd12 ct12 : Value}
    {f13 : Addr} {od13 an13 : Option Addr} {sl13 : Array (Option Value)} {oc13 kV13 dc13 pm13 cd13 ct13 : Value}
    (a1 : PySem.W.nsIn K mainGlobals "lates" = some (some (.ref f1))) (l1 : K.lookup f1 = some ⟨oc1, od1, .func (PySem.W.fnOf "lates" "lates" (defArgs s_lates) (defBody s_lates) (defScope s_lates) .none kV1 dc1 pm1 an1 cd1 ct1), sl1⟩) (c1 : PySem.W.codeIn K cd1 "lates" = true) (k1 : PySem.W.keepIn K (.ref f1) = true)
    (a2 : PySem.W.nsIn K mainGlobals "board" = some (some (.ref f2))) (l2 : K.lookup f2 = some ⟨oc2, od2, .func (PySem.W.fnOf "board" "board" (defArgs s_board) (defBody s_board) (defScope s_board) .none kV2 dc2 pm2 an2 cd2 ct2), sl2⟩) (c2 : PySem.W.codeIn K cd2 "board" = true) (k2 : PySem.W.keepIn K (.ref f2) = true)
    (a3 : PySem.W.nsIn K mainGlobals "rows_of" = some (some (.ref f3))) (l3 : K.lookup f3 = some ⟨oc3, od3, .func (PySem.W.fnOf "rows_of" "rows_of" (defArgs s_rows_of) (defBody s_rows_of) (defScope s_rows_of) .none kV3 dc3 pm3 an3 cd3 ct3), sl3⟩) (c3 : PySem.W.codeIn K cd3 "rows_of" = true) (k3 : PySem.W.keepIn K (.ref f3) = true)
    (a4 : PySem.W.nsIn K mainGlobals "called_price" = some (some (.ref f4))) (l4 : K.lookup f4 = some ⟨oc4, od4, .func (PySem.W.fnOf "called_price" "called_price" (defArgs s_called_price) (defBody s_called_price) (defScope s_called_price) .none kV4 dc4 pm4 an4 cd4 ct4), sl4⟩) (c4 : PySem.W.codeIn K cd4 "called_price" = true) (k4 : PySem.W.keepIn K (.ref f4) = true)
    (a5 : PySem.W.nsIn K mainGlobals "_law_rows" = some (some (.ref f5))) (l5 : K.lookup f5 = some ⟨oc5, od5, .func (PySem.W.fnOf "_law_rows" "_law_rows" (defArgs s_z_rows) (defBody s_z_rows) (defScope s_z_rows) .none kV5 dc5 pm5 an5 cd5 ct5), sl5⟩) (c5 : PySem.W.codeIn K cd5 "_law_rows" = true) (k5 : PySem.W.keepIn K (.ref f5) = true)
    (a6 : PySem.W.nsIn K mainGlobals "_law_bag" = some (some (.ref f6))) (l6 : K.lookup f6 = some ⟨oc6, od6, .func (PySem.W.fnOf "_law_bag" "_law_bag" (defArgs s_z_bag) (defBody s_z_bag) (defScope s_z_bag) .none kV6 dc6 pm6 an6 cd6 ct6), sl6⟩) (c6 : PySem.W.codeIn K cd6 "_law_bag" = true) (k6 : PySem.W.keepIn K (.ref f6) = true)
    (a7 : PySem.W.nsIn K mainGlobals "_law_take" = some (some (.ref f7))) (l7 : K.lookup f7 = some ⟨oc7, od7, .func (PySem.W.fnOf "_law_take" "_law_take" (defArgs s_z_take) (defBody s_z_take) (defScope s_z_take) .none kV7 dc7 pm7 an7 cd7 ct7), sl7⟩) (c7 : PySem.W.codeIn K cd7 "_law_take" = true) (k7 : PySem.W.keepIn K (.ref f7) = true)
    (a8 : PySem.W.nsIn K mainGlobals "_law_prints" = some (some (.ref f8))) (l8 : K.lookup f8 = some ⟨oc8, od8, .func (PySem.W.fnOf "_law_prints" "_law_prints" (defArgs s_z_prints) (defBody s_z_prints) (defScope s_z_prints) .none kV8 dc8 pm8 an8 cd8 ct8), sl8⟩) (c8 : PySem.W.codeIn K cd8 "_law_prints" = true) (k8 : PySem.W.keepIn K (.ref f8) = true)
    (a9 : PySem.W.nsIn K mainGlobals "_law_shuffled" = some (some (.ref f9))) (l9 : K.lookup f9 = some ⟨oc9, od9, .func (PySem.W.fnOf "_law_shuffled" "_law_shuffled" (defArgs s_z_shuffled) (defBody s_z_shuffled) (defScope s_z_shuffled) .none kV9 dc9 pm9 an9 cd9 ct9), sl9⟩) (c9 : PySem.W.codeIn K cd9 "_law_shuffled" = true) (k9 : PySem.W.keepIn K (.ref f9) = true)
    (a10 : PySem.W.nsIn K mainGlobals "_law_called" = some (some (.ref f10))) (l10 : K.lookup f10 = some ⟨oc10, od10, .func (PySem.W.fnOf "_law_called" "_law_called" (defArgs s_z_called) (defBody s_z_called) (defScope s_z_called) .none kV10 dc10 pm10 an10 cd10 ct10), sl10⟩) (c10 : PySem.W.codeIn K cd10 "_law_called" = true) (k10 : PySem.W.keepIn K (.ref f10) = true)
    (a11 : PySem.W.nsIn K mainGlobals "_law_board" = some (some (.ref f11))) (l11 : K.lookup f11 = some ⟨oc11, od11, .func (PySem.W.fnOf "_law_board" "_law_board" (defArgs s_z_board) (defBody s_z_board) (defScope s_z_board) .none kV11 dc11 pm11 an11 cd11 ct11), sl11⟩) (c11 : PySem.W.codeIn K cd11 "_law_board" = true) (k11 : PySem.W.keepIn K (.ref f11) = true)
    (a12 : PySem.W.nsIn K mainGlobals "_law_lates" = some (some (.ref f12))) (l12 : K.lookup f12 = some ⟨oc12, od12, .func (PySem.W.fnOf "_law_lates" "_law_lates" (defArgs s_z_lates) (defBody s_z_lates) (defScope s_z_lates) .none kV12 dc12 pm12 an12 cd12 ct12), sl12⟩) (c12 : PySem.W.codeIn K cd12 "_law_lates" = true) (k12 : PySem.W.keepIn K (.ref f12) = true)
    (a13 : PySem.W.nsIn K mainGlobals "law" = some (some (.ref f13))) (l13 : K.lookup f13 = some ⟨oc13, od13, .func (PySem.W.fnOf "law" "law" (defArgs s_law) (defBody s_law) (defScope s_law) .none kV13 dc13 pm13 an13 cd13 ct13), sl13⟩) (c13 : PySem.W.codeIn K cd13 "law" = true) (k13 : PySem.W.keepIn K (.ref f13) = true)
    (z_enumerate : PySem.W.nsIn K mainGlobals "enumerate" = some none)
    (z_min : PySem.W.nsIn K mainGlobals "min" = some none)
    (z_max : PySem.W.nsIn K mainGlobals "max" = some none)
    (z_sum : PySem.W.nsIn K mainGlobals "sum" = some none)
    (z_sorted : PySem.W.nsIn K mainGlobals "sorted" = some none)
    (z_set : PySem.W.nsIn K mainGlobals "set" = some none)
    (z_len : PySem.W.nsIn K mainGlobals "len" = some none)
    (z_range : PySem.W.nsIn K mainGlobals "range" = some none)
    (z_int : PySem.W.nsIn K mainGlobals "int" = some none)
    (z_list : PySem.W.nsIn K mainGlobals "list" = some none) :
    ∃ fd : FuncData, (∀ (s : Shared) (v : Value), BindsTo s fd ⟨[v], []⟩ [("script", v)]) ∧ ∀ base : Heap, K.In base → base.Ns mainGlobals mg → FnOk l.prog w K mg base CX0 3 fa fd ["script"] (conc (saM K 1 f_law)) := by
  have e := hfa.symm.trans (PySem.W.mg_of X G a13)
  cases e
  have F1 := fun_mk (st := s_lates) l1 c1 k1
  have F2 := fun_mk (st := s_board) l2 c2 k2
  have F3 := fun_mk (st := s_rows_of) l3 c3 k3
  have F4 := fun_mk (st := s_called_price) l4 c4 k4
  have F5 := fun_mk (st := s_z_rows) l5 c5 k5
  have F6 := fun_mk (st := s_z_bag) l6 c6 k6
  have F7 := fun_mk (st := s_z_take) l7 c7 k7
  have F8 := fun_mk (st := s_z_prints) l8 c8 k8
  have F9 := fun_mk (st := s_z_shuffled) l9 c9 k9
  have F10 := fun_mk (st := s_z_called) l10 c10 k10
  have F11 := fun_mk (st := s_z_board) l11 c11 k11
  have F12 := fun_mk (st := s_z_lates) l12 c12 k12
  have F13 := fun_mk (st := s_law) l13 c13 k13
  refine ⟨PySem.W.fnOf "law" "law" (defArgs s_law) (defBody s_law) (defScope s_law) .none kV13 dc13 pm13 an13 cd13 ct13, fun s v => .of_eq rfl, fun base kb gb => ?_⟩
  have C_lates : Cal l.prog w K mg base 1 "lates" p_lates 1 f_lates := Cal.mk (ok_lates F1 (PySem.W.mg_none_of X G z_enumerate)) F1 (PySem.W.mg_of X G a1) fun _ _ _ _ _ _ us hl => match us, hl with | [_], _ => rfl
  have C_rows_of : Cal l.prog w K mg base 1 "rows_of" p_rows_of 1 f_rows_of := Cal.mk (ok_rows_of F3 (PySem.W.mg_none_of X G z_min) (PySem.W.mg_none_of X G z_max) (PySem.W.mg_none_of X G z_sorted)) F3 (PySem.W.mg_of X G a3) fun _ _ _ _ _ _ us hl => match us, hl with | [_], _ => rfl
  have C_called_price : Cal l.prog w K mg base 1 "called_price" p_called_price 2 f_called_price := Cal.mk (ok_called_price F4 (PySem.W.mg_none_of X G z_max)) F4 (PySem.W.mg_of X G a4) fun _ _ _ _ _ _ us hl => match us, hl with | [_, _], _ => rfl
  have C_z_rows : Cal l.prog w K mg base 1 "_law_rows" p_z_rows 1 f_z_rows := Cal.mk (ok_z_rows F5 (PySem.W.mg_none_of X G z_sorted) (PySem.W.mg_none_of X G z_set) (PySem.W.mg_none_of X G z_min) (PySem.W.mg_none_of X G z_max) (PySem.W.mg_none_of X G z_sum)) F5 (PySem.W.mg_of X G a5) fun _ _ _ _ _ _ us hl => match us, hl with | [_], _ => rfl
  have C_z_bag : Cal l.prog w K mg base 1 "_law_bag" p_z_bag 2 f_z_bag := Cal.mk (ok_z_bag F6 (PySem.W.mg_none_of X G z_len)) F6 (PySem.W.mg_of X G a6) fun _ _ _ _ _ _ us hl => match us, hl with | [_, _], _ => rfl
  have C_z_take : Cal l.prog w K mg base 1 "_law_take" p_z_take 2 f_z_take := Cal.mk (ok_z_take F7 ) F7 (PySem.W.mg_of X G a7) fun _ _ _ _ _ _ us hl => match us, hl with | [_, _], _ => rfl
  have C_z_called : Cal l.prog w K mg base 1 "_law_called" p_z_called 2 f_z_called := Cal.mk (ok_z_called F10 (PySem.W.mg_none_of X G z_max) (PySem.W.mg_none_of X G z_sum)) F10 (PySem.W.mg_of X G a10) fun _ _ _ _ _ _ us hl => match us, hl with | [_, _], _ => rfl
  have C_z_board : Cal l.prog w K mg base 1 "_law_board" p_z_board 1 f_z_board := Cal.mk (ok_z_board F11 (PySem.W.mg_none_of X G z_min) (PySem.W.mg_none_of X G z_max) (PySem.W.mg_none_of X G z_sum)) F11 (PySem.W.mg_of X G a11) fun _ _ _ _ _ _ us hl => match us, hl with | [_], _ => rfl
  have C_z_lates : Cal l.prog w K mg base 1 "_law_lates" p_z_lates 1 f_z_lates := Cal.mk (ok_z_lates F12 (PySem.W.mg_none_of X G z_range) (PySem.W.mg_none_of X G z_len)) F12 (PySem.W.mg_of X G a12) fun _ _ _ _ _ _ us hl => match us, hl with | [_], _ => rfl
  have C_board : Cal l.prog w K mg base 2 "board" p_board 1 f_board := Cal.mk (ok_board F2 C_rows_of (PySem.W.mg_none_of X G z_min) (PySem.W.mg_none_of X G z_max) (PySem.W.mg_none_of X G z_sum)) F2 (PySem.W.mg_of X G a2) fun _ _ _ _ _ _ us hl => match us, hl with | [_], _ => rfl
  have C_z_prints : Cal l.prog w K mg base 2 "_law_prints" p_z_prints 1 f_z_prints := Cal.mk (ok_z_prints F8 C_z_take (PySem.W.mg_none_of X G z_range) (PySem.W.mg_none_of X G z_min) (PySem.W.mg_none_of X G z_max) (PySem.W.mg_none_of X G z_int)) F8 (PySem.W.mg_of X G a8) fun _ _ _ _ _ _ us hl => match us, hl with | [_], _ => rfl
  have C_z_shuffled : Cal l.prog w K mg base 2 "_law_shuffled" p_z_shuffled 2 f_z_shuffled := Cal.mk (ok_z_shuffled F9 C_z_take (PySem.W.mg_none_of X G z_len)) F9 (PySem.W.mg_of X G a9) fun _ _ _ _ _ _ us hl => match us, hl with | [_, _], _ => rfl
  exact ok_law F13 C_z_bag C_z_prints C_z_take C_z_board C_z_rows C_z_called C_z_shuffled C_rows_of C_lates C_z_lates C_board C_called_price (PySem.W.mg_none_of X G z_range) (PySem.W.mg_none_of X G z_list) (PySem.W.mg_none_of X G z_min) (PySem.W.mg_none_of X G z_len)
end K10
namespace M
open PySem
/-! ### a dict whose keys are numbers -/
abbrev DK := List (L2.Key × D)
def mkD (F : Int → D) (is : List Int) : DK := is.map fun m => (Sum.inl m, F m)
theorem val_cons {k j : L2.Key} {d : D} {r : DK} : valD ((j, d) :: r) k = if j = k then some d else valD r k := by
  by_cases h : j = k <;> simp [valD, h]
theorem val_mk {F : Int → D} {x : Int} : ∀ {is : List Int}, valD (mkD F is) (.inl x) = if x ∈ is then some (F x) else none
  | [] => rfl
  | i :: is => by
    show valD ((Sum.inl i, F i) :: mkD F is) (.inl x) = _
    rw [val_cons, val_mk]
    by_cases h : i = x
    · subst h; simp
    · have h2 : ¬ (Sum.inl i : L2.Key) = .inl x := fun z => h (Sum.inl.inj z)
      have h3 : ¬ x = i := fun z => h z.symm
      rw [if_neg h2]
      simp [h3]
theorem any_mk {F : Int → D} {x : Int} {is : List Int} : ((mkD F is).any fun kv => decide (kv.1 = .inl x)) = decide (x ∈ is) := by
  unfold mkD
  rw [List.any_map]
  by_cases h : x ∈ is
  · rw [decide_eq_true h, List.any_eq_true]
    exact ⟨x, h, by simp⟩
  · rw [decide_eq_false h, List.any_eq_false]
    intro y hy
    simp
    intro z
    exact h (by rw [← z]; exact hy)
theorem put_mk {F : Int → D} {x : Int} {d : D} {is : List Int} : putD (mkD F is) (.inl x) d = mkD (fun m => if m = x then d else F m) (if x ∈ is then is else is ++ [x]) := by
  unfold putD
  rw [any_mk]
  by_cases h : x ∈ is
  · simp only [h, decide_true, if_true]
    unfold mkD
    rw [List.map_map]
    refine List.map_congr_left fun m hm => ?_
    show (if (Sum.inl m : L2.Key) = .inl x then _ else _) = _
    by_cases z : m = x
    · subst z; simp
    · have : ¬ (Sum.inl m : L2.Key) = .inl x := fun e => z (Sum.inl.inj e)
      simp [this, z]
  · simp only [h, decide_false, if_false, Bool.false_eq_true]
    unfold mkD
    rw [List.map_append]
    congr 1
    · refine List.map_congr_left fun m hm => ?_
      have : ¬ m = x := fun z => h (by rw [← z]; exact hm)
      simp [this]
    · simp
theorem mk_congr {F G : Int → D} {is : List Int} (h : ∀ m ∈ is, F m = G m) : mkD F is = mkD G is := List.map_congr_left fun m hm => by rw [h m hm]
theorem keys_mk {F : Int → D} {is : List Int} : keysD (mkD F is) = is.map .int := by unfold keysD mkD; rw [List.map_map]; rfl
theorem items_mk {F : Int → D} {is : List Int} : itemsD (mkD F is) = is.map fun m => .tuple [.int m, F m] := by unfold itemsD mkD; rw [List.map_map]; rfl
/-- one more key -/
def addK (is : List Int) (x : Int) : List Int := if x ∈ is then is else is ++ [x]
theorem addK_mem {is : List Int} {x m : Int} : m ∈ addK is x ↔ m ∈ is ∨ m = x := by
  unfold addK; split
  · constructor
    · exact .inl
    · rintro (h | rfl)
      · exact h
      · assumption
  · simp
theorem addK_nodup {is : List Int} {x : Int} (h : is.Nodup) : (addK is x).Nodup := by
  unfold addK; split
  · exact h
  · rename_i z
    exact List.nodup_append.mpr ⟨h, by simp, fun a ha b hb e => z (by simp at hb; subst hb e; exact ha)⟩
theorem addK_len {is : List Int} {x : Int} : (addK is x).length ≤ is.length + 1 := by
  unfold addK; split <;> simp
/-! ### numbers in their order -/
theorem le_int {a b : Int} : decide (a ≤ b) = PySem.W.dataLe false (fun d : D => d) (.int a) (.int b) := by
  show _ = !PySem.W.dataLt (.int b) (.int a)
  rw [PySem.W.dataLt_int]
  by_cases h : a ≤ b
  · have : ¬ b < a := by omega
    simp [h]
  · have : b < a := by omega
    simp [h, this]
def srtI (is : List Int) : List Int := is.mergeSort fun a b => decide (a ≤ b)
theorem srt_int (is : List Int) : srtD (is.map .int) = (srtI is).map .int := (List.map_mergeSort (f := PyData.int) (r := fun a b => decide (a ≤ b)) (s := PySem.W.dataLe false (fun d : D => d)) (l := is) fun a _ b _ => le_int).symm
theorem srt_perm {is : List Int} : (srtI is).Perm is := List.mergeSort_perm _ _
theorem srt_lt {is : List Int} (h : is.Nodup) : (srtI is).Pairwise (· < ·) := by
  have h1 : (srtI is).Pairwise fun a b => decide (a ≤ b) = true := List.pairwise_mergeSort (fun a b c => by simp; omega) (fun a b => by simp; omega) is
  have h2 : (srtI is).Nodup := srt_perm.nodup_iff.mpr h
  exact (h1.and h2).imp fun ⟨a, b⟩ => by simp at a; omega
theorem lay_ints : ∀ (is : List Int), PyData.canLayAll0 (is.map .int) = true
  | [] => rfl
  | i :: is => by rw [List.map_cons, PyData.canLayAll0, lay_ints is]; rfl
theorem dep_ints {is : List Int} : PyData.depthAll (is.map .int) ≤ 60 := dep_le fun e he => by
  obtain ⟨i, -, rfl⟩ := List.mem_map.mp he
  show (0 : Nat) ≤ 60
  omega
theorem ord_ints {is : List Int} (h : is.length ≤ lim) : ordB (is.map .int) = true := by
  refine ordB_iff.mpr ⟨fun d hd e he => ?_, .inr fun d hd => ?_, by rw [List.length_map]; exact h, lay_ints is, dep_ints⟩
  · obtain ⟨i, -, rfl⟩ := List.mem_map.mp hd
    obtain ⟨j, -, rfl⟩ := List.mem_map.mp he
    rfl
  · obtain ⟨i, -, rfl⟩ := List.mem_map.mp hd
    rfl
abbrev e2 (p : Int × Int) : D := .tuple [.int p.1, .int p.2]
theorem lay_two : ∀ (ps : List (Int × Int)), PyData.canLayAll0 (ps.map e2) = true
  | [] => rfl
  | i :: is => by rw [List.map_cons, PyData.canLayAll0, lay_two is]; rfl
theorem ord_two {ps : List (Int × Int)} (h : ps.length ≤ lim) : ordB (ps.map e2) = true := by
  refine ordB_iff.mpr ⟨fun d hd e he => ?_, .inl fun d hd => ?_, by rw [List.length_map]; exact h, lay_two ps, dep_le fun e he => ?_⟩
  · obtain ⟨i, -, rfl⟩ := List.mem_map.mp hd
    obtain ⟨j, -, rfl⟩ := List.mem_map.mp he
    rfl
  · obtain ⟨i, -, rfl⟩ := List.mem_map.mp hd
    rfl
  · obtain ⟨i, -, rfl⟩ := List.mem_map.mp he
    have : (e2 i).depth = 1 := rfl
    omega
/-- which of two pairs is the less -/
def lt2 (p q : Int × Int) : Prop := p.1 < q.1 ∨ (p.1 = q.1 ∧ p.2 < q.2)
instance (p q : Int × Int) : Decidable (lt2 p q) := inferInstanceAs (Decidable (_ ∨ _))
def top2 (p : Int × Int) (ps : List (Int × Int)) : Int × Int := ps.foldl (fun a y => if lt2 a y then y else a) p
theorem max_two : ∀ {ps : List (Int × Int)} {p : Int × Int}, PySem.W.maxD (e2 p) (ps.map e2) = e2 (top2 p ps)
  | [], p => rfl
  | q :: ps, p => by
    show (ps.map e2).foldl _ (if PySem.W.dataLt (e2 p) (e2 q) then e2 q else e2 p) = _
    have e : PySem.W.dataLt (e2 p) (e2 q) = decide (lt2 p q) := PySem.W.dataLt_ii _ _ _ _
    rw [e]
    have e' : (if decide (lt2 p q) = true then e2 q else e2 p) = e2 (if lt2 p q then q else p) := by
      by_cases h : lt2 p q <;> simp [h]
    rw [e']
    exact max_two (ps := ps)
theorem top2_spec : ∀ {ps : List (Int × Int)} {p : Int × Int}, (top2 p ps = p ∨ top2 p ps ∈ ps) ∧ ¬ lt2 (top2 p ps) p ∧ ∀ q ∈ ps, ¬ lt2 (top2 p ps) q
  | [], p => ⟨.inl rfl, by unfold top2 lt2; simp, fun q hq => by cases hq⟩
  | q :: ps, p => by
    obtain ⟨h1, h2, h3⟩ := top2_spec (ps := ps) (p := if lt2 p q then q else p)
    have e : top2 p (q :: ps) = top2 (if lt2 p q then q else p) ps := rfl
    rw [e]
    generalize top2 (if lt2 p q then q else p) ps = t at *
    by_cases z : lt2 p q
    · rw [if_pos z] at h1 h2
      refine ⟨.inr (by rcases h1 with rfl | h <;> simp [*]), fun w => h2 ?_, fun r hr => ?_⟩
      · unfold lt2 at *; omega
      · rcases List.mem_cons.mp hr with rfl | hr
        · exact h2
        · exact h3 r hr
    · rw [if_neg z] at h1 h2
      refine ⟨by rcases h1 with rfl | h <;> simp [*], h2, fun r hr => ?_⟩
      rcases List.mem_cons.mp hr with rfl | hr
      · intro w; unfold lt2 at *; omega
      · exact h3 r hr
/-! ### the greatest and the least are one -/
theorem top_of {xs : List Int} {m : Int} (h1 : m ∈ xs) (h2 : ∀ y ∈ xs, y ≤ m) : topI xs = some m := by
  cases e : topI xs with
  | none => cases xs with
    | nil => cases h1
    | cons x xs => cases e
  | some n =>
    obtain ⟨a, b⟩ := topI_spec e
    have := b m h1
    have := h2 n a
    congr 1; omega
theorem low_of {xs : List Int} {m : Int} (h1 : m ∈ xs) (h2 : ∀ y ∈ xs, m ≤ y) : lowI xs = some m := by
  cases e : lowI xs with
  | none => cases xs with
    | nil => cases h1
    | cons x xs => cases e
  | some n =>
    obtain ⟨a, b⟩ := lowI_spec e
    have := b m h1
    have := h2 n a
    congr 1; omega
theorem top_some {xs : List Int} (h : xs ≠ []) : ∃ m, topI xs = some m := by
  cases xs with
  | nil => exact absurd rfl h
  | cons x xs => exact ⟨_, rfl⟩
theorem low_some {xs : List Int} (h : xs ≠ []) : ∃ m, lowI xs = some m := by
  cases xs with
  | nil => exact absurd rfl h
  | cons x xs => exact ⟨_, rfl⟩
/-- rising lists with the same members are one -/
theorem rise_eq : ∀ {a b : List Int}, a.Pairwise (· < ·) → b.Pairwise (· < ·) → (∀ m, m ∈ a ↔ m ∈ b) → a = b
  | [], [], _, _, _ => rfl
  | [], y :: b, _, _, h => by have := (h y).mpr (by simp); cases this
  | x :: a, [], _, _, h => by have := (h x).mp (by simp); cases this
  | x :: a, y :: b, ha, hb, h => by
    rw [List.pairwise_cons] at ha hb
    have e : x = y := by
      rcases List.mem_cons.mp ((h x).mp (by simp)) with z | z
      · exact z
      · rcases List.mem_cons.mp ((h y).mpr (by simp)) with w | w
        · exact w.symm
        · have := hb.1 x z
          have := ha.1 y w
          omega
    subst e
    rw [rise_eq ha.2 hb.2 fun m => ?_]
    constructor
    · intro hm
      rcases List.mem_cons.mp ((h m).mp (by simp [hm])) with z | z
      · have := ha.1 m hm; omega
      · exact z
    · intro hm
      rcases List.mem_cons.mp ((h m).mpr (by simp [hm])) with z | z
      · have := hb.1 m hm; omega
      · exact z
end M
namespace M
open PySem
/-! ### stepping: enumerate, dicts, truth -/
section
variable {ε : Env} {P : Rs → Env → Prop} {PS : Fl → Env → Prop} {PI : List D → Env → Prop} {PT : Bool → Env → Prop} {ma mb me mo mk mx : mB} {m : mA}
theorem w_enum (h : W2 (m ε) fun rs ε1 => W2 (frzAll rs ε1) fun ds ε2 => ∃ es, ds = [.list es] ∧ PI (enumD es) ε2) : W2 (mEnum m ε) PI := by
  obtain ⟨rs, ε1, e1, ds, ε2, e2, es, rfl, q⟩ := h
  exact ⟨_, ε2, by simp only [mEnum, e1, e2], q⟩
theorem w_dnew (q : P (.val (.dic [])) ε) : W2 (mDNew ε) P := ⟨_, _, rfl, q⟩
theorem w_dget2 (h : W2 (mo ε) fun r ε1 => ∃ i kvs0, r = .slot i ∧ dicAt ε1 i = some kvs0 ∧ W2 (mk ε1) fun rk ε2 => ∃ d k, rk = .val (.dat d) ∧ keyOf d = some k ∧ W2 (mx ε2) fun rx ε3 => ∃ kvs, dicAt ε3 i = some kvs ∧
    match valD kvs k with
    | some e => P (.val (.dat e)) ε3
    | none => P rx ε3) : W2 (mDGet2 mo mk mx ε) P := by
  obtain ⟨r, ε1, e1, i, kvs0, rfl, e2, rk, ε2, e3, d, k, rfl, e4, rx, ε3, e5, kvs, e6, q⟩ := h
  cases z : valD kvs k with
  | some e => rw [z] at q; exact ⟨_, ε3, by simp only [mDGet2, e1, e2, e3, e4, e5, e6, z], q⟩
  | none => rw [z] at q; exact ⟨_, ε3, by simp only [mDGet2, e1, e2, e3, e4, e5, e6, z], q⟩
theorem w_dix (h : W2 (mo ε) fun r ε1 => W2 (mk ε1) fun rk ε2 => ∃ i d k, r = .slot i ∧ rk = .val (.dat d) ∧ keyOf d = some k ∧ ∃ kvs, dicAt ε2 i = some kvs ∧ W1 (valD kvs k) fun e => P (.val (.dat e)) ε2) : W2 (mDIx mo mk ε) P := by
  obtain ⟨r, ε1, e1, rk, ε2, e2, i, d, k, rfl, rfl, e3, kvs, e4, e, e5, q⟩ := h
  exact ⟨_, ε2, by simp only [mDIx, e1, e2, e3, e4, e5], q⟩
theorem w_dput (h : W2 (me ε) fun r ε1 => W2 (mo ε1) fun ro ε2 => W2 (mk ε2) fun rk ε3 => ∃ i c j, ro = .slot i ∧ rk = .val (.dat c) ∧ keyOf c = some j ∧ W2 (frzR r ε3) fun d ε4 => ∃ kvs, M.slotAt ε4 i = some (.dic kvs) ∧ (kvs.length < lim ∧ PS .nx (ε4.set i (some (.dic (putD kvs j d)))))) : W2 (mDPut mo mk me ε) PS := by
  obtain ⟨r, ε1, e1, ro, ε2, e2, rk, ε3, e3, i, c, j, rfl, rfl, e4, d, ε4, e5, kvs, e6, hl, q⟩ := h
  exact ⟨_, _, by simp only [mDPut, e1, e2, e3, e4, e5, e6, if_pos hl], q⟩
theorem w_sortK (h : W2 (m ε) fun rs ε1 => ∃ i, rs = [.slot i] ∧ ∃ kvs, dicAt ε1 i = some kvs ∧ (ordB (keysD kvs) = true ∧ P (.val (.lst ((srtD (keysD kvs)).map .dat))) ε1)) : W2 (mSortK m ε) P := by
  obtain ⟨rs, ε1, e1, i, rfl, kvs, e2, ho, q⟩ := h
  exact ⟨_, ε1, by simp only [mSortK, e1, e2, ho, if_true], q⟩
theorem w_tru (h : W2 (me ε) fun r ε1 => ∃ o, r.get ε1 = some o ∧ W1 (truO o) fun b => PT b ε1) : W2 (mTru me ε) PT := by
  obtain ⟨r, ε1, e1, o, e2, b, e3, q⟩ := h
  exact ⟨b, ε1, by simp only [mTru, e1, e2, e3], q⟩
theorem w_orT (h : W2 (ma ε) fun r ε1 => ∃ o, r.get ε1 = some o ∧ W1 (truO o) fun b => if b = true then P r ε1 else W2 (mb ε1) P) : W2 (mOrT ma mb ε) P := by
  obtain ⟨r, ε1, e1, o, e2, b, e3, q⟩ := h
  cases b with
  | true => exact ⟨r, ε1, by simp only [mOrT, e1, e2, e3], by simpa using q⟩
  | false =>
    obtain ⟨c, ε2, e4, q⟩ := (show W2 (mb ε1) P from by simpa using q)
    exact ⟨c, ε2, by simp only [mOrT, e1, e2, e3, e4], q⟩
theorem w_lock {i : Nat} {kvs : List (L2.Key × D)} (hs : M.slotAt ε i = some (.dic kvs)) (h : W2 (me (ε.set i (some (.lck kvs)))) fun r ε1 => ∃ o, r = .val o ∧ ((noLck o && noLckE (ε1.set i none)) = true ∧ P (.val o) (ε1.set i (some (.dic kvs))))) : W2 (mLockE i me ε) P := by
  obtain ⟨r, ε1, e1, o, rfl, hn, q⟩ := h
  exact ⟨_, _, by simp only [mLockE, hs, e1, hn, if_true], q⟩
theorem w_walkD {f : List (L2.Key × D) → List D} (h : W2 (mo ε) fun r ε1 => ∃ i kvs, r = .slot i ∧ M.slotAt ε1 i = some (.lck kvs) ∧ PI (f kvs) ε1) : W2 (mWalkD f mo ε) PI := by
  obtain ⟨r, ε1, e1, i, kvs, rfl, e2, q⟩ := h
  exact ⟨_, ε1, by simp only [mWalkD, e1, e2], q⟩
end
section
variable {is : List Int} {Q : O → Prop} {n : Int}
theorem n_top (h : topI is = some n) (q : Q (.dat (.int n))) : W1 (one pTop [.lst ((is.map .int).map .dat)]) Q := ⟨_, by simp only [one, pTop, asL_map, numsD_map, h], q⟩
theorem n_low (h : lowI is = some n) (q : Q (.dat (.int n))) : W1 (one pLow [.lst ((is.map .int).map .dat)]) Q := ⟨_, by simp only [one, pLow, asL_map, numsD_map, h], q⟩
theorem n_sum (q : Q (.dat (.int is.sum))) : W1 (one pSum [.lst ((is.map .int).map .dat)]) Q := ⟨_, by simp only [one, pSum, asL_map, numsD_map], q⟩
theorem n_best2 {p : Int × Int} {ps : List (Int × Int)} (h : (p :: ps).length ≤ lim) (q : Q (.dat (e2 (top2 p ps)))) : W1 (one (pBestD PySem.W.maxD) [.lst (((p :: ps).map e2).map .dat)]) Q := by
  refine ⟨_, ?_, q⟩
  have e := ord_two h
  rw [List.map_cons] at e
  simp only [one, pBestD, List.map_cons (f := e2), asL_map, e, if_true, max_two]
theorem n_join {a b : O} {ds es : List D} (h1 : asL a = some ds) (h2 : asL b = some es) (hl : ds.length + es.length ≤ lim) (q : Q (.lst ((ds ++ es).map .dat))) : W1 (pJoin a b) Q := ⟨_, by simp only [pJoin, h1, h2, if_pos hl], q⟩
end
/-! ### lists, owned or not -/
def Arr (o : O) (ds : List D) : Prop := o = .lst (ds.map .dat) ∨ o = .dat (.list ds)
theorem Arr.asL {o : O} {ds : List D} (h : Arr o ds) : M.asL o = some ds := by
  rcases h with rfl | rfl
  · exact asL_map
  · rfl
theorem Arr.er {o : O} {ds : List D} (h : Arr o ds) : o.pl = true ∧ o.er = .list ds := by
  rcases h with rfl | rfl
  · simp only [O.pl, O.er, plL_dat, erL_dat, and_self]
  · exact ⟨rfl, rfl⟩
/-- two lists of the same good things are not different -/
theorem n_neL {a b : O} {ds : List D} {Q : O → Prop} (ha : Arr a ds) (hb : Arr b ds) (hg : ∀ e ∈ ds, Good e) (q : Q (.dat (.bool false))) : W1 (pNe a b) Q := by
  have h := shapedL hg
  refine ⟨_, ?_, q⟩
  simp only [pNe, shp, ha.er, hb.er, h, Bool.true_and, if_true, SeqAt.eqv_refl _ (SeqAt.canLay_of_shaped h), Bool.not_true]
theorem n_slL {a : O} {ds : List D} {lo hi : Option Int} {Q : O → Prop} (ha : Arr a ds) (q : Q (.lst ((Z.cutD ds lo hi).map .dat))) : W1 (pSl a lo hi) Q := by
  refine ⟨_, ?_, q⟩
  rcases ha with rfl | rfl
  · simp only [pSl, asL_map]
  · rfl
theorem n_slT {ds : List D} {lo hi : Option Int} {Q : O → Prop} (q : Q (.dat (.tuple (Z.cutD ds lo hi)))) : W1 (pSl (.dat (.tuple ds)) lo hi) Q := ⟨_, rfl, q⟩
theorem cut_to {ds : List D} {n : Nat} : Z.cutD ds none (some (n : Int)) = ds.take n := by
  unfold Z.cutD
  rw [HT.sIx_none, HT.sIx_nat, Nat.sub_zero, List.drop_zero, List.take_eq_take_iff]
  omega
theorem cut_from {ds : List D} {n : Nat} : Z.cutD ds (some (n : Int)) none = ds.drop n := by
  unfold Z.cutD
  rw [HT.sIx_none, HT.sIx_nat, List.take_of_length_le (by rw [List.length_drop]; omega)]
  rcases Nat.le_total n ds.length with z | z
  · rw [Nat.min_eq_left z]
  · rw [Nat.min_eq_right z, List.drop_eq_nil_of_le (Nat.le_refl _), List.drop_eq_nil_of_le z]
end M
namespace K36
open PySem M
/-! ### prints: a moment, a price, a count -/
abbrev T3 := Int × Int × Int
abbrev e3 (p : T3) : D := .tuple [.int p.1, .int p.2.1, .int p.2.2]
abbrev R4 := Int × T3
abbrev e4 (r : R4) : D := .tuple [.int r.1, .int r.2.1, .int r.2.2.1, .int r.2.2.2]
theorem good_e3 (p : T3) : Good (e3 p) := rfl
theorem good_e4 (p : R4) : Good (e4 p) := rfl
def Has (l : List T3) (m : Int) : Prop := ∃ p ∈ l, p.1 = m
def sm (l : List T3) (m : Int) : Int := ((l.filter fun p => decide (p.1 = m)).map (·.2.2)).sum
structure Stat (l : List T3) (m : Int) (s : T3) : Prop where
  l1 : ∃ p ∈ l, p.1 = m ∧ p.2.1 = s.1
  l2 : ∀ p ∈ l, p.1 = m → s.1 ≤ p.2.1
  h1 : ∃ p ∈ l, p.1 = m ∧ p.2.1 = s.2.1
  h2 : ∀ p ∈ l, p.1 = m → p.2.1 ≤ s.2.1
  c : s.2.2 = sm l m
def stepS (m : Int) (s : Option T3) (p : T3) : Option T3 := if p.1 = m then
    some (match s with
      | some q => (if p.2.1 < q.1 then p.2.1 else q.1, if p.2.1 > q.2.1 then p.2.1 else q.2.1, q.2.2 + p.2.2)
      | none => (if p.2.1 < p.2.1 then p.2.1 else p.2.1, if p.2.1 > p.2.1 then p.2.1 else p.2.1, 0 + p.2.2))
  else s
def StatO (l : List T3) (m : Int) : Option T3 → Prop
  | some s => Stat l m s
  | none => ¬ Has l m
theorem sm_snoc {l : List T3} {p : T3} {m : Int} : sm (l ++ [p]) m = sm l m + if p.1 = m then p.2.2 else 0 := by
  unfold sm
  by_cases h : p.1 = m <;> simp [List.filter_append, h]
theorem sm_none {l : List T3} {m : Int} (h : ¬ Has l m) : sm l m = 0 := by
  unfold sm
  rw [List.filter_eq_nil_iff.mpr fun p hp => by simpa using fun z => h ⟨p, hp, z⟩]
  rfl
theorem stat_step {l : List T3} {m : Int} {s : Option T3} {p : T3} (h : StatO l m s) : StatO (l ++ [p]) m (stepS m s p) := by
  unfold stepS
  by_cases z : p.1 = m
  · rw [if_pos z]
    cases s with
    | none =>
      have h0 : ¬ Has l m := h
      refine ⟨⟨p, by simp, z, by simp⟩, fun q hq e => ?_, ⟨p, by simp, z, by simp⟩, fun q hq e => ?_, ?_⟩
      · rcases List.mem_append.mp hq with w | w
        · exact absurd ⟨q, w, e⟩ h0
        · simp at w; subst w; simp
      · rcases List.mem_append.mp hq with w | w
        · exact absurd ⟨q, w, e⟩ h0
        · simp at w; subst w; simp
      · rw [sm_snoc, if_pos z, sm_none h0]
    | some s =>
      obtain ⟨⟨a, ha, ha1, ha2⟩, h2, ⟨b, hb, hb1, hb2⟩, h4, h5⟩ := (h : Stat l m s)
      refine ⟨?_, fun q hq e => ?_, ?_, fun q hq e => ?_, ?_⟩
      · by_cases w : p.2.1 < s.1
        · exact ⟨p, by simp, z, by simp [w]⟩
        · exact ⟨a, by simp [ha], ha1, by simp [w, ha2]⟩
      · rcases List.mem_append.mp hq with w | w
        · have := h2 q w e
          show (if p.2.1 < s.1 then p.2.1 else s.1) ≤ _
          split <;> omega
        · simp at w; subst w
          show (if q.2.1 < s.1 then q.2.1 else s.1) ≤ _
          split <;> omega
      · by_cases w : p.2.1 > s.2.1
        · exact ⟨p, by simp, z, by simp [w]⟩
        · exact ⟨b, by simp [hb], hb1, by simp [w, hb2]⟩
      · rcases List.mem_append.mp hq with w | w
        · have := h4 q w e
          show _ ≤ (if p.2.1 > s.2.1 then p.2.1 else s.2.1)
          split <;> omega
        · simp at w; subst w
          show _ ≤ (if q.2.1 > s.2.1 then q.2.1 else s.2.1)
          split <;> omega
      · rw [sm_snoc, if_pos z, ← h5]
  · rw [if_neg z]
    cases s with
    | none =>
      rintro ⟨q, hq, e⟩
      rcases List.mem_append.mp hq with w | w
      · exact h ⟨q, w, e⟩
      · simp at w; subst w; exact z e
    | some s =>
      obtain ⟨⟨a, ha, ha1, ha2⟩, h2, ⟨b, hb, hb1, hb2⟩, h4, h5⟩ := (h : Stat l m s)
      refine ⟨⟨a, by simp [ha], ha1, ha2⟩, fun q hq e => ?_, ⟨b, by simp [hb], hb1, hb2⟩, fun q hq e => ?_, by rw [sm_snoc, if_neg z, Int.add_zero, h5]⟩
      · rcases List.mem_append.mp hq with w | w
        · exact h2 q w e
        · simp at w; subst w; exact absurd e z
      · rcases List.mem_append.mp hq with w | w
        · exact h4 q w e
        · simp at w; subst w; exact absurd e z
def stat (l : List T3) (m : Int) : Option T3 := l.foldl (stepS m) none
theorem stat_snoc {l : List T3} {p : T3} {m : Int} : stat (l ++ [p]) m = stepS m (stat l m) p := by simp [stat]
theorem stat_ok (l : List T3) (m : Int) : StatO l m (stat l m) := by
  have key : ∀ (b a : List T3) (s : Option T3), StatO a m s → StatO (a ++ b) m (b.foldl (stepS m) s) := by
    intro b
    induction b with
    | nil => intro a s h; simpa using h
    | cons p b ih =>
      intro a s h
      have := ih (a ++ [p]) _ (stat_step (p := p) h)
      simpa using this
  exact key l [] none (fun ⟨p, hp, _⟩ => by cases hp)
theorem Stat.has {l : List T3} {m : Int} {s : T3} (h : Stat l m s) : Has l m := by
  obtain ⟨p, hp, e, _⟩ := h.l1
  exact ⟨p, hp, e⟩
theorem Stat.one {l : List T3} {m : Int} {s t : T3} (h : Stat l m s) (k : Stat l m t) : s = t := by
  obtain ⟨⟨a, ha, ha1, ha2⟩, h2, ⟨b, hb, hb1, hb2⟩, h4, h5⟩ := h
  obtain ⟨⟨c, hc, hc1, hc2⟩, k2, ⟨d, hd, hd1, hd2⟩, k4, k5⟩ := k
  have := h2 c hc hc1
  have := k2 a ha ha1
  have := h4 d hd hd1
  have := k4 b hb hb1
  obtain ⟨s1, s2, s3⟩ := s
  obtain ⟨t1, t2, t3⟩ := t
  simp only at *
  rw [h5, k5]
  have e1 : s1 = t1 := by omega
  have e2 : s2 = t2 := by omega
  rw [e1, e2]
theorem Stat.is {l : List T3} {m : Int} {s : T3} (h : Stat l m s) : stat l m = some s := by
  have := stat_ok l m
  cases e : stat l m with
  | none => rw [e] at this; exact absurd h.has this
  | some t => rw [e] at this; rw [Stat.one h this]
theorem stat_has {l : List T3} {m : Int} (h : Has l m) : ∃ s, stat l m = some s ∧ Stat l m s := by
  have := stat_ok l m
  cases e : stat l m with
  | none => rw [e] at this; exact absurd h this
  | some t => rw [e] at this; exact ⟨t, rfl, this⟩
/-! ### the rows -/
structure IsRows (l : List T3) (rs : List R4) : Prop where
  up : (rs.map (·.1)).Pairwise (· < ·)
  mem : ∀ m, m ∈ rs.map (·.1) ↔ Has l m
  st : ∀ r ∈ rs, Stat l r.1 r.2
theorem IsRows.one {l : List T3} {rs ts : List R4} (h : IsRows l rs) (k : IsRows l ts) : rs = ts := by
  have e : ∀ {qs : List R4}, IsRows l qs → (qs.map (·.1)).map (fun m => (m, (stat l m).getD (0, 0, 0))) = qs := fun {qs} hq => by
    rw [List.map_map]
    refine (List.map_congr_left (g := id) fun r hr => ?_).trans (List.map_id _)
    show (r.1, (stat l r.1).getD (0, 0, 0)) = r
    rw [(hq.st r hr).is]
    rfl
  rw [← e h, ← e k, rise_eq h.up k.up fun m => (h.mem m).trans (k.mem m).symm]
/-! moved -/
def mv (a b : Int) (p : T3) : T3 := (p.1 + a, p.2.1 + b, p.2.2)
def mvR (a b : Int) (r : R4) : R4 := (r.1 + a, r.2.1 + b, r.2.2.1 + b, r.2.2.2)
theorem has_mv {l : List T3} {a b m : Int} : Has (l.map (mv a b)) (m + a) ↔ Has l m := by
  constructor
  · rintro ⟨q, hq, e⟩
    obtain ⟨p, hp, rfl⟩ := List.mem_map.mp hq
    exact ⟨p, hp, by have : p.1 + a = m + a := e; omega⟩
  · rintro ⟨p, hp, e⟩
    exact ⟨_, List.mem_map_of_mem hp, by show p.1 + a = m + a; omega⟩
theorem sm_mv {a b m : Int} : ∀ {l : List T3}, sm (l.map (mv a b)) (m + a) = sm l m
  | [] => rfl
  | p :: l => by
    have ih := sm_mv (a := a) (b := b) (m := m) (l := l)
    unfold sm at *
    have e : decide ((mv a b p).1 = m + a) = decide (p.1 = m) := by
      show decide (p.1 + a = m + a) = _
      by_cases z : p.1 = m
      · simp [z]
      · have : ¬ p.1 + a = m + a := by omega
        simp [z]
    rw [List.map_cons, List.filter_cons, List.filter_cons, e]
    by_cases z : p.1 = m
    · simp only [z, decide_true, if_true, List.map_cons, List.sum_cons, ih]; rfl
    · simp only [z, decide_false, Bool.false_eq_true, if_false, ih]
theorem stat_mv {l : List T3} {a b m : Int} {s : T3} (h : Stat l m s) : Stat (l.map (mv a b)) (m + a) (s.1 + b, s.2.1 + b, s.2.2) := by
  obtain ⟨⟨p, hp, hp1, hp2⟩, h2, ⟨q, hq, hq1, hq2⟩, h4, h5⟩ := h
  refine ⟨⟨_, List.mem_map_of_mem hp, ?_, ?_⟩, fun r hr e => ?_, ⟨_, List.mem_map_of_mem hq, ?_, ?_⟩, fun r hr e => ?_, ?_⟩
  · show p.1 + a = m + a; omega
  · show p.2.1 + b = s.1 + b; omega
  · obtain ⟨r, hr', rfl⟩ := List.mem_map.mp hr
    have := h2 r hr' (by have : r.1 + a = m + a := e; omega)
    show s.1 + b ≤ r.2.1 + b; omega
  · show q.1 + a = m + a; omega
  · show q.2.1 + b = s.2.1 + b; omega
  · obtain ⟨r, hr', rfl⟩ := List.mem_map.mp hr
    have := h4 r hr' (by have : r.1 + a = m + a := e; omega)
    show r.2.1 + b ≤ s.2.1 + b; omega
  · rw [sm_mv]; exact h5
theorem IsRows.mv {l : List T3} {rs : List R4} {a b : Int} (h : IsRows l rs) : IsRows (l.map (K36.mv a b)) (rs.map (mvR a b)) := by
  refine ⟨?_, fun m => ?_, fun r hr => ?_⟩
  · rw [List.map_map]
    have := h.up
    rw [List.pairwise_map] at this ⊢
    exact this.imp fun {x y} z => by show x.1 + a < y.1 + a; omega
  · have e : m = (m - a) + a := by omega
    rw [e, has_mv, ← h.mem, List.map_map]
    constructor
    · intro z
      obtain ⟨r, hr, e⟩ := List.mem_map.mp z
      have e' : r.1 + a = m - a + a := e
      exact List.mem_map.mpr ⟨r, hr, by show r.1 = m - a; omega⟩
    · intro z
      obtain ⟨r, hr, e⟩ := List.mem_map.mp z
      have e' : r.1 = m - a := e
      exact List.mem_map.mpr ⟨r, hr, by show r.1 + a = m - a + a; omega⟩
  · obtain ⟨r, hr', rfl⟩ := List.mem_map.mp hr
    exact stat_mv (h.st r hr')
/-! twice -/
def dbl (r : R4) : R4 := (r.1, r.2.1, r.2.2.1, 2 * r.2.2.2)
theorem has_two {l : List T3} {m : Int} : Has (l ++ l) m ↔ Has l m := by
  unfold Has; simp
theorem stat_two {l : List T3} {m : Int} {s : T3} (h : Stat l m s) : Stat (l ++ l) m (s.1, s.2.1, 2 * s.2.2) := by
  obtain ⟨⟨p, hp, hp1, hp2⟩, h2, ⟨q, hq, hq1, hq2⟩, h4, h5⟩ := h
  refine ⟨⟨p, by simp [hp], hp1, hp2⟩, fun r hr e => h2 r (by simpa using hr) e, ⟨q, by simp [hq], hq1, hq2⟩, fun r hr e => h4 r (by simpa using hr) e, ?_⟩
  show 2 * s.2.2 = _
  rw [h5]
  unfold sm
  rw [List.filter_append, List.map_append, List.sum_append]
  omega
theorem IsRows.two {l : List T3} {rs : List R4} (h : IsRows l rs) : IsRows (l ++ l) (rs.map dbl) := by
  have e : (rs.map dbl).map (·.1) = rs.map (·.1) := by rw [List.map_map]; rfl
  refine ⟨by rw [e]; exact h.up, fun m => by rw [e, has_two]; exact h.mem m, fun r hr => ?_⟩
  obtain ⟨r, hr', rfl⟩ := List.mem_map.mp hr
  exact stat_two (h.st r hr')
/-! one moment -/
theorem IsRows.part {l : List T3} {rs : List R4} {r : R4} (h : IsRows l rs) (hr : r ∈ rs) : IsRows (l.filter fun p => decide (p.1 = r.1)) [r] := by
  have k := h.st r hr
  refine ⟨by simp, fun m => ?_, fun q hq => ?_⟩
  · constructor
    · intro z
      simp at z
      subst z
      obtain ⟨p, hp, e⟩ := k.has
      exact ⟨p, by simp [hp, e], e⟩
    · rintro ⟨p, hp, e⟩
      simp at hp
      simp; omega
  · simp at hq; subst hq
    obtain ⟨⟨p, hp, hp1, hp2⟩, h2, ⟨c, hc, hc1, hc2⟩, h4, h5⟩ := k
    refine ⟨⟨p, by simp [hp, hp1], hp1, hp2⟩, fun r hr e => h2 r (List.mem_filter.mp hr).1 e, ⟨c, by simp [hc, hc1], hc1, hc2⟩, fun r hr e => h4 r (List.mem_filter.mp hr).1 e, ?_⟩
    rw [h5]
    unfold sm
    rw [List.filter_filter]
    simp
/-! the whole -/
theorem IsRows.ne {l : List T3} {rs : List R4} (h : IsRows l rs) (hl : l ≠ []) : rs ≠ [] := by
  rintro rfl
  cases l with
  | nil => exact hl rfl
  | cons p l => have := (h.mem p.1).mpr ⟨p, by simp, rfl⟩; cases this
theorem IsRows.row {l : List T3} {rs : List R4} {p : T3} (h : IsRows l rs) (hp : p ∈ l) : ∃ r ∈ rs, r.1 = p.1 := by
  obtain ⟨r, hr, e⟩ := List.mem_map.mp ((h.mem p.1).mpr ⟨p, hp, rfl⟩)
  exact ⟨r, hr, e⟩
theorem IsRows.top {l : List T3} {rs : List R4} {n : Int} (h : IsRows l rs) (hn : topI (l.map (·.2.1)) = some n) : topI (rs.map (·.2.2.1)) = some n := by
  obtain ⟨h1, h2⟩ := topI_spec hn
  obtain ⟨p, hp, e⟩ := List.mem_map.mp h1
  obtain ⟨r, hr, e1⟩ := h.row hp
  refine top_of (List.mem_map.mpr ⟨r, hr, ?_⟩) fun y hy => ?_
  · obtain ⟨q, hq, hq1, hq2⟩ := (h.st r hr).h1
    have a := (h.st r hr).h2 p hp e1.symm
    have b := h2 q.2.1 (List.mem_map.mpr ⟨q, hq, rfl⟩)
    have e' : p.2.1 = n := e
    show r.2.2.1 = n
    omega
  · obtain ⟨s, hs, rfl⟩ := List.mem_map.mp hy
    obtain ⟨q, hq, hq1, hq2⟩ := (h.st s hs).h1
    have b := h2 q.2.1 (List.mem_map.mpr ⟨q, hq, rfl⟩)
    show s.2.2.1 ≤ n
    omega
theorem IsRows.low {l : List T3} {rs : List R4} {n : Int} (h : IsRows l rs) (hn : lowI (l.map (·.2.1)) = some n) : lowI (rs.map (·.2.1)) = some n := by
  obtain ⟨h1, h2⟩ := lowI_spec hn
  obtain ⟨p, hp, e⟩ := List.mem_map.mp h1
  obtain ⟨r, hr, e1⟩ := h.row hp
  refine low_of (List.mem_map.mpr ⟨r, hr, ?_⟩) fun y hy => ?_
  · obtain ⟨q, hq, hq1, hq2⟩ := (h.st r hr).l1
    have a := (h.st r hr).l2 p hp e1.symm
    have b := h2 q.2.1 (List.mem_map.mpr ⟨q, hq, rfl⟩)
    have e' : p.2.1 = n := e
    show r.2.1 = n
    omega
  · obtain ⟨s, hs, rfl⟩ := List.mem_map.mp hy
    obtain ⟨q, hq, hq1, hq2⟩ := (h.st s hs).l1
    have b := h2 q.2.1 (List.mem_map.mpr ⟨q, hq, rfl⟩)
    show n ≤ s.2.1
    omega
theorem sum_hit {c x : Int} : ∀ {ms : List Int}, ms.Nodup → (ms.map fun m => if x = m then c else 0).sum = if x ∈ ms then c else 0
  | [], _ => rfl
  | m :: ms, h => by
    rw [List.nodup_cons] at h
    rw [List.map_cons, List.sum_cons, sum_hit h.2]
    by_cases z : x = m
    · subst z; simp [h.1]
    · simp [z]
theorem sum_add {f g : Int → Int} : ∀ {ms : List Int}, (ms.map fun m => f m + g m).sum = (ms.map f).sum + (ms.map g).sum
  | [] => rfl
  | m :: ms => by simp only [List.map_cons, List.sum_cons, sum_add (ms := ms)]; omega
theorem sum_sm {ms : List Int} (hn : ms.Nodup) : ∀ {l : List T3}, (∀ p ∈ l, p.1 ∈ ms) → (ms.map (sm l)).sum = (l.map (·.2.2)).sum
  | [], _ => by
    have : ∀ ms : List Int, (ms.map (sm [])).sum = 0 := fun ms => by
      induction ms with
      | nil => rfl
      | cons m ms ih => rw [List.map_cons, List.sum_cons, ih]; rfl
    exact this ms
  | p :: l, h => by
    have ih := sum_sm hn (l := l) fun q hq => h q (by simp [hq])
    have e : (sm (p :: l)) = fun m => (if p.1 = m then p.2.2 else 0) + sm l m := by
      funext m
      unfold sm
      by_cases z : p.1 = m <;> simp [List.filter_cons, z]
    rw [e, sum_add, sum_hit hn, if_pos (h p (by simp)), ih]
    rfl
theorem IsRows.sum {l : List T3} {rs : List R4} (h : IsRows l rs) : (rs.map (·.2.2.2)).sum = (l.map (·.2.2)).sum := by
  have hn : (rs.map (·.1)).Nodup := h.up.imp fun z => by omega
  rw [← sum_sm hn (l := l) fun p hp => (h.mem p.1).mpr ⟨p, hp, rfl⟩, List.map_map]
  congr 1
  exact List.map_congr_left fun r hr => (h.st r hr).c
/-! ### the board -/
abbrev pairR (r : R4) : D := .tuple [.int r.2.1, .int r.2.2.1]
/-- a board of rows that are there: the first, the greatest, the least, the last, the lots -/
abbrev bd (a b : R4) (n k c : Int) : D := .tuple [pairR a, .int n, .int k, pairR b, .int c]
theorem good_bd {a b : R4} {n k c : Int} : Good (bd a b n k c) := rfl
/-! ### prints that came late -/
def latesF : Int → Nat → List T3 → List Int
  | _, _, [] => []
  | t, i, p :: l => if p.1 < t then (i : Int) :: latesF t (i + 1) l else latesF p.1 (i + 1) l
theorem lates_ge : ∀ {l : List T3} {t : Int} {i : Nat}, ∀ x ∈ latesF t i l, (i : Int) ≤ x
  | [], _, _, x, h => by cases h
  | p :: l, t, i, x, h => by
    unfold latesF at h
    split at h
    · rcases List.mem_cons.mp h with rfl | h
      · omega
      · have := lates_ge x h; omega
    · have := lates_ge x h; omega
theorem lates_len : ∀ {l : List T3} {t : Int} {i : Nat}, (latesF t i l).length ≤ l.length
  | [], _, _ => by simp [latesF]
  | p :: l, t, i => by
    unfold latesF
    split
    · have := lates_len (l := l) (t := t) (i := i + 1); simp; omega
    · have := lates_len (l := l) (t := p.1) (i := i + 1); simp; omega
theorem lates_take {n : Nat} : ∀ {l : List T3} {t : Int} {i : Nat}, (latesF t i l).filter (fun x => decide (x < (n : Int))) = latesF t i (l.take (n - i))
  | [], _, _ => by simp [latesF]
  | p :: l, t, i => by
    rcases Nat.lt_or_ge i n with z | z
    · have e : n - i = (n - (i + 1)) + 1 := by omega
      rw [e, List.take_succ_cons]
      unfold latesF
      split
      · rw [List.filter_cons, if_pos (by simp; omega), lates_take]
      · exact lates_take
    · have e : n - i = 0 := by omega
      rw [e, List.take_zero]
      rw [List.filter_eq_nil_iff.mpr fun x hx => by have := lates_ge x hx; simp; omega]
      rfl
theorem lates_mv {a b : Int} : ∀ {l : List T3} {t : Int} {i : Nat}, latesF (t + a) i (l.map (mv a b)) = latesF t i l
  | [], _, _ => rfl
  | p :: l, t, i => by
    rw [List.map_cons]
    unfold latesF
    show (if p.1 + a < t + a then _ else latesF (p.1 + a) _ _) = _
    by_cases z : p.1 < t
    · rw [if_pos (by omega), if_pos z, lates_mv]
    · rw [if_neg (by omega), if_neg z, lates_mv]
theorem lates_mv0 {a b : Int} {l : List T3} (ha : 0 ≤ a) (hl : ∀ p ∈ l, 0 ≤ p.1) : latesF 0 0 (l.map (mv a b)) = latesF 0 0 l := by
  cases l with
  | nil => rfl
  | cons p l =>
    have := hl p (by simp)
    rw [List.map_cons]
    unfold latesF
    show (if p.1 + a < 0 then _ else latesF (p.1 + a) _ _) = _
    rw [if_neg (by omega), if_neg (by omega), lates_mv]
theorem lates_snoc {p : T3} : ∀ {l : List T3} {t : Int} {i : Nat}, latesF t i (l ++ [p]) = latesF t i l ++ if p.1 < (l.foldl (fun t q => if q.1 < t then t else q.1) t) then [((i + l.length : Nat) : Int)] else []
  | [], t, i => by
    show (if p.1 < t then [(i : Int)] else []) = [] ++ if p.1 < t then [((i + 0 : Nat) : Int)] else []
    rfl
  | q :: l, t, i => by
    rw [List.cons_append]
    unfold latesF
    rw [List.foldl_cons]
    by_cases z : q.1 < t
    · rw [if_pos z, if_pos z, if_pos z, lates_snoc, List.cons_append, List.length_cons, show i + 1 + l.length = i + (l.length + 1) by omega]
    · rw [if_neg z, if_neg z, if_neg z, lates_snoc, List.length_cons, show i + 1 + l.length = i + (l.length + 1) by omega]
/-! ### the price called -/
def cnt (l : List T3) (t x : Int) : Int := ((l.filter fun p => decide (p.1 = t) && decide (p.2.1 = x)).map (·.2.2)).sum
def HasP (l : List T3) (t x : Int) : Prop := ∃ p ∈ l, p.1 = t ∧ p.2.1 = x
theorem cnt_snoc {l : List T3} {p : T3} {t x : Int} : cnt (l ++ [p]) t x = cnt l t x + if p.1 = t ∧ p.2.1 = x then p.2.2 else 0 := by
  unfold cnt
  by_cases h : p.1 = t <;> by_cases h' : p.2.1 = x <;> simp [List.filter_append, h, h']
theorem cnt_none {l : List T3} {t x : Int} (h : ¬ HasP l t x) : cnt l t x = 0 := by
  unfold cnt
  rw [List.filter_eq_nil_iff.mpr fun p hp => by simpa using fun z w => h ⟨p, hp, z, w⟩]
  rfl
structure Called (l : List T3) (x : Int) : Prop where
  is : ∃ t, topI (l.map (·.1)) = some t ∧ HasP l t x ∧ ∀ y, HasP l t y → ¬ lt2 (cnt l t x, x) (cnt l t y, y)
theorem Called.one {l : List T3} {x y : Int} (h : Called l x) (k : Called l y) : x = y := by
  obtain ⟨t, h1, h2, h3⟩ := h.is
  obtain ⟨u, k1, k2, k3⟩ := k.is
  rw [h1] at k1
  cases k1
  have a := h3 y k2
  have b := k3 x h2
  unfold lt2 at a b
  simp only at a b
  omega
theorem cnt_mv {a b t x : Int} : ∀ {l : List T3}, cnt (l.map (mv a b)) (t + a) (x + b) = cnt l t x
  | [] => rfl
  | p :: l => by
    have ih := cnt_mv (a := a) (b := b) (t := t) (x := x) (l := l)
    unfold cnt at *
    have e1 : decide ((mv a b p).1 = t + a) = decide (p.1 = t) := by
      show decide (p.1 + a = t + a) = _
      by_cases z : p.1 = t
      · simp [z]
      · have : ¬ p.1 + a = t + a := by omega
        simp [z]
    have e2 : decide ((mv a b p).2.1 = x + b) = decide (p.2.1 = x) := by
      show decide (p.2.1 + b = x + b) = _
      by_cases z : p.2.1 = x
      · simp [z]
      · have : ¬ p.2.1 + b = x + b := by omega
        simp [z]
    rw [List.map_cons, List.filter_cons, List.filter_cons, e1, e2]
    split
    · rw [List.map_cons, List.map_cons, List.sum_cons, List.sum_cons, ih]; rfl
    · exact ih
theorem hasP_mv {l : List T3} {a b t x : Int} : HasP (l.map (mv a b)) (t + a) x ↔ HasP l t (x - b) := by
  constructor
  · rintro ⟨q, hq, e, e'⟩
    obtain ⟨p, hp, rfl⟩ := List.mem_map.mp hq
    have e1 : p.1 + a = t + a := e
    have e2 : p.2.1 + b = x := e'
    exact ⟨p, hp, by omega, by omega⟩
  · rintro ⟨p, hp, e, e'⟩
    exact ⟨_, List.mem_map_of_mem hp, by show p.1 + a = t + a; omega, by show p.2.1 + b = x; omega⟩
theorem Called.mv {l : List T3} {x a b : Int} (h : Called l x) : Called (l.map (K36.mv a b)) (x + b) := by
  obtain ⟨t, h1, h2, h3⟩ := h.is
  obtain ⟨k1, k2⟩ := topI_spec h1
  refine ⟨t + a, ?_, hasP_mv.mpr (by rw [show x + b - b = x by omega]; exact h2), fun y hy => ?_⟩
  · obtain ⟨p, hp, e⟩ := List.mem_map.mp k1
    have e' : p.1 = t := e
    refine top_of (List.mem_map.mpr ⟨_, List.mem_map_of_mem hp, by show p.1 + a = t + a; omega⟩) fun z hz => ?_
    obtain ⟨q, hq, rfl⟩ := List.mem_map.mp hz
    obtain ⟨q', hq', rfl⟩ := List.mem_map.mp hq
    have := k2 q'.1 (List.mem_map.mpr ⟨q', hq', rfl⟩)
    show q'.1 + a ≤ t + a
    omega
  · have := h3 (y - b) (hasP_mv.mp hy)
    have e : cnt (l.map (K36.mv a b)) (t + a) y = cnt l t (y - b) := by
      have := cnt_mv (a := a) (b := b) (t := t) (x := y - b) (l := l)
      rwa [show y - b + b = y by omega] at this
    rw [cnt_mv, e]
    unfold lt2 at *
    simp only at *
    omega
theorem Called.two {l : List T3} {x : Int} (h : Called l x) : Called (l ++ l) x := by
  obtain ⟨t, h1, h2, h3⟩ := h.is
  obtain ⟨k1, k2⟩ := topI_spec h1
  have hp : ∀ y, HasP (l ++ l) t y ↔ HasP l t y := fun y => by unfold HasP; simp
  have ec : ∀ y, cnt (l ++ l) t y = 2 * cnt l t y := fun y => by
    unfold cnt
    rw [List.filter_append, List.map_append, List.sum_append]
    omega
  refine ⟨t, ?_, (hp x).mpr h2, fun y hy => ?_⟩
  · rw [List.map_append]
    exact top_of (by simp only [List.mem_append]; exact .inl k1) fun z hz => k2 z (by simpa using hz)
  · have := h3 y ((hp y).mp hy)
    rw [ec, ec]
    unfold lt2 at *
    simp only at *
    omega
end K36
namespace K10
open PySem M K36
local macro_rules | `(tactic| walk_at "s") => `(tactic| (first | with_reducible refine w_op2 rfl rfl ?_ | (with_reducible show W2 (mVar _ _) _; first | refine w_varD rfl ?_ | refine w_varL rfl ?_ | refine w_varT rfl ?_ | refine w_varM rfl ?_ | refine w_varK rfl ?_ | refine w_varN rfl ?_ | refine w_varNK rfl ?_) | (with_reducible show W2 (mLockE _ _ _) _; refine w_lock rfl ?_) | (with_reducible show W2 (mLockS _ _ _) _; refine w_lockS rfl ?_) | (with_reducible show W2 (mLcO _ _ _ _ _ _) _; first | refine w_lcO rfl rfl ?_ | refine w_lcO rfl (allDat_map _) ?_) | with_reducible refine w_seq ?_ | with_reducible refine w_set ?_ | with_reducible refine w_op ?_ | with_reducible refine w_c ?_ | with_reducible refine w_test ?_ | with_reducible refine w_bool ?_ | with_reducible refine w_ifS ?_ | with_reducible refine w_ret ?_ | with_reducible refine w_drop ?_ | with_reducible refine w_asg ?_ | with_reducible refine w_call ?_ | with_reducible refine w_cons ?_ | with_reducible refine w_nil ?_ | with_reducible refine w_tup ?_ | with_reducible refine w_lst ?_ | with_reducible refine w_cb ?_ | with_reducible refine w_isi ?_ | with_reducible refine w_un ?_ | with_reducible refine w_and ?_ | with_reducible refine w_or ?_ | with_reducible refine w_not ?_ | with_reducible refine w_yes ?_ | with_reducible refine w_andV ?_ | with_reducible refine w_orV ?_ | with_reducible refine w_notV ?_ | with_reducible refine w_if ?_ | with_reducible refine w_chain ?_ | with_reducible refine w_sl ?_ | with_reducible refine w_part ?_ | with_reducible refine w_noPart ?_ | with_reducible refine w_put ?_ | with_reducible refine w_app ?_ | with_reducible refine w_ext ?_ | with_reducible refine w_aug ?_ | with_reducible refine w_next ?_ | with_reducible refine w_cont ?_ | with_reducible refine w_brk ?_ | with_reducible refine w_retN ?_ | with_reducible refine w_for ?_ | with_reducible refine w_rng1 ?_ | with_reducible refine w_rng2 ?_ | with_reducible refine w_lrg1 ?_ | with_reducible refine w_lrg2 ?_ | with_reducible refine w_iL ?_ | with_reducible refine w_iT ?_ | with_reducible refine w_lc ?_ | with_reducible refine w_enum ?_ | with_reducible refine w_dnew ?_ | with_reducible refine w_dget2 ?_ | with_reducible refine w_dix ?_ | with_reducible refine w_dput ?_ | with_reducible refine w_sortK ?_ | with_reducible refine w_tru ?_ | with_reducible refine w_orT ?_ | with_reducible refine w_walkD ?_ | with_reducible refine w_ins ?_ | with_reducible refine w_del ?_ | with_reducible refine w_tupO ?_ | with_reducible refine w_appM ?_ | with_reducible refine w_popAt ?_ | with_reducible refine w_ofB ?_ | with_reducible refine w_isiB ?_ | with_reducible refine w_slB ?_ | with_reducible refine w_appU ?_ | with_reducible refine w_putU ?_ | with_reducible refine w_nnew ?_ | with_reducible refine w_none ?_ | with_reducible refine w_nix ?_ | with_reducible refine w_nin ?_ | with_reducible refine w_nget1 ?_ | with_reducible refine w_nget2 ?_ | with_reducible refine w_nput ?_ | with_reducible refine w_zip ?_ | with_reducible refine w_rem ?_ | with_reducible refine w_naug ?_ | with_reducible refine w_walkN ?_ | with_reducible refine w_lc2 ?_ | (with_reducible refine sk_nx ?_; try dsimp only [List.set_cons_zero, List.set_cons_succ, inAll, List.getElem?_cons_zero, List.getElem?_cons_succ, wipeE, restE]) | with_reducible refine sk_ret ?_ | with_reducible refine sk_ct ?_ | with_reducible refine sk_bk ?_ | with_reducible refine fk_nx ?_ | with_reducible refine fk_ret ?_ | with_reducible refine fk_ct ?_ | with_reducible refine fk_bk ?_ | with_reducible refine dk_ret ?_ | with_reducible refine dk_nx ?_ | with_reducible refine i_t ?_ | with_reducible refine i_f ?_ | with_reducible refine i_nF ?_ | with_reducible refine i_nT ?_ | with_reducible refine f_val ?_ | with_reducible refine fa_cons ?_ | with_reducible refine fa_nil ?_ | with_reducible refine t_val ?_ | with_reducible refine o_val ?_ | with_reducible refine oa_val ?_ | with_reducible refine oa_nil ?_ | with_reducible refine ga_val ?_ | with_reducible refine ga_nil ?_ | with_reducible refine g_n ?_ | with_reducible refine g_sc ?_ | with_reducible refine g_sn ?_ | with_reducible refine lc_nil ?_ | with_reducible refine lc_cons ?_ | (with_reducible show W2 (outAll (Rs.slot _ :: _) _) _; refine oa_slot rfl ?_) | (with_reducible show W2 (outR (Rs.slot _) _) _; refine o_slot rfl ?_) | (with_reducible show W1 (getAll (Rs.slot _ :: _) _) _; refine ga_slot rfl ?_) | (with_reducible show W2 (frzR (Rs.slot _) _) _; first | refine f_slot rfl rfl ?_ | refine f_slot rfl (allDat_map _) ?_) | (with_reducible show W2 (takR (Rs.slot _) _) _; first | refine t_slot rfl rfl ?_ | refine t_slot rfl (allDat_map _) ?_) | (with_reducible show W2 (frzR (Rs.val (O.lst _)) _) _; first | refine f_lst rfl ?_ | refine f_lst (allDat_map _) ?_) | (with_reducible show W1 (gT _ _ _ _) _; refine g_t rfl ?_) | with_reducible refine W1.eq (isi_int _) ?_ | with_reducible refine W1.eq (isi_bool _) ?_ | with_reducible refine W1.eq (isi_str _) ?_ | with_reducible refine W1.eq (isi_tuple _) ?_ | with_reducible refine W1.eq (isi_list _) ?_ | with_reducible refine n_mod (by first | assumption | decide | omega) ?_ | with_reducible refine n_div (by first | assumption | decide | omega) (by first | assumption | decide) ?_ | with_reducible refine n_mulS (by first | assumption | decide | omega) (by first | assumption | decide | omega) ?_ | with_reducible refine n_mul (by decide) ?_ | with_reducible refine W1.eq pw_5 ?_ | with_reducible refine W1.eq pw_6 ?_ | with_reducible refine W1.eq pw_8 ?_ | with_reducible refine W1.eq pw_9 ?_ | with_reducible refine W1.eq pw_19 ?_ | with_reducible refine n_pow (by decide) ?_ | (with_reducible show W1 (pIn (O.dat _) (O.lst _)) _; refine n_inL rfl (by first | assumption | decide +kernel) (by first | assumption | decide +kernel) ?_) | (with_reducible show W1 (pNotIn (O.dat _) (O.lst _)) _; refine n_notInL rfl (by first | assumption | decide +kernel) (by first | assumption | decide +kernel) ?_) | (with_reducible show W1 (pIn (O.dat _) (O.dat (PyData.tuple _))) _; refine n_inT (by first | assumption | with_unfolding_all rfl) (by first | assumption | with_unfolding_all rfl) ?_) | with_reducible refine n_addT (by first | assumption | decide | (show _ ≤ 10000000; simp only [Z.cutD, List.length_append, List.length_cons, List.length_nil, List.length_take, List.length_drop, List.length_reverse]; omega)) ?_ | with_reducible refine n_ixTM (by first | assumption | omega) (by first | assumption | omega) (fun d hd => ?_) | (with_reducible show W1 (one pTuple [O.lst _]) _; first | refine n_tupleL rfl ?_ | refine n_tupleL asL_map ?_) | (with_reducible show W1 (one pLen [O.lst _]) _; first | refine n_lenL rfl ?_ | refine n_lenL asL_map ?_) | (with_reducible show W1 (one pList [O.lst _]) _; first | refine n_listL rfl ?_ | refine n_listL asL_map ?_) | (with_reducible show W1 (pNe (O.dat _) (O.dat _)) _; refine n_neRefl (by first | assumption | with_unfolding_all rfl) ?_) | with_reducible refine n_eqI ?_ | with_reducible refine n_neI ?_ | (with_reducible show W1 _ _; refine W1.eq rfl ?_) | (with_reducible show ite _ _ _; first | refine i_T rfl ?_ | refine i_F rfl ?_) | (with_reducible show Exists _; first | refine ⟨_, rfl, ?_⟩ | refine ⟨_, Or.inr rfl, ?_⟩ | refine ⟨_, Or.inl rfl, ?_⟩ | refine ⟨_, _, rfl, rfl, ?_⟩ | refine ⟨_, _, _, rfl, rfl, rfl, ?_⟩) | (with_reducible show And (_ ≤ lim) _; refine ⟨Nat.le_of_ble_eq_true rfl, ?_⟩)))
local macro_rules | `(tactic| walk_at "r") => `(tactic| repeat walk_at "s")
def Bag (o : O) : Prop := ∃ a b : Int, o = .lst [.dat (.int a), .dat (.int b)] ∧ 0 ≤ b ∧ b < 2147483648
theorem take_ok {o : O} {m : Int} (hb : Bag o) (h0 : 0 < m) (h9 : m.natAbs.log2 < 9000) : W2 (f_z_take [o, .dat (.int m)]) fun r os => ∃ x o', r = .dat (.int x) ∧ os = [some o', some (.dat (.int m))] ∧ 0 ≤ x ∧ x < m ∧ Bag o' := by
  obtain ⟨a, b, rfl, h1, h2⟩ := hb
  refine d_z_take ?_
  walk_at "r"
  refine i_d (fun ha => ?_) fun ha => ?_
  · walk_at "r"
    exact ⟨Int.emod_nonneg _ (by omega), Int.emod_lt_of_pos _ h0, _, _, rfl, h1, h2⟩
  · have e1 : 0 ≤ b * 48271 % 2147483647 := Int.emod_nonneg _ (by omega)
    have e2 : b * 48271 % 2147483647 < 2147483647 := Int.emod_lt_of_pos _ (by omega)
    walk_at "r"
    exact ⟨Int.emod_nonneg _ (by omega), Int.emod_lt_of_pos _ h0, _, _, rfl, e1, by omega⟩
theorem bag_ok {ns : List Int} {k : Nat} (hk : k < 1000) : W2 (f_z_bag [.dat (.list (ns.map .int)), .dat (.int k)]) fun r os => Bag r ∧ os = [some (.dat (.list (ns.map .int))), some (.dat (.int k))] := by
  have e18 : (10 : Int) ^ (Int.toNat 18) = 1000000000000000000 := by decide
  have fin : ∀ c : Int, 0 ≤ c → W2 ((mSeq
      (mIfS (mTest (mOp pLt (mVar 2) (mOp pPow (mC (PyData.int 10)) (mC (PyData.int 18)))))
        (mRet (mLst (mCons (mC (.int 0)) (mCons (mOp pAdd (mC (.int 1)) (mOp pMod (mOp pAdd (mOp pMul (mVar 2) (mC (.int 7919))) (mOp pMul (mC (.int 104729)) (mVar 1))) (mC (.int 2147483646)))) mNil)))) mNext)
      (mRet (mLst (mCons (mVar 2) (mCons (mOp pAdd (mC (.int 1)) (mOp pMod (mOp pAdd (mVar 2) (mVar 1)) (mC (.int 2147483646)))) mNil))))) [some (.dat (.list (ns.map .int))), some (.dat (.int k)), some (.dat (.int c))])
      (DefK [2] [.dat (.list (ns.map .int)), .dat (.int k)] fun r os => Bag r ∧ os = [some (.dat (.list (ns.map .int))), some (.dat (.int k))]) := fun c hc => by
    walk_at "r"
    rw [e18]
    refine i_d (fun h => ?_) fun h => ?_
    · walk_at "r"
      refine ⟨⟨_, _, rfl, ?_, ?_⟩, rfl⟩
      · have := Int.emod_nonneg (c * 7919 + 104729 * (k : Int)) (b := 2147483646) (by omega)
        show 0 ≤ 1 + (c * 7919 + 104729 * (k : Int)) % 2147483646
        omega
      · have := Int.emod_lt_of_pos (c * 7919 + 104729 * (k : Int)) (b := 2147483646) (by omega)
        show 1 + (c * 7919 + 104729 * (k : Int)) % 2147483646 < 2147483648
        omega
    · walk_at "r"
      refine ⟨⟨_, _, rfl, ?_, ?_⟩, rfl⟩
      · have := Int.emod_nonneg (c + (k : Int)) (b := 2147483646) (by omega)
        omega
      · have := Int.emod_lt_of_pos (c + (k : Int)) (b := 2147483646) (by omega)
        omega
  refine d_z_bag ?_
  walk_at "r"
  refine i_d (fun h => ?_) fun h => ?_
  · have hl : k < ns.length := by simpa using h
    have hx : pIx (.dat (.list (ns.map .int))) (.dat (.int k)) = some (.dat (.int ns[k])) := by
      have e : L2.atI (ns.map PyData.int) (k : Int) = some (.int ns[k]) := by
        unfold L2.atI L2.ixN
        rw [if_pos (by omega), if_pos (by simpa using hl)]
        simp [hl]
      simp only [pIx, asL, e]
    iterate 6 walk_at "s"
    refine W1.eq hx ?_
    repeat (first | with_reducible refine fin _ ?_ | walk_at "s")
    exact Int.emod_nonneg _ (by decide)
  · iterate 2 walk_at "s"
    exact fin 0 (by omega)
/-! ### rows_of -/
def FR (l : List T3) (m : Int) : D := e3 ((stat l m).getD (0, 0, 0))
theorem FR_val {l : List T3} {is : List Int} {m : Int} (hm : ∀ m, m ∈ is ↔ Has l m) : valD (mkD (FR l) is) (.inl m) = (stat l m).map e3 := by
  rw [val_mk]
  have := stat_ok l m
  cases e : stat l m with
  | none => rw [e] at this; rw [if_neg fun z => this ((hm m).mp z)]; rfl
  | some s => rw [e] at this; rw [if_pos ((hm m).mpr (Stat.has this))]; unfold FR; rw [e]; rfl
theorem FR_put {l : List T3} {is : List Int} {p : T3} {s : T3} {d : D} (hd : d = e3 s) (hs : stepS p.1 (stat l p.1) p = some s) : putD (mkD (FR l) is) (.inl p.1) d = mkD (FR (l ++ [p])) (addK is p.1) := by
  subst hd
  rw [put_mk]
  refine mk_congr fun m _ => ?_
  unfold FR
  rw [stat_snoc]
  by_cases z : m = p.1
  · subst z; rw [hs, if_pos rfl]; rfl
  · rw [if_neg z]
    unfold stepS
    rw [if_neg fun w => z w.symm]
theorem has_snoc {l : List T3} {p : T3} {m : Int} : Has (l ++ [p]) m ↔ Has l m ∨ m = p.1 := by
  unfold Has
  constructor
  · rintro ⟨q, hq, e⟩
    rcases List.mem_append.mp hq with w | w
    · exact .inl ⟨q, w, e⟩
    · simp at w; subst w; exact .inr e.symm
  · rintro (⟨q, hq, e⟩ | e)
    · exact ⟨q, by simp [hq], e⟩
    · exact ⟨p, by simp, e.symm⟩
theorem take_snoc {l : List T3} {i : Nat} {p : T3} (h : l[i]? = some p) : l.take (i + 1) = l.take i ++ [p] := by rw [List.take_add_one, h]; rfl
structure KeysAre (l : List T3) (is : List Int) : Prop where
  nd : is.Nodup
  mem : ∀ m, m ∈ is ↔ Has l m
  len : is.length ≤ l.length
theorem KeysAre.snoc {l : List T3} {is : List Int} {p : T3} (h : KeysAre l is) : KeysAre (l ++ [p]) (addK is p.1) :=
  ⟨addK_nodup h.nd, fun m => by rw [addK_mem, has_snoc, h.mem], by have := addK_len (is := is) (x := p.1); have := h.len; simp; omega⟩
theorem mk_len {F : Int → D} {is : List Int} : (mkD F is).length = is.length := by simp [mkD]
def rowOf (l : List T3) (m : Int) : R4 := (m, (stat l m).getD (0, 0, 0))
theorem rows_are {l : List T3} {is : List Int} (h : KeysAre l is) : IsRows l ((srtI is).map (rowOf l)) := by
  have e : ((srtI is).map (rowOf l)).map (·.1) = srtI is := by rw [List.map_map]; exact (List.map_congr_left fun m _ => rfl).trans (List.map_id _)
  refine ⟨by rw [e]; exact srt_lt h.nd, fun m => by rw [e, srt_perm.mem_iff, h.mem], fun r hr => ?_⟩
  obtain ⟨m, hm, rfl⟩ := List.mem_map.mp hr
  obtain ⟨s, hs, k⟩ := stat_has ((h.mem m).mp (srt_perm.mem_iff.mp hm))
  show Stat l m ((stat l m).getD _)
  rw [hs]; exact k
theorem get_e3 {l : List T3} {i : Nat} {d : D} (h : (l.map e3)[i]? = some d) : ∃ p, l[i]? = some p ∧ d = e3 p := by
  rw [List.getElem?_map] at h
  cases e : l[i]? with
  | none => rw [e] at h; cases h
  | some p => rw [e] at h; cases h; exact ⟨p, rfl, rfl⟩
theorem lt_of_get {α : Type} {l : List α} {i : Nat} {p : α} (h : l[i]? = some p) : i < l.length := by
  rcases Nat.lt_or_ge i l.length with z | z
  · exact z
  · rw [List.getElem?_eq_none z] at h; cases h
def fR (l : List T3) : D → D
  | .int m => e4 (rowOf l m)
  | d => d
theorem rows_tail {l : List T3} (hl : l.length ≤ 1000) {PS : Fl → M.Env → Prop}
    (q : ∀ rs a b c d e f g, IsRows l rs → rs.length ≤ 1000 → PS (.ret (.lst ((rs.map e4).map .dat))) [some (.dat (.list (l.map e3))), a, b, c, d, e, f, g]) :
    ∀ {c d e f g : Option O}, W2 (forGo (gT 3 (gsC (gN 2) (gsC (gN 3) (gsC (gN 4) gsN)))) l_rows_of_1 (l.map e3) [some (.dat (.list (l.map e3))), some (.dic []), none, c, d, e, f, g])
    (SeqK (fun ε1 => W2 (mRet (mLc [2] (mIL (mSortK (mCons (mVar 1) mNil))) (gN 2) mYes (mOp pAdd (mTup (mCons (mVar 2) mNil)) (mDIx (mVar 1) (mVar 2)))) ε1) PS) PS) := by
  intro c d e f g
  refine w_forI (fun i ε => ∃ is b c d e f g, KeysAre (l.take i) is ∧ (b = none ∨ ∃ d, b = some (.dat d)) ∧ ε = [some (.dat (.list (l.map e3))), some (.dic (mkD (FR (l.take i)) is)), b, c, d, e, f, g]) ⟨[], _, _, _, _, _, _, ⟨List.nodup_nil, fun m => by simp [Has], by simp⟩, .inl rfl, rfl⟩ (fun ε h => ?_) (fun i d ε hd h => ?_)
  · obtain ⟨is, b, c, d, e, f, g, hk, hb, rfl⟩ := h
    rw [List.length_map, List.take_length] at hk ⊢
    have hlen := hk.len
    walk_at "r"
    refine ⟨by rw [keys_mk]; exact ord_ints (by show _ ≤ 10000000; omega), ?_⟩
    rw [keys_mk, srt_int]
    walk_at "r"
    refine w_lcP (fun _ => true) (fR l) (by rw [List.length_map, srt_perm.length_eq]; show _ ≤ 10000000; omega) (fun x hx => ?_) ?_
    · obtain ⟨m, hm, rfl⟩ := List.mem_map.mp hx
      obtain ⟨s, hs, -⟩ := stat_has ((hk.mem m).mp (srt_perm.mem_iff.mp hm))
      walk_at "r"
      refine ⟨rfl, ?_⟩
      walk_at "r"
      refine W1.eq ((FR_val hk.mem).trans (by rw [hs]; rfl)) ?_
      walk_at "r"
      refine ⟨?_, rfl⟩
      show _ = e4 (rowOf l m)
      unfold rowOf
      rw [hs]; rfl
    · rw [List.filter_eq_self.mpr fun _ _ => rfl]
      have e : ((srtI is).map PyData.int).map (fR l) = ((srtI is).map (rowOf l)).map e4 := by rw [List.map_map, List.map_map]; rfl
      rw [e]
      walk_at "r"
      dsimp only [List.set_cons_zero, List.set_cons_succ, List.getElem?_cons_zero, List.getElem?_cons_succ, wipeE, restE]
      rcases hb with rfl | ⟨d, rfl⟩ <;> exact q _ _ _ _ _ _ _ _ (rows_are hk) (by rw [List.length_map, srt_perm.length_eq]; omega)
  · obtain ⟨is, b, c, d', e, f, g, hk, hb, rfl⟩ := h
    obtain ⟨p, hp, rfl⟩ := get_e3 hd
    have hi := lt_of_get hp
    have hlen := hk.len
    rw [List.length_take] at hlen
    walk_at "r"
    have hv := FR_val (m := p.1) hk.mem
    cases hs : stat (l.take i) p.1 with
    | none =>
      rw [hs] at hv
      rw [hv]
      dsimp only [Option.map]
      walk_at "r"
      refine ⟨by rw [mk_len]; show _ < 10000000; omega, ?_⟩
      rw [take_snoc hp, FR_put (s := (if p.2.1 < p.2.1 then p.2.1 else p.2.1, if p.2.1 > p.2.1 then p.2.1 else p.2.1, 0 + p.2.2)) rfl (by rw [hs]; unfold stepS; rw [if_pos rfl])]
      exact ⟨addK is p.1, _, _, _, _, _, _, hk.snoc, .inr ⟨_, rfl⟩, rfl⟩
    | some s =>
      rw [hs] at hv
      rw [hv]
      dsimp only [Option.map]
      walk_at "r"
      refine ⟨by rw [mk_len]; show _ < 10000000; omega, ?_⟩
      rw [take_snoc hp, FR_put (s := (if p.2.1 < s.1 then p.2.1 else s.1, if p.2.1 > s.2.1 then p.2.1 else s.2.1, s.2.2 + p.2.2)) rfl (by rw [hs]; unfold stepS; rw [if_pos rfl])]
      exact ⟨addK is p.1, _, _, _, _, _, _, hk.snoc, .inr ⟨_, rfl⟩, rfl⟩
theorem rows_ok {o : O} {l : List T3} (ho : Arr o (l.map e3)) (hl : l.length ≤ 1000) : W2 (f_rows_of [o]) fun r os => (∃ rs, IsRows l rs ∧ rs.length ≤ 1000 ∧ r = .lst ((rs.map e4).map .dat)) ∧ os = [some (.dat (.list (l.map e3)))] := by
  refine d_rows_of ?_
  rcases ho with rfl | rfl
  · walk_at "r"
    exact rows_tail hl fun rs a b c d e f g h h' => ⟨⟨rs, h, h', rfl⟩, rfl⟩
  · walk_at "r"
    exact rows_tail hl fun rs a b c d e f g h h' => ⟨⟨rs, h, h', rfl⟩, rfl⟩
end K10
namespace K10
open PySem M K36
local macro_rules | `(tactic| walk_at "s") => `(tactic| (first | with_reducible refine w_op2 rfl rfl ?_ | (with_reducible show W2 (mVar _ _) _; first | refine w_varD rfl ?_ | refine w_varL rfl ?_ | refine w_varT rfl ?_ | refine w_varM rfl ?_ | refine w_varK rfl ?_ | refine w_varN rfl ?_ | refine w_varNK rfl ?_) | (with_reducible show W2 (mLockE _ _ _) _; refine w_lock rfl ?_) | (with_reducible show W2 (mLockS _ _ _) _; refine w_lockS rfl ?_) | (with_reducible show W2 (mLcO _ _ _ _ _ _) _; first | refine w_lcO rfl rfl ?_ | refine w_lcO rfl (allDat_map _) ?_) | with_reducible refine w_seq ?_ | with_reducible refine w_set ?_ | with_reducible refine w_op ?_ | with_reducible refine w_c ?_ | with_reducible refine w_test ?_ | with_reducible refine w_bool ?_ | with_reducible refine w_ifS ?_ | with_reducible refine w_ret ?_ | with_reducible refine w_drop ?_ | with_reducible refine w_asg ?_ | with_reducible refine w_call ?_ | with_reducible refine w_cons ?_ | with_reducible refine w_nil ?_ | with_reducible refine w_tup ?_ | with_reducible refine w_lst ?_ | with_reducible refine w_cb ?_ | with_reducible refine w_isi ?_ | with_reducible refine w_un ?_ | with_reducible refine w_and ?_ | with_reducible refine w_or ?_ | with_reducible refine w_not ?_ | with_reducible refine w_yes ?_ | with_reducible refine w_andV ?_ | with_reducible refine w_orV ?_ | with_reducible refine w_notV ?_ | with_reducible refine w_if ?_ | with_reducible refine w_chain ?_ | with_reducible refine w_sl ?_ | with_reducible refine w_part ?_ | with_reducible refine w_noPart ?_ | with_reducible refine w_put ?_ | with_reducible refine w_app ?_ | with_reducible refine w_ext ?_ | with_reducible refine w_aug ?_ | with_reducible refine w_next ?_ | with_reducible refine w_cont ?_ | with_reducible refine w_brk ?_ | with_reducible refine w_retN ?_ | with_reducible refine w_for ?_ | with_reducible refine w_rng1 ?_ | with_reducible refine w_rng2 ?_ | with_reducible refine w_lrg1 ?_ | with_reducible refine w_lrg2 ?_ | with_reducible refine w_iL ?_ | with_reducible refine w_iT ?_ | with_reducible refine w_lc ?_ | with_reducible refine w_enum ?_ | with_reducible refine w_dnew ?_ | with_reducible refine w_dget2 ?_ | with_reducible refine w_dix ?_ | with_reducible refine w_dput ?_ | with_reducible refine w_sortK ?_ | with_reducible refine w_tru ?_ | with_reducible refine w_orT ?_ | with_reducible refine w_walkD ?_ | with_reducible refine w_ins ?_ | with_reducible refine w_del ?_ | with_reducible refine w_tupO ?_ | with_reducible refine w_appM ?_ | with_reducible refine w_popAt ?_ | with_reducible refine w_ofB ?_ | with_reducible refine w_isiB ?_ | with_reducible refine w_slB ?_ | with_reducible refine w_appU ?_ | with_reducible refine w_putU ?_ | with_reducible refine w_nnew ?_ | with_reducible refine w_none ?_ | with_reducible refine w_nix ?_ | with_reducible refine w_nin ?_ | with_reducible refine w_nget1 ?_ | with_reducible refine w_nget2 ?_ | with_reducible refine w_nput ?_ | with_reducible refine w_zip ?_ | with_reducible refine w_rem ?_ | with_reducible refine w_naug ?_ | with_reducible refine w_walkN ?_ | with_reducible refine w_lc2 ?_ | (with_reducible refine sk_nx ?_; try dsimp only [List.set_cons_zero, List.set_cons_succ, inAll, List.getElem?_cons_zero, List.getElem?_cons_succ, wipeE, restE]) | with_reducible refine sk_ret ?_ | with_reducible refine sk_ct ?_ | with_reducible refine sk_bk ?_ | with_reducible refine fk_nx ?_ | with_reducible refine fk_ret ?_ | with_reducible refine fk_ct ?_ | with_reducible refine fk_bk ?_ | with_reducible refine dk_ret ?_ | with_reducible refine dk_nx ?_ | with_reducible refine i_t ?_ | with_reducible refine i_f ?_ | with_reducible refine i_nF ?_ | with_reducible refine i_nT ?_ | with_reducible refine f_val ?_ | with_reducible refine fa_cons ?_ | with_reducible refine fa_nil ?_ | with_reducible refine t_val ?_ | with_reducible refine o_val ?_ | with_reducible refine oa_val ?_ | with_reducible refine oa_nil ?_ | with_reducible refine ga_val ?_ | with_reducible refine ga_nil ?_ | with_reducible refine g_n ?_ | with_reducible refine g_sc ?_ | with_reducible refine g_sn ?_ | with_reducible refine lc_nil ?_ | with_reducible refine lc_cons ?_ | (with_reducible show W2 (outAll (Rs.slot _ :: _) _) _; refine oa_slot rfl ?_) | (with_reducible show W2 (outR (Rs.slot _) _) _; refine o_slot rfl ?_) | (with_reducible show W1 (getAll (Rs.slot _ :: _) _) _; refine ga_slot rfl ?_) | (with_reducible show W2 (frzR (Rs.slot _) _) _; first | refine f_slot rfl rfl ?_ | refine f_slot rfl (allDat_map _) ?_) | (with_reducible show W2 (takR (Rs.slot _) _) _; first | refine t_slot rfl rfl ?_ | refine t_slot rfl (allDat_map _) ?_) | (with_reducible show W2 (frzR (Rs.val (O.lst _)) _) _; first | refine f_lst rfl ?_ | refine f_lst (allDat_map _) ?_) | (with_reducible show W1 (gT _ _ _ _) _; refine g_t rfl ?_) | with_reducible refine W1.eq (isi_int _) ?_ | with_reducible refine W1.eq (isi_bool _) ?_ | with_reducible refine W1.eq (isi_str _) ?_ | with_reducible refine W1.eq (isi_tuple _) ?_ | with_reducible refine W1.eq (isi_list _) ?_ | with_reducible refine n_mod (by first | assumption | decide | omega) ?_ | with_reducible refine n_div (by first | assumption | decide | omega) (by first | assumption | decide) ?_ | with_reducible refine n_mulS (by first | assumption | decide | omega) (by first | assumption | decide | omega) ?_ | with_reducible refine n_mul (by decide) ?_ | with_reducible refine W1.eq pw_5 ?_ | with_reducible refine W1.eq pw_6 ?_ | with_reducible refine W1.eq pw_8 ?_ | with_reducible refine W1.eq pw_9 ?_ | with_reducible refine W1.eq pw_19 ?_ | with_reducible refine n_pow (by decide) ?_ | (with_reducible show W1 (pIn (O.dat _) (O.lst _)) _; refine n_inL rfl (by first | assumption | decide +kernel) (by first | assumption | decide +kernel) ?_) | (with_reducible show W1 (pNotIn (O.dat _) (O.lst _)) _; refine n_notInL rfl (by first | assumption | decide +kernel) (by first | assumption | decide +kernel) ?_) | (with_reducible show W1 (pIn (O.dat _) (O.dat (PyData.tuple _))) _; refine n_inT (by first | assumption | with_unfolding_all rfl) (by first | assumption | with_unfolding_all rfl) ?_) | with_reducible refine n_addT (by first | assumption | decide | (show _ ≤ 10000000; simp only [Z.cutD, List.length_append, List.length_cons, List.length_nil, List.length_take, List.length_drop, List.length_reverse]; omega)) ?_ | with_reducible refine n_ixTM (by first | assumption | omega) (by first | assumption | omega) (fun d hd => ?_) | (with_reducible show W1 (one pTuple [O.lst _]) _; first | refine n_tupleL rfl ?_ | refine n_tupleL asL_map ?_) | (with_reducible show W1 (one pLen [O.lst _]) _; first | refine n_lenL rfl ?_ | refine n_lenL asL_map ?_) | (with_reducible show W1 (one pList [O.lst _]) _; first | refine n_listL rfl ?_ | refine n_listL asL_map ?_) | (with_reducible show W1 (pNe (O.dat _) (O.dat _)) _; refine n_neRefl (by first | assumption | with_unfolding_all rfl) ?_) | with_reducible refine n_eqI ?_ | with_reducible refine n_neI ?_ | (with_reducible show W1 _ _; refine W1.eq rfl ?_) | (with_reducible show ite _ _ _; first | refine i_T rfl ?_ | refine i_F rfl ?_) | (with_reducible show Exists _; first | refine ⟨_, rfl, ?_⟩ | refine ⟨_, Or.inr rfl, ?_⟩ | refine ⟨_, Or.inl rfl, ?_⟩ | refine ⟨_, _, rfl, rfl, ?_⟩ | refine ⟨_, _, _, rfl, rfl, rfl, ?_⟩) | (with_reducible show And (_ ≤ lim) _; refine ⟨Nat.le_of_ble_eq_true rfl, ?_⟩)))
local macro_rules | `(tactic| walk_at "r") => `(tactic| repeat walk_at "s")
/-! ### board -/
theorem lc_rows {rs : List R4} (g : R4 → Int) {ε : M.Env} {vs : List Nat} {mg : mG} {me : mB} {PL : List D → M.Env → Prop} (hl : rs.length ≤ 1000)
    (h : ∀ r, W1 (mg (.dat (e4 r)) ε) fun ε1 => W2 (me ε1) fun x ε3 => W2 (frzR x ε3) fun y ε4 => y = .int (g r) ∧ wipeE ε4 vs = ε)
    (q : PL ((rs.map g).map .int) ε) : W2 (lcGo vs mg mYes me (rs.map e4) ε []) PL := by
  refine w_lcI (fun i acc ε' => ε' = ε ∧ acc = ((rs.take i).map g).map .int) ⟨rfl, by simp⟩ (fun acc ε' hh => ?_) (fun i d acc ε' hd hh => ?_)
  · obtain ⟨rfl, rfl⟩ := hh
    rw [List.length_map, List.take_length]; exact q
  · obtain ⟨rfl, rfl⟩ := hh
    rw [List.getElem?_map] at hd
    cases e : rs[i]? with
    | none => rw [e] at hd; cases hd
    | some r =>
      rw [e] at hd; cases hd
      obtain ⟨ε1, e1, x, ε3, e3, y, ε4, e4, rfl, e5⟩ := h r
      refine ⟨ε1, e1, true, ε1, rfl, i_t ⟨x, ε3, e3, _, ε4, e4, ?_, e5, ?_⟩⟩
      · rw [List.length_map, List.length_map, List.length_take]; show _ ≤ 10000000; omega
      · rw [List.take_add_one, e]; simp
theorem tru_l {ds : List D} : truO (.lst (ds.map .dat)) = some (!ds.isEmpty) := by simp only [truO, asL_map]
theorem n_ixA {o : O} {ds : List D} {i : Int} {d : D} {Q : O → Prop} (ho : Arr o ds) (h : L2.atI ds i = some d) (q : Q (.dat d)) : W1 (pIx o (.dat (.int i))) Q := by
  refine ⟨_, ?_, q⟩
  rcases ho with rfl | rfl
  · simp only [pIx, asL_map, h]
  · simp only [pIx, M.asL, h]
theorem at_head {rs : List R4} {a : R4} (h : rs.head? = some a) : L2.atI (rs.map e4) 0 = some (e4 a) := by
  cases rs with
  | nil => cases h
  | cons x rs => cases h; unfold L2.atI L2.ixN; simp
theorem at_last {rs : List R4} {b : R4} (h : rs.getLast? = some b) : L2.atI (rs.map e4) (-1) = some (e4 b) := by
  have hp : 0 < rs.length := by
    cases rs with
    | nil => cases h
    | cons x rs => simp
  rw [List.getLast?_eq_getElem?] at h
  unfold L2.atI L2.ixN
  rw [if_neg (by omega), if_pos (by rw [List.length_map]; omega)]
  show (rs.map e4)[((-1 : Int) + ((rs.map e4).length : Int)).toNat]? = _
  have e : ((-1 : Int) + ((rs.map e4).length : Int)).toNat = rs.length - 1 := by rw [List.length_map]; omega
  rw [e, List.getElem?_map, h]; rfl
theorem pair_cut {r : R4} : Z.cutD [.int r.1, .int r.2.1, .int r.2.2.1, .int r.2.2.2] (some 1) (some 3) = [.int r.2.1, .int r.2.2.1] := rfl
theorem board_ok {o : O} {l : List T3} (ho : Arr o (l.map e3)) (hl : l.length ≤ 1000) : W2 (f_board [o]) fun r os => (if l = [] then r = .dat .none else ∃ rs a b n k, IsRows l rs ∧ rs.head? = some a ∧ rs.getLast? = some b ∧ topI (l.map (·.2.1)) = some n ∧ lowI (l.map (·.2.1)) = some k ∧ r = .dat (bd a b n k (l.map (·.2.2)).sum)) ∧ os = [some (.dat (.list (l.map e3)))] := by
  refine d_board ?_
  rcases ho with rfl | rfl
  all_goals
    walk_at "r"
    refine W2.mono (rows_ok (by first | exact .inl rfl | exact .inr rfl) hl) ?_
    rintro _ _ ⟨⟨rs, hr, hlen, rfl⟩, rfl⟩
    walk_at "r"
    refine W1.eq tru_l ?_
    by_cases hz : l = []
    · subst hz
      have : rs = [] := by
        cases rs with
        | nil => rfl
        | cons r rs => obtain ⟨p, hp, -⟩ := (hr.mem r.1).mp (by simp); cases hp
      subst this
      walk_at "r"
      exact ⟨by rw [if_pos rfl], rfl⟩
    · have hne := hr.ne hz
      obtain ⟨n, hn⟩ := top_some (xs := l.map (·.2.1)) (by simpa using hz)
      obtain ⟨k, hk⟩ := low_some (xs := l.map (·.2.1)) (by simpa using hz)
      have e0 : (rs.map e4).isEmpty = false := by cases rs <;> first | exact absurd rfl hne | rfl
      obtain ⟨a, ha⟩ : ∃ a, rs.head? = some a := by cases rs <;> first | exact absurd rfl hne | exact ⟨_, rfl⟩
      obtain ⟨b, hb⟩ : ∃ b, rs.getLast? = some b := ⟨_, List.getLast?_eq_some_getLast hne⟩
      rw [e0]
      walk_at "r"
      refine n_ixA (.inl rfl) (at_head ha) ?_
      walk_at "r"
      refine n_ixA (.inl rfl) (at_last hb) ?_
      walk_at "r"
      refine lc_rows (fun r => r.2.1) hlen (fun r => ?_) ?_
      · walk_at "r"
        exact ⟨rfl, rfl⟩
      walk_at "r"
      refine n_low (hr.low hk) ?_
      walk_at "r"
      refine lc_rows (fun r => r.2.2.1) hlen (fun r => ?_) ?_
      · walk_at "r"
        exact ⟨rfl, rfl⟩
      walk_at "r"
      refine n_top (hr.top hn) ?_
      walk_at "r"
      refine lc_rows (fun r => r.2.2.2) hlen (fun r => ?_) ?_
      · walk_at "r"
        exact ⟨rfl, rfl⟩
      walk_at "r"
      refine n_sum ?_
      walk_at "r"
      rw [hr.sum]
      exact ⟨by rw [if_neg hz]; exact ⟨rs, a, b, n, k, hr, ha, hb, hn, hk, rfl⟩, rfl⟩
end K10
namespace K10
open PySem M K36
local macro_rules | `(tactic| walk_at "s") => `(tactic| (first | with_reducible refine w_op2 rfl rfl ?_ | (with_reducible show W2 (mVar _ _) _; first | refine w_varD rfl ?_ | refine w_varL rfl ?_ | refine w_varT rfl ?_ | refine w_varM rfl ?_ | refine w_varK rfl ?_ | refine w_varN rfl ?_ | refine w_varNK rfl ?_) | (with_reducible show W2 (mLockE _ _ _) _; refine w_lock rfl ?_) | (with_reducible show W2 (mLockS _ _ _) _; refine w_lockS rfl ?_) | (with_reducible show W2 (mLcO _ _ _ _ _ _) _; first | refine w_lcO rfl rfl ?_ | refine w_lcO rfl (allDat_map _) ?_) | with_reducible refine w_seq ?_ | with_reducible refine w_set ?_ | with_reducible refine w_op ?_ | with_reducible refine w_c ?_ | with_reducible refine w_test ?_ | with_reducible refine w_bool ?_ | with_reducible refine w_ifS ?_ | with_reducible refine w_ret ?_ | with_reducible refine w_drop ?_ | with_reducible refine w_asg ?_ | with_reducible refine w_call ?_ | with_reducible refine w_cons ?_ | with_reducible refine w_nil ?_ | with_reducible refine w_tup ?_ | with_reducible refine w_lst ?_ | with_reducible refine w_cb ?_ | with_reducible refine w_isi ?_ | with_reducible refine w_un ?_ | with_reducible refine w_and ?_ | with_reducible refine w_or ?_ | with_reducible refine w_not ?_ | with_reducible refine w_yes ?_ | with_reducible refine w_andV ?_ | with_reducible refine w_orV ?_ | with_reducible refine w_notV ?_ | with_reducible refine w_if ?_ | with_reducible refine w_chain ?_ | with_reducible refine w_sl ?_ | with_reducible refine w_part ?_ | with_reducible refine w_noPart ?_ | with_reducible refine w_put ?_ | with_reducible refine w_app ?_ | with_reducible refine w_ext ?_ | with_reducible refine w_aug ?_ | with_reducible refine w_next ?_ | with_reducible refine w_cont ?_ | with_reducible refine w_brk ?_ | with_reducible refine w_retN ?_ | with_reducible refine w_for ?_ | with_reducible refine w_rng1 ?_ | with_reducible refine w_rng2 ?_ | with_reducible refine w_lrg1 ?_ | with_reducible refine w_lrg2 ?_ | with_reducible refine w_iL ?_ | with_reducible refine w_iT ?_ | with_reducible refine w_lc ?_ | with_reducible refine w_enum ?_ | with_reducible refine w_dnew ?_ | with_reducible refine w_dget2 ?_ | with_reducible refine w_dix ?_ | with_reducible refine w_dput ?_ | with_reducible refine w_sortK ?_ | with_reducible refine w_tru ?_ | with_reducible refine w_orT ?_ | with_reducible refine w_walkD ?_ | with_reducible refine w_ins ?_ | with_reducible refine w_del ?_ | with_reducible refine w_tupO ?_ | with_reducible refine w_appM ?_ | with_reducible refine w_popAt ?_ | with_reducible refine w_ofB ?_ | with_reducible refine w_isiB ?_ | with_reducible refine w_slB ?_ | with_reducible refine w_appU ?_ | with_reducible refine w_putU ?_ | with_reducible refine w_nnew ?_ | with_reducible refine w_none ?_ | with_reducible refine w_nix ?_ | with_reducible refine w_nin ?_ | with_reducible refine w_nget1 ?_ | with_reducible refine w_nget2 ?_ | with_reducible refine w_nput ?_ | with_reducible refine w_zip ?_ | with_reducible refine w_rem ?_ | with_reducible refine w_naug ?_ | with_reducible refine w_walkN ?_ | with_reducible refine w_lc2 ?_ | (with_reducible refine sk_nx ?_; try dsimp only [List.set_cons_zero, List.set_cons_succ, inAll, List.getElem?_cons_zero, List.getElem?_cons_succ, wipeE, restE]) | with_reducible refine sk_ret ?_ | with_reducible refine sk_ct ?_ | with_reducible refine sk_bk ?_ | with_reducible refine fk_nx ?_ | with_reducible refine fk_ret ?_ | with_reducible refine fk_ct ?_ | with_reducible refine fk_bk ?_ | with_reducible refine dk_ret ?_ | with_reducible refine dk_nx ?_ | with_reducible refine i_t ?_ | with_reducible refine i_f ?_ | with_reducible refine i_nF ?_ | with_reducible refine i_nT ?_ | with_reducible refine f_val ?_ | with_reducible refine fa_cons ?_ | with_reducible refine fa_nil ?_ | with_reducible refine t_val ?_ | with_reducible refine o_val ?_ | with_reducible refine oa_val ?_ | with_reducible refine oa_nil ?_ | with_reducible refine ga_val ?_ | with_reducible refine ga_nil ?_ | with_reducible refine g_n ?_ | with_reducible refine g_sc ?_ | with_reducible refine g_sn ?_ | with_reducible refine lc_nil ?_ | with_reducible refine lc_cons ?_ | (with_reducible show W2 (outAll (Rs.slot _ :: _) _) _; refine oa_slot rfl ?_) | (with_reducible show W2 (outR (Rs.slot _) _) _; refine o_slot rfl ?_) | (with_reducible show W1 (getAll (Rs.slot _ :: _) _) _; refine ga_slot rfl ?_) | (with_reducible show W2 (frzR (Rs.slot _) _) _; first | refine f_slot rfl rfl ?_ | refine f_slot rfl (allDat_map _) ?_) | (with_reducible show W2 (takR (Rs.slot _) _) _; first | refine t_slot rfl rfl ?_ | refine t_slot rfl (allDat_map _) ?_) | (with_reducible show W2 (frzR (Rs.val (O.lst _)) _) _; first | refine f_lst rfl ?_ | refine f_lst (allDat_map _) ?_) | (with_reducible show W1 (gT _ _ _ _) _; refine g_t rfl ?_) | with_reducible refine W1.eq (isi_int _) ?_ | with_reducible refine W1.eq (isi_bool _) ?_ | with_reducible refine W1.eq (isi_str _) ?_ | with_reducible refine W1.eq (isi_tuple _) ?_ | with_reducible refine W1.eq (isi_list _) ?_ | with_reducible refine n_mod (by first | assumption | decide | omega) ?_ | with_reducible refine n_div (by first | assumption | decide | omega) (by first | assumption | decide) ?_ | with_reducible refine n_mulS (by first | assumption | decide | omega) (by first | assumption | decide | omega) ?_ | with_reducible refine n_mul (by decide) ?_ | with_reducible refine W1.eq pw_5 ?_ | with_reducible refine W1.eq pw_6 ?_ | with_reducible refine W1.eq pw_8 ?_ | with_reducible refine W1.eq pw_9 ?_ | with_reducible refine W1.eq pw_19 ?_ | with_reducible refine n_pow (by decide) ?_ | (with_reducible show W1 (pIn (O.dat _) (O.lst _)) _; refine n_inL rfl (by first | assumption | decide +kernel) (by first | assumption | decide +kernel) ?_) | (with_reducible show W1 (pNotIn (O.dat _) (O.lst _)) _; refine n_notInL rfl (by first | assumption | decide +kernel) (by first | assumption | decide +kernel) ?_) | (with_reducible show W1 (pIn (O.dat _) (O.dat (PyData.tuple _))) _; refine n_inT (by first | assumption | with_unfolding_all rfl) (by first | assumption | with_unfolding_all rfl) ?_) | with_reducible refine n_addT (by first | assumption | decide | (show _ ≤ 10000000; simp only [Z.cutD, List.length_append, List.length_cons, List.length_nil, List.length_take, List.length_drop, List.length_reverse]; omega)) ?_ | with_reducible refine n_ixTM (by first | assumption | omega) (by first | assumption | omega) (fun d hd => ?_) | (with_reducible show W1 (one pTuple [O.lst _]) _; first | refine n_tupleL rfl ?_ | refine n_tupleL asL_map ?_) | (with_reducible show W1 (one pLen [O.lst _]) _; first | refine n_lenL rfl ?_ | refine n_lenL asL_map ?_) | (with_reducible show W1 (one pList [O.lst _]) _; first | refine n_listL rfl ?_ | refine n_listL asL_map ?_) | (with_reducible show W1 (pNe (O.dat _) (O.dat _)) _; refine n_neRefl (by first | assumption | with_unfolding_all rfl) ?_) | with_reducible refine n_eqI ?_ | with_reducible refine n_neI ?_ | (with_reducible show W1 _ _; refine W1.eq rfl ?_) | (with_reducible show ite _ _ _; first | refine i_T rfl ?_ | refine i_F rfl ?_) | (with_reducible show Exists _; first | refine ⟨_, rfl, ?_⟩ | refine ⟨_, Or.inr rfl, ?_⟩ | refine ⟨_, Or.inl rfl, ?_⟩ | refine ⟨_, _, rfl, rfl, ?_⟩ | refine ⟨_, _, _, rfl, rfl, rfl, ?_⟩) | (with_reducible show And (_ ≤ lim) _; refine ⟨Nat.le_of_ble_eq_true rfl, ?_⟩)))
local macro_rules | `(tactic| walk_at "r") => `(tactic| repeat walk_at "s")
theorem lc_map {α : Type} {xs : List α} (e : α → D) (g : α → D) {ε : M.Env} {vs : List Nat} {mg : mG} {me : mB} {PL : List D → M.Env → Prop} (hl : xs.length ≤ 1000)
    (h : ∀ r, W1 (mg (.dat (e r)) ε) fun ε1 => W2 (me ε1) fun x ε3 => W2 (frzR x ε3) fun y ε4 => y = g r ∧ wipeE ε4 vs = ε)
    (q : PL (xs.map g) ε) : W2 (lcGo vs mg mYes me (xs.map e) ε []) PL := by
  refine w_lcI (fun i acc ε' => ε' = ε ∧ acc = (xs.take i).map g) ⟨rfl, by simp⟩ (fun acc ε' hh => ?_) (fun i d acc ε' hd hh => ?_)
  · obtain ⟨rfl, rfl⟩ := hh
    rw [List.length_map, List.take_length]; exact q
  · obtain ⟨rfl, rfl⟩ := hh
    rw [List.getElem?_map] at hd
    cases e' : xs[i]? with
    | none => rw [e'] at hd; cases hd
    | some r =>
      rw [e'] at hd; cases hd
      obtain ⟨ε1, e1, x, ε3, e3, y, ε4, e4, rfl, e5⟩ := h r
      refine ⟨ε1, e1, true, ε1, rfl, i_t ⟨x, ε3, e3, _, ε4, e4, ?_, e5, ?_⟩⟩
      · rw [List.length_map, List.length_take]; show _ ≤ 10000000; omega
      · rw [List.take_add_one, e']; simp
/-! ### lates -/
def lastM (l : List T3) : Int := l.foldl (fun t q => if q.1 < t then t else q.1) 0
theorem lastM_snoc {l : List T3} {p : T3} : lastM (l ++ [p]) = if p.1 < lastM l then lastM l else p.1 := by unfold lastM; rw [List.foldl_append]; rfl
theorem lates_up {l : List T3} {p : T3} : latesF 0 0 (l ++ [p]) = latesF 0 0 l ++ if p.1 < lastM l then [(l.length : Int)] else [] := by
  rw [lates_snoc, Nat.zero_add]; rfl
theorem lates_ok {o : O} {l : List T3} (ho : Arr o (l.map e3)) (hl : l.length ≤ 1000) : W2 (f_lates [o]) fun r os => r = .lst (((latesF 0 0 l).map .int).map .dat) ∧ os = [some (.dat (.list (l.map e3)))] := by
  refine d_lates ?_
  rcases ho with rfl | rfl
  all_goals
    walk_at "r"
    refine w_forI (fun i ε => ∃ a b c d, ε = [some (.dat (.list (l.map e3))), some (.lst (((latesF 0 0 (l.take i)).map .int).map .dat)), some (.dat (.int (lastM (l.take i)))), a, b, c, d]) ⟨_, _, _, _, rfl⟩ (fun ε h => ?_) (fun i d ε hd h => ?_)
    · obtain ⟨a, b, c, d, rfl⟩ := h
      rw [enumD_len, List.length_map, List.take_length]
      walk_at "r"
      exact ⟨rfl, rfl⟩
    · obtain ⟨a, b, c, d', rfl⟩ := h
      rw [enumD_get] at hd
      cases hp : (l.map e3)[i]? with
      | none => rw [hp] at hd; cases hd
      | some x =>
        rw [hp] at hd
        cases hd
        obtain ⟨p, hp', rfl⟩ := get_e3 hp
        have hi := lt_of_get hp'
        have ht : (l.take i).length = i := by rw [List.length_take]; omega
        walk_at "r"
        refine i_d (fun z => ?_) fun z => ?_
        · walk_at "r"
          refine ⟨_, _, rfl, allDat_map _, ?_, ?_⟩
          · have := lates_len (l := l.take i) (t := 0) (i := 0)
            rw [List.length_map]; show _ ≤ 10000000; omega
          walk_at "r"
          rw [take_snoc hp', lates_up, lastM_snoc, if_pos z, if_pos z, ht]
          rw [show (latesF 0 0 (l.take i) ++ [(i : Int)]).map PyData.int = (latesF 0 0 (l.take i)).map .int ++ [.int (i : Int)] by rw [List.map_append]; rfl]
          exact ⟨_, _, _, _, rfl⟩
        · walk_at "r"
          rw [take_snoc hp', lates_up, lastM_snoc, if_neg z, if_neg z, List.append_nil]
          exact ⟨_, _, _, _, rfl⟩
def FC (l : List T3) (t m : Int) : D := .int (cnt l t m)
structure KeysC (l : List T3) (t : Int) (is : List Int) : Prop where
  nd : is.Nodup
  mem : ∀ m, m ∈ is ↔ HasP l t m
  len : is.length ≤ l.length
theorem hasP_snoc {l : List T3} {p : T3} {t m : Int} : HasP (l ++ [p]) t m ↔ HasP l t m ∨ (p.1 = t ∧ m = p.2.1) := by
  unfold HasP
  constructor
  · rintro ⟨q, hq, e, e'⟩
    rcases List.mem_append.mp hq with w | w
    · exact .inl ⟨q, w, e, e'⟩
    · simp at w; subst w; exact .inr ⟨e, e'.symm⟩
  · rintro (⟨q, hq, e⟩ | ⟨e, e'⟩)
    · exact ⟨q, by simp [hq], e⟩
    · exact ⟨p, by simp, e, e'.symm⟩
theorem KeysC.on {l : List T3} {t : Int} {is : List Int} {p : T3} (h : KeysC l t is) (z : p.1 = t) : KeysC (l ++ [p]) t (addK is p.2.1) :=
  ⟨addK_nodup h.nd, fun m => by rw [addK_mem, hasP_snoc, h.mem]; simp [z], by have := addK_len (is := is) (x := p.2.1); have := h.len; simp; omega⟩
theorem KeysC.off {l : List T3} {t : Int} {is : List Int} {p : T3} (h : KeysC l t is) (z : ¬ p.1 = t) : KeysC (l ++ [p]) t is :=
  ⟨h.nd, fun m => by rw [hasP_snoc, h.mem]; simp [z], by have := h.len; simp; omega⟩
theorem FC_put {l : List T3} {is : List Int} {p : T3} {t c : Int} (z : p.1 = t) (hc : c = cnt l t p.2.1) : putD (mkD (FC l t) is) (.inl p.2.1) (.int (c + p.2.2)) = mkD (FC (l ++ [p]) t) (addK is p.2.1) := by
  subst hc
  rw [put_mk]
  refine mk_congr fun m _ => ?_
  unfold FC
  rw [cnt_snoc]
  by_cases w : m = p.2.1
  · subst w; rw [if_pos rfl, if_pos ⟨z, rfl⟩]
  · rw [if_neg w, if_neg fun y => w y.2.symm, Int.add_zero]
theorem FC_off {l : List T3} {is : List Int} {p : T3} {t : Int} (z : ¬ p.1 = t) : mkD (FC (l ++ [p]) t) is = mkD (FC l t) is := by
  refine mk_congr fun m _ => ?_
  unfold FC
  rw [cnt_snoc, if_neg fun y => z y.1, Int.add_zero]
theorem noLck_map : ∀ {ds : List D}, noLckL (ds.map .dat) = true
  | [] => rfl
  | d :: ds => by rw [List.map_cons, noLckL, noLck_map]; rfl
theorem tru_d {ds : List D} : truO (.dat (.list ds)) = some (!ds.isEmpty) := rfl
theorem called_are {l : List T3} {t : Int} {is : List Int} {x : Int} {xs : List Int} (ht : topI (l.map (·.1)) = some t) (hk : KeysC l t is) (e : is = x :: xs) : Called l (top2 (cnt l t x, x) (xs.map fun m => (cnt l t m, m))).2 := by
  obtain ⟨h1, h2, h3⟩ := top2_spec (p := (cnt l t x, x)) (ps := xs.map fun m => (cnt l t m, m))
  generalize top2 (cnt l t x, x) (xs.map fun m => (cnt l t m, m)) = b at *
  have hb : ∃ y ∈ is, b = (cnt l t y, y) := by
    rcases h1 with rfl | h
    · exact ⟨x, by rw [e]; simp, rfl⟩
    · obtain ⟨y, hy, rfl⟩ := List.mem_map.mp h
      exact ⟨y, by rw [e]; simp [hy], rfl⟩
  obtain ⟨y, hy, rfl⟩ := hb
  refine ⟨t, ht, (hk.mem y).mp hy, fun w hw => ?_⟩
  have hw' := (hk.mem w).mpr hw
  rw [e] at hw'
  rcases List.mem_cons.mp hw' with rfl | hw'
  · exact h2
  · exact h3 _ (List.mem_map.mpr ⟨w, hw', rfl⟩)
def Dn (b : Option O) : Prop := b = none ∨ ∃ d, b = some (.dat d)
theorem called_ok {o : O} {l : List T3} {f : Int} (ho : Arr o (l.map e3)) (hl : l.length ≤ 1000) (hz : l ≠ []) : W2 (f_called_price [o, .dat (.int f)]) fun r os => (∃ x, Called l x ∧ r = .dat (.int x)) ∧ os = [some (.dat (.list (l.map e3))), some (.dat (.int f))] := by
  have e0 : (l.map e3).isEmpty = false := by cases l <;> first | exact absurd rfl hz | rfl
  obtain ⟨t, ht⟩ := top_some (xs := l.map (·.1)) (by simpa using hz)
  refine d_called_price ?_
  rcases ho with rfl | rfl
  all_goals
    walk_at "r"
    try refine W1.eq tru_l ?_
    rw [e0]
    walk_at "r"
    refine lc_map e3 (fun p => .int p.1) hl (fun p => ?_) ?_
    · walk_at "r"
      exact ⟨rfl, rfl⟩
    rw [show l.map (fun p => PyData.int p.1) = (l.map (·.1)).map .int by rw [List.map_map]; rfl]
    walk_at "r"
    refine n_top ht ?_
    walk_at "r"
    refine w_forI (fun i ε => ∃ is a b c, KeysC (l.take i) t is ∧ (Dn a ∧ Dn b ∧ Dn c) ∧ ε = [some (.dat (.list (l.map e3))), some (.dat (.int f)), some (.dat (.int t)), some (.dic (mkD (FC (l.take i) t) is)), a, b, c, none]) ⟨[], _, _, _, ⟨List.nodup_nil, fun m => by simp [HasP], by simp⟩, ⟨.inl rfl, .inl rfl, .inl rfl⟩, rfl⟩ (fun ε h => ?_) (fun i d ε hd h => ?_)
    · obtain ⟨is, a, b, c, hk, ⟨ha, hb, hc⟩, rfl⟩ := h
      rw [List.length_map, List.take_length] at hk ⊢
      have hlen := hk.len
      obtain ⟨x, xs, hx⟩ : ∃ x xs, is = x :: xs := by
        obtain ⟨p, hp, e⟩ := List.mem_map.mp (topI_spec ht).1
        have := (hk.mem p.2.1).mpr ⟨p, hp, e, rfl⟩
        cases is with
        | nil => cases this
        | cons x xs => exact ⟨x, xs, rfl⟩
      rcases hb with rfl | ⟨d, rfl⟩
      all_goals
        walk_at "r"
        rw [items_mk]
        refine lc_map (fun m => .tuple [.int m, FC l t m]) (fun m => e2 (cnt l t m, m)) (by omega) (fun p => ?_) ?_
        · walk_at "r"
          exact ⟨rfl, rfl⟩
        walk_at "r"
        refine ⟨by rcases ha with rfl | ⟨d1, rfl⟩ <;> rcases hc with rfl | ⟨d2, rfl⟩ <;> (simp only [noLck, noLck_map]; rfl), ?_⟩
        rw [show is.map (fun m => e2 (cnt l t m, m)) = (((cnt l t x, x) :: xs.map fun m => (cnt l t m, m)).map e2) by rw [hx, List.map_cons, List.map_cons, List.map_map]; rfl]
        walk_at "r"
        refine n_best2 (by rw [hx] at hlen; simp at hlen ⊢; show _ ≤ 10000000; omega) ?_
        walk_at "r"
        exact ⟨⟨_, called_are ht hk hx, rfl⟩, rfl⟩
    · obtain ⟨is, a, b, c, hk, ⟨ha, hb, hc⟩, rfl⟩ := h
      obtain ⟨p, hp, rfl⟩ := get_e3 hd
      have hi := lt_of_get hp
      have hlen := hk.len
      rw [List.length_take] at hlen
      walk_at "r"
      refine i_d (fun z => ?_) fun z => ?_
      · walk_at "r"
        have hv := val_mk (F := FC (l.take i) t) (is := is) (x := p.2.1)
        by_cases w : p.2.1 ∈ is
        · rw [if_pos w] at hv
          rw [hv]
          dsimp only [FC]
          walk_at "r"
          refine ⟨by rw [mk_len]; show _ < 10000000; omega, ?_⟩
          rw [take_snoc hp]
          exact ⟨_, _, _, _, hk.on z, ⟨.inr ⟨_, rfl⟩, .inr ⟨_, rfl⟩, .inr ⟨_, rfl⟩⟩, by rw [← FC_put z rfl]; rfl⟩
        · rw [if_neg w] at hv
          rw [hv]
          dsimp only
          walk_at "r"
          refine ⟨by rw [mk_len]; show _ < 10000000; omega, ?_⟩
          rw [take_snoc hp]
          exact ⟨_, _, _, _, hk.on z, ⟨.inr ⟨_, rfl⟩, .inr ⟨_, rfl⟩, .inr ⟨_, rfl⟩⟩, by rw [← FC_put z (cnt_none fun q => w ((hk.mem _).mpr q)).symm]; rfl⟩
      · walk_at "r"
        rw [take_snoc hp]
        exact ⟨_, _, _, _, hk.off z, ⟨.inr ⟨_, rfl⟩, .inr ⟨_, rfl⟩, .inr ⟨_, rfl⟩⟩, by rw [FC_off z]; rfl⟩
end K10
namespace S
/-! ### deals: seller, buyer, price, count, moment -/
structure Deal where
  s : Int
  b : Int
  p : Int
  c : Int
  t : Int
theorem sum_perm {l l' : List Int} (h : l.Perm l') : l.sum = l'.sum := by
  induction h with
  | nil => rfl
  | cons x _ ih => rw [List.sum_cons, List.sum_cons, ih]
  | swap x y l => rw [List.sum_cons, List.sum_cons, List.sum_cons, List.sum_cons]; omega
  | trans _ _ h1 h2 => exact h1.trans h2
def lot (m : Int) (x : Deal) : Int := (if x.b = m then x.c else 0) - (if x.s = m then x.c else 0)
def coin (m : Int) (x : Deal) : Int := (if x.s = m then x.p * x.c else 0) - (if x.b = m then x.p * x.c else 0)
def lots (l : List Deal) (m : Int) : Int := (l.map (lot m)).sum
def coins (l : List Deal) (m : Int) : Int := (l.map (coin m)).sum
theorem lots_perm {l l' : List Deal} (h : l.Perm l') (m : Int) : lots l m = lots l' m := sum_perm (h.map _)
theorem coins_perm {l l' : List Deal} (h : l.Perm l') (m : Int) : coins l m = coins l' m := sum_perm (h.map _)
theorem lots_snoc {l : List Deal} {x : Deal} {m : Int} : lots (l ++ [x]) m = lots l m + lot m x := by
  unfold lots; rw [List.map_append, List.sum_append]; simp
theorem coins_snoc {l : List Deal} {x : Deal} {m : Int} : coins (l ++ [x]) m = coins l m + coin m x := by
  unfold coins; rw [List.map_append, List.sum_append]; simp
/-- the law's own way to add them up -/
theorem lots_by (m : Int) : ∀ l : List Deal, ((l.filter fun x => decide (x.b = m)).map (·.c)).sum - ((l.filter fun x => decide (x.s = m)).map (·.c)).sum = lots l m
  | [] => rfl
  | x :: l => by
    have ih := lots_by m l
    have e : lots (x :: l) m = lot m x + lots l m := by unfold lots; rw [List.map_cons, List.sum_cons]
    rw [e]
    unfold lot
    by_cases h1 : x.b = m <;> by_cases h2 : x.s = m <;> simp [h1, h2, List.filter_cons] <;> omega
theorem coins_by (m : Int) : ∀ l : List Deal, ((l.filter fun x => decide (x.s = m)).map fun x => x.p * x.c).sum - ((l.filter fun x => decide (x.b = m)).map fun x => x.p * x.c).sum = coins l m
  | [] => rfl
  | x :: l => by
    have ih := coins_by m l
    have e : coins (x :: l) m = coin m x + coins l m := by unfold coins; rw [List.map_cons, List.sum_cons]
    rw [e]
    unfold coin
    by_cases h1 : x.b = m <;> by_cases h2 : x.s = m <;> simp [h1, h2, List.filter_cons] <;> omega
/-! ### over all members nothing is lost -/
theorem sum_add {α : Type} (f g : α → Int) : ∀ l : List α, (l.map fun a => f a + g a).sum = (l.map f).sum + (l.map g).sum
  | [] => rfl
  | a :: l => by simp only [List.map_cons, List.sum_cons, sum_add f g l]; omega
theorem sum_sub {α : Type} (f g : α → Int) : ∀ l : List α, (l.map fun a => f a - g a).sum = (l.map f).sum - (l.map g).sum
  | [] => rfl
  | a :: l => by simp only [List.map_cons, List.sum_cons, sum_sub f g l]; omega
theorem sum_zero {α : Type} : ∀ l : List α, (l.map fun _ => (0 : Int)).sum = 0
  | [] => rfl
  | a :: l => by simp only [List.map_cons, List.sum_cons, sum_zero l]; rfl
def upto (n : Nat) : List Int := (List.range n).map fun k : Nat => (k : Int)
theorem upto_succ {n : Nat} : upto (n + 1) = upto n ++ [(n : Int)] := by unfold upto; rw [List.range_succ, List.map_append]; rfl
theorem sum_pick {b c : Int} : ∀ {n : Nat}, ((upto n).map fun m => if b = m then c else 0).sum = if 0 ≤ b ∧ b < n then c else 0
  | 0 => by
    rw [if_neg (by omega)]; rfl
  | n + 1 => by
    rw [upto_succ, List.map_append, List.sum_append, sum_pick (n := n)]
    simp only [List.map_cons, List.map_nil, List.sum_cons, List.sum_nil]
    by_cases h : b = n
    · subst h
      rw [if_neg (by omega), if_pos rfl, if_pos (by omega)]; omega
    · rw [if_neg h]
      by_cases g : 0 ≤ b ∧ b < n
      · rw [if_pos g, if_pos (by omega)]; omega
      · rw [if_neg g, if_neg (by omega)]; omega
theorem sum_lots {n : Nat} : ∀ {l : List Deal}, (∀ x ∈ l, (0 ≤ x.s ∧ x.s < n) ∧ 0 ≤ x.b ∧ x.b < n) → ((upto n).map (lots l)).sum = 0
  | [], _ => sum_zero _
  | x :: l, h => by
    have e : (upto n).map (lots (x :: l)) = (upto n).map fun m => lot m x + lots l m := List.map_congr_left fun m _ => by unfold lots; rw [List.map_cons, List.sum_cons]
    have hx := h x (by simp)
    rw [e, sum_add, sum_lots fun y hy => h y (by simp [hy])]
    unfold lot
    rw [sum_sub, sum_pick, sum_pick, if_pos hx.1, if_pos hx.2]
    omega
theorem sum_coins {n : Nat} : ∀ {l : List Deal}, (∀ x ∈ l, (0 ≤ x.s ∧ x.s < n) ∧ 0 ≤ x.b ∧ x.b < n) → ((upto n).map (coins l)).sum = 0
  | [], _ => sum_zero _
  | x :: l, h => by
    have e : (upto n).map (coins (x :: l)) = (upto n).map fun m => coin m x + coins l m := List.map_congr_left fun m _ => by unfold coins; rw [List.map_cons, List.sum_cons]
    have hx := h x (by simp)
    rw [e, sum_add, sum_coins fun y hy => h y (by simp [hy])]
    unfold coin
    rw [sum_sub, sum_pick, sum_pick, if_pos hx.1, if_pos hx.2]
    omega
end S
namespace S
/-! ### lots that came and went again -/
abbrev P2 := Int × Int
/-- first, last, count -/
abbrev P3 := Int × Int × Int
/-- elder lots are closed at a price, the oldest first: what is left of them, what was closed, what is left of the count -/
def close (price : Int) : List P2 → Int → List P2 × List P3 × Int
  | [], c => ([], [], c)
  | e :: es, c => if c > 0 then (if c < e.2 then ((e.1, e.2 - c) :: es, [(e.1, price, c)], 0) else ((close price es (c - e.2)).1, (e.1, price, e.2) :: (close price es (c - e.2)).2.1, (close price es (c - e.2)).2.2))
    else (e :: es, [], c)
def cnt (l : List P2) : Int := (l.map (·.2)).sum
/-- what they are worth at a price -/
def val (p : Int) (l : List P2) : Int := (l.map fun e => e.2 * (p - e.1)).sum
def won (l : List P3) : Int := (l.map fun e => e.2.2 * (e.2.1 - e.1)).sum
theorem cnt_cons {e : P2} {l : List P2} : cnt (e :: l) = e.2 + cnt l := by unfold cnt; rw [List.map_cons, List.sum_cons]
theorem val_cons {p : Int} {e : P2} {l : List P2} : val p (e :: l) = e.2 * (p - e.1) + val p l := by unfold val; rw [List.map_cons, List.sum_cons]
theorem won_cons {e : P3} {l : List P3} : won (e :: l) = e.2.2 * (e.2.1 - e.1) + won l := by unfold won; rw [List.map_cons, List.sum_cons]
theorem cnt_snoc {e : P2} {l : List P2} : cnt (l ++ [e]) = cnt l + e.2 := by unfold cnt; rw [List.map_append, List.sum_append]; simp
theorem val_snoc {p : Int} {e : P2} {l : List P2} : val p (l ++ [e]) = val p l + e.2 * (p - e.1) := by unfold val; rw [List.map_append, List.sum_append]; simp
theorem won_app {l m : List P3} : won (l ++ m) = won l + won m := by unfold won; rw [List.map_append, List.sum_append]
abbrev Pos (l : List P2) : Prop := ∀ e ∈ l, 0 < e.2
theorem close_ok {price : Int} : ∀ {es : List P2} {c : Int}, Pos es → 0 ≤ c →
    Pos (close price es c).1 ∧ 0 ≤ (close price es c).2.2 ∧ (close price es c).2.2 ≤ c ∧ (0 < (close price es c).2.2 → (close price es c).1 = []) ∧ (es = [] → (close price es c).1 = []) ∧
    cnt (close price es c).1 = cnt es - (c - (close price es c).2.2) ∧ (∀ p, won (close price es c).2.1 + val p (close price es c).1 = val p es + (c - (close price es c).2.2) * (price - p)) ∧
    (close price es c).1.length ≤ es.length ∧ (close price es c).2.1.length ≤ es.length
  | [], c, _, h => by
    refine ⟨(fun e he => by cases he), h, Int.le_refl _, fun _ => rfl, fun _ => rfl, ?_, fun p => ?_, Nat.le_refl _, Nat.le_refl _⟩
    · show cnt [] = cnt [] - (c - c); omega
    · show won [] + val p [] = val p [] + (c - c) * (price - p)
      rw [Int.sub_self, Int.zero_mul]; rfl
  | e :: es, c, hp, h => by
    have hpe := hp e (by simp)
    have hps : Pos es := fun x hx => hp x (by simp [hx])
    by_cases h1 : c > 0
    · by_cases h2 : c < e.2
      · have e1 : close price (e :: es) c = ((e.1, e.2 - c) :: es, [(e.1, price, c)], 0) := by rw [close, if_pos h1, if_pos h2]
        rw [e1]
        dsimp only
        refine ⟨fun x hx => ?_, Int.le_refl _, h, fun z => by omega, (fun z => by cases z), ?_, fun p => ?_, Nat.le_refl _, by simp⟩
        · rcases List.mem_cons.mp hx with rfl | hx
          · show 0 < e.2 - c; omega
          · exact hps x hx
        · rw [cnt_cons, cnt_cons]; dsimp only; omega
        · rw [won_cons, val_cons, val_cons]
          dsimp only
          rw [Int.sub_zero, Int.sub_mul]
          have a1 : c * (price - e.1) = c * (price - p) + c * (p - e.1) := by rw [← Int.mul_add]; congr 1; omega
          have a2 : won [] = 0 := rfl
          omega
      · have e1 : close price (e :: es) c = ((close price es (c - e.2)).1, (e.1, price, e.2) :: (close price es (c - e.2)).2.1, (close price es (c - e.2)).2.2) := by rw [close, if_pos h1, if_neg h2]
        rw [e1]
        obtain ⟨g1, g2, g3, g4, g5, g6, g7, g8, g9⟩ := close_ok (price := price) (es := es) (c := c - e.2) hps (by omega)
        generalize close price es (c - e.2) = r at *
        obtain ⟨r1, r2, r3⟩ := r
        dsimp only at *
        refine ⟨g1, g2, by omega, g4, (fun z => by cases z), ?_, fun p => ?_, by simp; omega, by simp; omega⟩
        · rw [cnt_cons]; omega
        · rw [won_cons, val_cons]
          dsimp only
          have a := g7 p
          have a1 : e.2 * (price - e.1) = e.2 * (price - p) + e.2 * (p - e.1) := by rw [← Int.mul_add]; congr 1; omega
          have a2 : (c - r3) * (price - p) = (c - e.2 - r3) * (price - p) + e.2 * (price - p) := by rw [← Int.add_mul]; congr 1; omega
          omega
    · have e1 : close price (e :: es) c = (e :: es, [], c) := by rw [close, if_neg h1]
      rw [e1]
      dsimp only
      refine ⟨hp, h, Int.le_refl _, fun z => absurd z h1, (fun z => by cases z), by omega, fun p => ?_, Nat.le_refl _, by simp⟩
      rw [Int.sub_self, Int.zero_mul]
      show 0 + _ = _
      omega
/-- elder, younger, what was closed, behind a step -/
def stepC (price count : Int) (el yo : List P2) : List P2 × List P2 × List P3 :=
  ((close price el count).1, (if (close price el count).2.2 > 0 then yo ++ [(price, (close price el count).2.2)] else yo), (close price el count).2.1)
theorem step_ok {price count : Int} {el yo : List P2} (h1 : Pos el) (h2 : Pos yo) (h3 : el = [] ∨ yo = []) (h4 : 0 ≤ count) :
    Pos (stepC price count el yo).1 ∧ Pos (stepC price count el yo).2.1 ∧ ((stepC price count el yo).1 = [] ∨ (stepC price count el yo).2.1 = []) ∧
    cnt (stepC price count el yo).1 - cnt (stepC price count el yo).2.1 = cnt el - cnt yo - count ∧
    (∀ p, won (stepC price count el yo).2.2 + val p (stepC price count el yo).1 - val p (stepC price count el yo).2.1 = val p el - val p yo + count * (price - p)) ∧
    (stepC price count el yo).1.length ≤ el.length ∧ (stepC price count el yo).2.1.length ≤ yo.length + 1 ∧ (stepC price count el yo).2.2.length ≤ el.length := by
  obtain ⟨g1, g2, g3, g4, g5, g6, g7, g8, g9⟩ := close_ok (price := price) h1 h4
  unfold stepC
  generalize close price el count = r at *
  obtain ⟨r1, r2, r3⟩ := r
  dsimp only at *
  by_cases z : r3 > 0
  · rw [if_pos z]
    refine ⟨g1, fun e he => ?_, .inl (g4 z), ?_, fun p => ?_, g8, by simp, g9⟩
    · rcases List.mem_append.mp he with w | w
      · exact h2 e w
      · simp at w; subst w; exact z
    · rw [cnt_snoc]; dsimp only; omega
    · rw [val_snoc]
      dsimp only
      have a := g7 p
      have a1 : count * (price - p) = (count - r3) * (price - p) + r3 * (price - p) := by rw [← Int.add_mul]; congr 1; omega
      have a2 : r3 * (p - price) = - (r3 * (price - p)) := by rw [← Int.mul_neg]; congr 1; omega
      omega
  · rw [if_neg z]
    have z0 : r3 = 0 := by omega
    subst z0
    refine ⟨g1, h2, h3.imp g5 id, by omega, fun p => ?_, g8, by omega, g9⟩
    have a := g7 p
    rw [Int.sub_zero] at a
    omega
end S
namespace S
abbrev Bd2 (e : P2) : Prop := (0 < e.2 ∧ e.2 ≤ 1000000) ∧ 0 ≤ e.1 ∧ e.1 ≤ 1000000000
abbrev Bd3 (e : P3) : Prop := (0 < e.2.2 ∧ e.2.2 ≤ 1000000) ∧ (0 ≤ e.1 ∧ e.1 ≤ 1000000000) ∧ 0 ≤ e.2.1 ∧ e.2.1 ≤ 1000000000
theorem close_bd {price : Int} (h1 : 0 ≤ price ∧ price ≤ 1000000000) : ∀ {es : List P2} {c : Int}, (∀ e ∈ es, Bd2 e) → 0 ≤ c → c ≤ 1000000 →
    (∀ e ∈ (close price es c).1, Bd2 e) ∧ (∀ e ∈ (close price es c).2.1, Bd3 e) ∧ (close price es c).1.length + (close price es c).2.1.length + (if (close price es c).2.2 > 0 then 1 else 0) ≤ es.length + 1
  | [], c, _, h, h' => by
    refine ⟨(fun e he => by cases he), (fun e he => by cases he), ?_⟩
    show 0 + 0 + (if c > 0 then 1 else 0) ≤ 0 + 1
    split <;> omega
  | e :: es, c, hp, h, h' => by
    have hpe := hp e (by simp)
    have hps : ∀ e ∈ es, Bd2 e := fun x hx => hp x (by simp [hx])
    by_cases h2 : c > 0
    · by_cases h3 : c < e.2
      · have e1 : close price (e :: es) c = ((e.1, e.2 - c) :: es, [(e.1, price, c)], 0) := by rw [close, if_pos h2, if_pos h3]
        rw [e1]
        dsimp only
        refine ⟨fun x hx => ?_, fun x hx => ?_, ?_⟩
        · rcases List.mem_cons.mp hx with rfl | hx
          · exact ⟨⟨by show 0 < e.2 - c; omega, by show e.2 - c ≤ _; omega⟩, hpe.2⟩
          · exact hps x hx
        · rw [List.mem_singleton] at hx
          subst hx
          exact ⟨⟨h2, h'⟩, hpe.2, h1⟩
        · simp
      · have e1 : close price (e :: es) c = ((close price es (c - e.2)).1, (e.1, price, e.2) :: (close price es (c - e.2)).2.1, (close price es (c - e.2)).2.2) := by rw [close, if_pos h2, if_neg h3]
        rw [e1]
        obtain ⟨g1, g2, g3⟩ := close_bd h1 (es := es) (c := c - e.2) hps (by omega) (by omega)
        generalize close price es (c - e.2) = r at *
        obtain ⟨r1, r2, r3⟩ := r
        dsimp only at *
        refine ⟨g1, fun x hx => ?_, ?_⟩
        · rcases List.mem_cons.mp hx with rfl | hx
          · exact ⟨hpe.1, hpe.2, h1⟩
          · exact g2 x hx
        · rw [List.length_cons, List.length_cons]; omega
    · have e1 : close price (e :: es) c = (e :: es, [], c) := by rw [close, if_neg h2]
      rw [e1]
      dsimp only
      refine ⟨hp, (fun e he => by cases he), ?_⟩
      rw [if_neg h2]; simp
/-! ### a member's steps -/
structure Stp where
  t : Int
  p : Int
  o : Int
  c : Int
  sl : Bool
structure OkS (x : Stp) : Prop where
  p : 0 ≤ x.p ∧ x.p ≤ 1000000000
  c : 0 < x.c ∧ x.c ≤ 1000000
def gain1 (p : Int) (x : Stp) : Int := if x.sl = true then x.c * (x.p - p) else - (x.c * (x.p - p))
def lot1 (x : Stp) : Int := if x.sl = true then - x.c else x.c
def gains (l : List Stp) (p : Int) : Int := (l.map (gain1 p)).sum
def many (l : List Stp) : Int := (l.map lot1).sum
theorem gains_perm {l l' : List Stp} (h : l.Perm l') (p : Int) : gains l p = gains l' p := sum_perm (h.map _)
theorem many_perm {l l' : List Stp} (h : l.Perm l') : many l = many l' := sum_perm (h.map _)
theorem gains_snoc {l : List Stp} {x : Stp} {p : Int} : gains (l ++ [x]) p = gains l p + gain1 p x := by
  unfold gains; rw [List.map_append, List.sum_append]; simp
theorem many_snoc {l : List Stp} {x : Stp} : many (l ++ [x]) = many l + lot1 x := by
  unfold many; rw [List.map_append, List.sum_append]; simp
/-- what was closed, with its word: had, or owed -/
abbrev P4 := P3 × Bool
def won1 (e : P4) : Int := if e.2 = true then e.1.2.2 * (e.1.2.1 - e.1.1) else - (e.1.2.2 * (e.1.2.1 - e.1.1))
def wonS (l : List P4) : Int := (l.map won1).sum
theorem wonS_app {l m : List P4} : wonS (l ++ m) = wonS l + wonS m := by unfold wonS; rw [List.map_append, List.sum_append]
theorem wonS_had : ∀ (l : List P3), wonS (l.map fun e => (e, true)) = won l
  | [] => rfl
  | e :: l => by
    have ih := wonS_had l
    unfold wonS won at *
    rw [List.map_cons, List.map_cons, List.sum_cons, List.map_cons, List.sum_cons, ih]
    rfl
theorem wonS_owed : ∀ (l : List P3), wonS (l.map fun e => (e, false)) = - won l
  | [] => rfl
  | e :: l => by
    have ih := wonS_owed l
    unfold wonS won at *
    rw [List.map_cons, List.map_cons, List.sum_cons, List.map_cons, List.sum_cons, ih]
    show - (e.2.2 * (e.2.1 - e.1)) + _ = _
    omega
structure Book (l : List Stp) (had owed : List P2) (cl : List P4) : Prop where
  bh : ∀ e ∈ had, Bd2 e
  bo : ∀ e ∈ owed, Bd2 e
  bc : ∀ e ∈ cl, Bd3 e.1
  one : had = [] ∨ owed = []
  cnt : cnt had - cnt owed = many l
  won : ∀ p, wonS cl + val p had - val p owed = gains l p
  len : had.length + owed.length + cl.length ≤ l.length
theorem book_nil : Book [] [] [] [] := ⟨(fun e he => by cases he), (fun e he => by cases he), (fun e he => by cases he), .inl rfl, rfl, fun _ => rfl, Nat.le_refl _⟩
theorem pos_of {l : List P2} (h : ∀ e ∈ l, Bd2 e) : Pos l := fun e he => (h e he).1.1
theorem stepC_bd {price count : Int} {el yo : List P2} (h1 : 0 ≤ price ∧ price ≤ 1000000000) (h2 : ∀ e ∈ el, Bd2 e) (h3 : ∀ e ∈ yo, Bd2 e) (h4 : 0 ≤ count) (h5 : count ≤ 1000000) :
    (∀ e ∈ (stepC price count el yo).1, Bd2 e) ∧ (∀ e ∈ (stepC price count el yo).2.1, Bd2 e) ∧ (∀ e ∈ (stepC price count el yo).2.2, Bd3 e) ∧ (stepC price count el yo).1.length + (stepC price count el yo).2.1.length + (stepC price count el yo).2.2.length ≤ el.length + yo.length + 1 := by
  obtain ⟨g1, g2, g3⟩ := close_bd h1 h2 h4 h5
  obtain ⟨k1, k2, k3, -⟩ := close_ok (price := price) (pos_of h2) h4
  unfold stepC
  generalize close price el count = r at *
  obtain ⟨r1, r2, r3⟩ := r
  dsimp only at *
  refine ⟨g1, fun e he => ?_, g2, ?_⟩
  · by_cases z : r3 > 0
    · rw [if_pos z] at he
      rcases List.mem_append.mp he with w | w
      · exact h3 e w
      · rw [List.mem_singleton] at w; subst w; exact ⟨⟨z, by show r3 ≤ _; omega⟩, h1⟩
    · rw [if_neg z] at he; exact h3 e he
  · by_cases z : r3 > 0
    · rw [if_pos z] at g3 ⊢; rw [List.length_append, List.length_singleton]; omega
    · rw [if_neg z] at g3 ⊢; omega
theorem Book.sell {l : List Stp} {had owed : List P2} {cl : List P4} {x : Stp} (B : Book l had owed cl) (hx : OkS x) (hs : x.sl = true) :
    Book (l ++ [x]) (stepC x.p x.c had owed).1 (stepC x.p x.c had owed).2.1 (cl ++ (stepC x.p x.c had owed).2.2.map fun e => (e, true)) := by
  have h0 : 0 ≤ x.c := by have := hx.c.1; omega
  obtain ⟨g1, g2, g3, g4, g5, -, -, -⟩ := step_ok (price := x.p) (pos_of B.bh) (pos_of B.bo) B.one h0
  obtain ⟨k1, k2, k3, k4⟩ := stepC_bd hx.p B.bh B.bo h0 hx.c.2
  generalize stepC x.p x.c had owed = r at *
  obtain ⟨r1, r2, r3⟩ := r
  dsimp only at *
  refine ⟨k1, k2, fun e he => ?_, g3, ?_, fun p => ?_, ?_⟩
  · rcases List.mem_append.mp he with w | w
    · exact B.bc e w
    · obtain ⟨y, hy, rfl⟩ := List.mem_map.mp w; exact k3 y hy
  · rw [many_snoc, ← B.cnt, g4]; unfold lot1; rw [if_pos hs]; omega
  · rw [gains_snoc, wonS_app, wonS_had, ← B.won p]
    have := g5 p
    unfold gain1
    rw [if_pos hs]
    omega
  · rw [List.length_append, List.length_append, List.length_map, List.length_singleton]; have := B.len; omega
theorem Book.buy {l : List Stp} {had owed : List P2} {cl : List P4} {x : Stp} (B : Book l had owed cl) (hx : OkS x) (hs : x.sl = false) :
    Book (l ++ [x]) (stepC x.p x.c owed had).2.1 (stepC x.p x.c owed had).1 (cl ++ (stepC x.p x.c owed had).2.2.map fun e => (e, false)) := by
  have h0 : 0 ≤ x.c := by have := hx.c.1; omega
  obtain ⟨g1, g2, g3, g4, g5, -, -, -⟩ := step_ok (price := x.p) (pos_of B.bo) (pos_of B.bh) B.one.symm h0
  obtain ⟨k1, k2, k3, k4⟩ := stepC_bd hx.p B.bo B.bh h0 hx.c.2
  generalize stepC x.p x.c owed had = r at *
  obtain ⟨r1, r2, r3⟩ := r
  dsimp only at *
  refine ⟨k2, k1, fun e he => ?_, g3.symm, ?_, fun p => ?_, ?_⟩
  · rcases List.mem_append.mp he with w | w
    · exact B.bc e w
    · obtain ⟨y, hy, rfl⟩ := List.mem_map.mp w; exact k3 y hy
  · have := B.cnt
    rw [many_snoc]; unfold lot1; rw [if_neg (by rw [hs]; simp)]; omega
  · have h7 := B.won p
    rw [gains_snoc, wonS_app, wonS_owed]
    have := g5 p
    unfold gain1
    rw [if_neg (by rw [hs]; simp)]
    omega
  · rw [List.length_append, List.length_append, List.length_map, List.length_singleton]; have := B.len; omega
/-! ### the steps of a member -/
def stepOf (m : Int) (x : Deal) : Option Stp := if x.b = m then some ⟨x.t, x.p, x.s, x.c, false⟩ else if x.s = m then some ⟨x.t, x.p, x.b, x.c, true⟩ else none
def stepsOf (m : Int) (l : List Deal) : List Stp := l.filterMap (stepOf m)
theorem steps_snoc {m : Int} {l : List Deal} {x : Deal} : stepsOf m (l ++ [x]) = stepsOf m l ++ (stepOf m x).toList := by
  unfold stepsOf
  rw [List.filterMap_append, List.filterMap_cons]
  cases stepOf m x <;> rfl
theorem steps_sum (m p : Int) : ∀ {l : List Deal}, (∀ x ∈ l, x.s ≠ x.b) → gains (stepsOf m l) p = coins l m + p * lots l m ∧ many (stepsOf m l) = lots l m
  | [], _ => ⟨by show (0 : Int) = 0 + p * 0; omega, rfl⟩
  | x :: l, h => by
    obtain ⟨h1, h2⟩ := steps_sum m p fun y hy => h y (List.mem_cons_of_mem _ hy)
    have hne := h x (by simp)
    have e1 : lots (x :: l) m = lot m x + lots l m := by unfold lots; rw [List.map_cons, List.sum_cons]
    have e2 : coins (x :: l) m = coin m x + coins l m := by unfold coins; rw [List.map_cons, List.sum_cons]
    rw [e1, e2, Int.mul_add]
    unfold stepsOf at *
    have q : p * x.c = x.c * p := Int.mul_comm _ _
    have q2 : x.p * x.c = x.c * x.p := Int.mul_comm _ _
    by_cases hb : x.b = m
    · have hs : ¬ x.s = m := fun z => hne (z.trans hb.symm)
      rw [List.filterMap_cons_some (show stepOf m x = some ⟨x.t, x.p, x.s, x.c, false⟩ from if_pos hb)]
      unfold gains many at *
      rw [List.map_cons, List.sum_cons, List.map_cons, List.sum_cons, h1, h2]
      unfold lot coin gain1 lot1
      rw [if_pos hb, if_neg hs, if_neg hs, if_pos hb]
      simp only [Bool.false_eq_true, if_false]
      rw [Int.mul_sub, Int.sub_zero]
      constructor <;> omega
    · by_cases hs : x.s = m
      · rw [List.filterMap_cons_some (show stepOf m x = some ⟨x.t, x.p, x.b, x.c, true⟩ from (if_neg hb).trans (if_pos hs))]
        unfold gains many at *
        rw [List.map_cons, List.sum_cons, List.map_cons, List.sum_cons, h1, h2]
        unfold lot coin gain1 lot1
        rw [if_neg hb, if_pos hs, if_pos hs, if_neg hb]
        simp only [if_true]
        rw [Int.mul_sub, Int.zero_sub, Int.mul_neg]
        constructor <;> omega
      · rw [List.filterMap_cons_none (show stepOf m x = none from (if_neg hb).trans (if_neg hs))]
        unfold lot coin
        rw [if_neg hb, if_neg hs, if_neg hs, if_neg hb]
        rw [h1, h2, Int.sub_self, Int.mul_zero]
        constructor <;> omega
theorem steps_ok {m : Int} {l : List Deal} (h : ∀ x ∈ l, (0 ≤ x.p ∧ x.p ≤ 1000000000) ∧ 0 < x.c ∧ x.c ≤ 1000000) : ∀ y ∈ stepsOf m l, OkS y := fun y hy => by
  obtain ⟨x, hx, e⟩ := List.mem_filterMap.mp hy
  obtain ⟨h1, h2⟩ := h x hx
  unfold stepOf at e
  split at e
  · cases e; exact ⟨h1, h2⟩
  · split at e
    · cases e; exact ⟨h1, h2⟩
    · cases e
theorem steps_len {m : Int} {l : List Deal} : (stepsOf m l).length ≤ l.length := List.length_filterMap_le _ _
/-! ### how great sums are -/
theorem sum_bd {α : Type} (f : α → Int) (b : Nat) : ∀ {l : List α}, (∀ a ∈ l, (f a).natAbs ≤ b) → ((l.map f).sum).natAbs ≤ l.length * b
  | [], _ => by simp
  | a :: l, h => by
    have h1 := sum_bd f b (l := l) fun x hx => h x (by simp [hx])
    have h2 := h a (by simp)
    rw [List.map_cons, List.sum_cons, List.length_cons, Nat.add_mul, Nat.one_mul]
    omega
theorem lots_bd {l : List Deal} {m : Int} (h : ∀ x ∈ l, 0 < x.c ∧ x.c ≤ 1000000) : (lots l m).natAbs ≤ l.length * 1000000 := sum_bd _ _ fun x hx => by
  have := h x hx
  unfold lot
  split <;> split <;> omega
theorem cnt_bd {l : List P2} (h : ∀ e ∈ l, Bd2 e) : (cnt l).natAbs ≤ l.length * 1000000 := sum_bd _ _ fun x hx => by
  have := (h x hx).1
  omega
theorem cnt_pos : ∀ {l : List P2}, (∀ e ∈ l, Bd2 e) → 0 ≤ cnt l ∧ (cnt l = 0 → l = [])
  | [], _ => ⟨Int.le_refl _, fun _ => rfl⟩
  | e :: l, h => by
    have h1 := cnt_pos (l := l) fun x hx => h x (by simp [hx])
    have h2 := (h e (by simp)).1.1
    rw [cnt_cons]
    exact ⟨by omega, fun z => by omega⟩
end S
namespace M
open PySem
section
variable {ε : Env} {P : Rs → Env → Prop} {PS : Fl → Env → Prop} {mo mi : mB}
theorem w_ins {m : mA} (h : W2 (mo ε) fun ro ε1 => ∃ i xs, ro = .slot i ∧ M.slotAt ε1 i = some (.lst xs) ∧ W2 (m ε1) fun rs ε2 => ∃ j r, rs = [.val (.dat (.int j)), r] ∧ W2 (frzR r ε2) fun d ε3 => ∃ os ds, M.slotAt ε3 i = some (.lst os) ∧ allDat os = some ds ∧
    ((ds.length ≤ lim ∧ 0 ≤ j ∧ j ≤ lim) ∧ P (.val (.dat .none)) (ε3.set i (some (.lst ((putAt ds j d).map .dat)))))) : W2 (mIns mo m ε) P := by
  obtain ⟨ro, ε1, e1, i, xs, rfl, e2, rs, ε2, e3, j, r, rfl, d, ε3, e4, os, ds, e5, e6, hl, q⟩ := h
  exact ⟨_, _, by simp only [mIns, e1, e2, e3, e4, e5, e6, if_pos hl], q⟩
theorem w_del (h : W2 (mo ε) fun ro ε1 => W2 (mi ε1) fun ri ε2 => ∃ i j, ro = .slot i ∧ ri = .val (.dat (.int j)) ∧ ∃ os ds, M.slotAt ε2 i = some (.lst os) ∧ allDat os = some ds ∧
    ((0 ≤ j ∧ j < ds.length ∧ j ≤ lim) ∧ PS .nx (ε2.set i (some (.lst ((ds.eraseIdx j.toNat).map .dat)))))) : W2 (mDelIx mo mi ε) PS := by
  obtain ⟨ro, ε1, e1, ri, ε2, e2, i, j, rfl, rfl, os, ds, e5, e6, hl, q⟩ := h
  exact ⟨_, _, by simp only [mDelIx, e1, e2, e5, e6, if_pos hl], q⟩
theorem put_perm {ds : List D} {j : Int} {d : D} : (putAt ds j d).Perm (d :: ds) := by
  unfold putAt
  rw [List.append_assoc]
  show (ds.take j.toNat ++ d :: ds.drop j.toNat).Perm _
  refine List.perm_middle.trans ?_
  rw [List.take_append_drop]
/-- one turn of a loop -/
theorem wh_turn {n : Nat} {mt : mT} {mb : mS} (h : W2 (mt ε) fun b ε1 => if b = true then W2 (mb ε1) (ForK (fun ε2 => W2 (whGo mt mb n ε2) PS) PS) else PS .nx ε1) : W2 (whGo mt mb (n + 1) ε) PS := by
  obtain ⟨b, ε1, e1, h⟩ := h
  cases b with
  | false => exact ⟨.nx, ε1, by simp only [whGo, e1], by simpa using h⟩
  | true =>
    rw [if_pos rfl] at h
    obtain ⟨f, ε2, e2, h⟩ := h
    cases f with
    | nx =>
      obtain ⟨g, ε3, e3, q⟩ := h
      exact ⟨g, ε3, by simp only [whGo, e1, e2, e3], q⟩
    | ct =>
      obtain ⟨g, ε3, e3, q⟩ := h
      exact ⟨g, ε3, by simp only [whGo, e1, e2, e3], q⟩
    | bk => exact ⟨.nx, ε2, by simp only [whGo, e1, e2], h⟩
    | ret o => exact ⟨.ret o, ε2, by simp only [whGo, e1, e2], h⟩
end
theorem w_lcO {i : Nat} {vs : List Nat} {mg : mG} {mt : mT} {me : mB} {ε : Env} {P : Rs → Env → Prop} {os : List O} {ds : List D} (hs : M.slotAt ε i = some (.lst os)) (ha : allDat os = some ds)
    (h : W2 (lcGo vs mg mt me ds (wipeE (ε.set i none) vs) []) fun acc ε2 => (restE vs (ε.set i none) ε2)[i]? = some none ∧ P (.val (.lst (acc.map .dat))) ((restE vs (ε.set i none) ε2).set i (some (.lst (ds.map .dat))))) : W2 (mLcO i vs mg mt me ε) P := by
  obtain ⟨acc, ε2, e, h1, q⟩ := h
  exact ⟨_, _, by simp only [mLcO, hs, ha, e, h1], q⟩
/-! ### comprehensions over a list of things told by e -/
section
variable {α : Type} {xs : List α} {ε : Env} {vs : List Nat} {mg : mG} {mt : mT} {me : mB} {PL : List D → Env → Prop}
theorem lc_fm (e : α → D) (p : α → Bool) (g : α → D) (hl : xs.length ≤ 100000)
    (h : ∀ r ∈ xs, W1 (mg (.dat (e r)) ε) fun ε1 => W2 (mt ε1) fun b ε2 => b = p r ∧ if b = true then W2 (me ε2) fun x ε3 => W2 (frzR x ε3) fun y ε4 => y = g r ∧ wipeE ε4 vs = ε else wipeE ε2 vs = ε)
    (k : PL ((xs.filter p).map g) ε) : W2 (lcGo vs mg mt me (xs.map e) ε []) PL := by
  refine w_lcI (fun i acc ε' => ε' = ε ∧ acc = ((xs.take i).filter p).map g) ⟨rfl, by simp⟩ (fun acc ε' hh => ?_) (fun i d acc ε' hd hh => ?_)
  · obtain ⟨rfl, rfl⟩ := hh
    rw [List.length_map, List.take_length]; exact k
  · obtain ⟨rfl, rfl⟩ := hh
    rw [List.getElem?_map] at hd
    cases e' : xs[i]? with
    | none => rw [e'] at hd; cases hd
    | some r =>
      rw [e'] at hd; cases hd
      obtain ⟨ε1, e1, b, ε2, e2, rfl, q2⟩ := h r (List.mem_of_getElem? e')
      refine ⟨ε1, e1, _, ε2, e2, ?_⟩
      have hlen : (((xs.take i).filter p).map g).length ≤ lim := by
        rw [List.length_map]
        refine Nat.le_trans (List.length_filter_le _ _) ?_
        rw [List.length_take]; show _ ≤ 10000000; omega
      have ht : xs.take (i + 1) = xs.take i ++ [r] := by rw [List.take_add_one, e']; rfl
      cases hp : p r with
      | true =>
        rw [hp, if_pos rfl] at q2
        obtain ⟨x, ε3, e3, y, ε4, e4, rfl, e5⟩ := q2
        exact i_t ⟨x, ε3, e3, _, ε4, e4, hlen, e5, by rw [ht]; simp [hp]⟩
      | false =>
        rw [hp] at q2
        exact i_f ⟨by simpa using q2, by rw [ht]; simp [hp]⟩
theorem lc_m (e : α → D) (g : α → D) (hl : xs.length ≤ 100000)
    (h : ∀ r ∈ xs, W1 (mg (.dat (e r)) ε) fun ε1 => W2 (me ε1) fun x ε3 => W2 (frzR x ε3) fun y ε4 => y = g r ∧ wipeE ε4 vs = ε)
    (k : PL (xs.map g) ε) : W2 (lcGo vs mg mYes me (xs.map e) ε []) PL := by
  refine lc_fm e (fun _ => true) g hl (fun r hr => ?_) ?_
  · obtain ⟨ε1, e1, q⟩ := h r hr
    exact ⟨ε1, e1, true, ε1, rfl, rfl, i_t q⟩
  · rw [List.filter_eq_self.mpr fun _ _ => rfl]; exact k
end
/-! ### deals -/
abbrev e5 (x : S.Deal) : D := .tuple [.int x.s, .int x.b, .int x.p, .int x.c, .int x.t]
theorem good_e5 (x : S.Deal) : Good (e5 x) := rfl
theorem good_e2 (x : Int × Int) : Good (e2 x) := rfl
structure OkD (n : Nat) (x : S.Deal) : Prop where
  s : 0 ≤ x.s ∧ x.s < n
  b : 0 ≤ x.b ∧ x.b < n
  p : 0 ≤ x.p ∧ x.p ≤ 1000000000
  c : 1 ≤ x.c ∧ x.c ≤ 1000000
  ne : x.s ≠ x.b
theorem ne_mod {s y n : Int} (h0 : 0 ≤ s) (h1 : s < n) (h2 : 0 ≤ y) (h3 : y < n - 1) : s ≠ (s + 1 + y) % n := by
  by_cases z : s + 1 + y < n
  · rw [Int.emod_eq_of_lt (by omega) z]; omega
  · have e : s + 1 + y = (s + 1 + y - n) + n * 1 := by omega
    rw [e, Int.add_mul_emod_self_left, Int.emod_eq_of_lt (by omega) (by omega)]
    omega
/-- a member's steps, and what was closed -/
abbrev e5s (x : S.Stp) : D := .tuple [.int x.t, .int x.p, .int x.o, .int x.c, .bool x.sl]
def wordOf (b : Bool) : D := if b = true then .str "had" else .str "owed"
abbrev e4c (e : S.P4) : D := .tuple [.int e.1.1, .int e.1.2.1, .int e.1.2.2, wordOf e.2]
theorem lay_stp : ∀ (ps : List S.Stp), PyData.canLayAll0 (ps.map e5s) = true
  | [] => rfl
  | i :: is => by rw [List.map_cons, PyData.canLayAll0, lay_stp is]; rfl
theorem ord_stp {ps : List S.Stp} (h : ps.length ≤ lim) : ordB (ps.map e5s) = true := by
  refine ordB_iff.mpr ⟨fun d hd e he => ?_, .inl fun d hd => ?_, by rw [List.length_map]; exact h, lay_stp ps, dep_le fun e he => ?_⟩
  · obtain ⟨i, -, rfl⟩ := List.mem_map.mp hd
    obtain ⟨j, -, rfl⟩ := List.mem_map.mp he
    rfl
  · obtain ⟨i, -, rfl⟩ := List.mem_map.mp hd
    rfl
  · obtain ⟨i, -, rfl⟩ := List.mem_map.mp he
    have : (e5s i).depth = 1 := rfl
    omega
theorem srtD_perm {ds : List D} : (srtD ds).Perm ds := List.mergeSort_perm _ _
theorem get_map {α : Type} {e : α → D} {l : List α} {i : Nat} {d : D} (h : (l.map e)[i]? = some d) : ∃ p, l[i]? = some p ∧ d = e p := by
  rw [List.getElem?_map] at h
  cases q : l[i]? with
  | none => rw [q] at h; cases h
  | some p => rw [q] at h; cases h; exact ⟨p, rfl, rfl⟩
theorem take_one {α : Type} {l : List α} {i : Nat} {p : α} (h : l[i]? = some p) : l.take (i + 1) = l.take i ++ [p] := by rw [List.take_add_one, h]; rfl
theorem get_lt {α : Type} {l : List α} {i : Nat} {p : α} (h : l[i]? = some p) : i < l.length := by
  rcases Nat.lt_or_ge i l.length with z | z
  · exact z
  · rw [List.getElem?_eq_none z] at h; cases h
/-- a list that is a list of told things in another order -/
theorem perm_map {α : Type} {e : α → D} {l : List α} {ds : List D} (h : ds.Perm (l.map e)) : ∃ l' : List α, ds = l'.map e ∧ l'.Perm l := by
  obtain ⟨l', h1, h2⟩ : ∃ l' : List α, l'.Perm l ∧ l'.map e = ds := by
    induction l generalizing ds with
    | nil => rw [List.map_nil] at h; cases h.eq_nil; exact ⟨[], .refl _, rfl⟩
    | cons a l ih =>
      rw [List.map_cons] at h
      have hm : e a ∈ ds := h.mem_iff.mpr (by simp)
      obtain ⟨xs, ys, rfl⟩ := List.append_of_mem hm
      have h2 : (xs ++ ys).Perm (l.map e) := (List.perm_middle.symm.trans h).cons_inv
      obtain ⟨l', h3, h4⟩ := ih h2
      have h5 : xs = (l'.take xs.length).map e ∧ ys = (l'.drop xs.length).map e := by
        rw [List.map_take, List.map_drop, h4]; simp
      refine ⟨l'.take xs.length ++ a :: l'.drop xs.length, ?_, ?_⟩
      · refine List.perm_middle.trans ?_
        rw [List.take_append_drop]; exact h3.cons a
      · rw [List.map_append, List.map_cons, ← h5.1, ← h5.2]
  exact ⟨l', h2.symm, h1⟩
/-- numbers kept by members -/
def mkN (f : Int → Int) (is : List Int) : DK := mkD (fun m => .int (f m)) is
structure Num (f : Int → Int) (n : Nat) (kvs : DK) : Prop where
  ex : ∃ is, kvs = mkN f is ∧ (∀ m, m ∉ is → f m = 0) ∧ is.length ≤ n
theorem num_nil : Num (fun _ => 0) 0 [] := ⟨[], rfl, fun _ _ => rfl, Nat.le_refl _⟩
theorem Num.get {f : Int → Int} {n : Nat} {kvs : DK} (h : Num f n kvs) (m : Int) : valD kvs (.inl m) = some (.int (f m)) ∨ valD kvs (.inl m) = none ∧ f m = 0 := by
  obtain ⟨is, rfl, h1, -⟩ := h.ex
  unfold mkN
  rw [val_mk]
  by_cases z : m ∈ is
  · exact .inl (by rw [if_pos z])
  · exact .inr ⟨by rw [if_neg z], h1 m z⟩
theorem Num.len {f : Int → Int} {n : Nat} {kvs : DK} (h : Num f n kvs) : kvs.length ≤ n := by
  obtain ⟨is, rfl, -, h2⟩ := h.ex
  unfold mkN mkD; rw [List.length_map]; exact h2
theorem Num.put {f : Int → Int} {n : Nat} {kvs : DK} (h : Num f n kvs) (m y : Int) : Num (fun k => if k = m then y else f k) (n + 1) (putD kvs (.inl m) (.int y)) := by
  obtain ⟨is, rfl, h1, h2⟩ := h.ex
  refine ⟨addK is m, ?_, fun k hk => ?_, ?_⟩
  · unfold mkN
    rw [put_mk]
    refine mk_congr fun k _ => ?_
    by_cases z : k = m
    · simp [z]
    · simp [z]
  · have hk' : ¬ (k ∈ is ∨ k = m) := fun z => hk (addK_mem.mpr z)
    rw [if_neg fun z => hk' (.inr z)]
    exact h1 k fun z => hk' (.inl z)
  · have := addK_len (is := is) (x := m); omega
theorem Num.congr {f g : Int → Int} {n : Nat} {kvs : DK} (h : Num f n kvs) (e : ∀ m, f m = g m) : Num g n kvs := by
  have : f = g := funext e
  rw [← this]; exact h
theorem Num.mono {f : Int → Int} {n k : Nat} {kvs : DK} (h : Num f n kvs) (e : n ≤ k) : Num f k kvs := by
  obtain ⟨is, h1, h2, h3⟩ := h.ex
  exact ⟨is, h1, h2, by omega⟩
section
variable {ε : Env} {P : Rs → Env → Prop} {mo mk mx : mB}
theorem w_getN (h : W2 (mo ε) fun r ε1 => ∃ i kvs0, r = .slot i ∧ dicAt ε1 i = some kvs0 ∧ W2 (mk ε1) fun rk ε2 => ∃ m, rk = .val (.dat (.int m)) ∧ W2 (mx ε2) fun rx ε3 => rx = .val (.dat (.int 0)) ∧ ∃ (kvs : DK) (f : Int → Int) (n : Nat), dicAt ε3 i = some kvs ∧ Num f n kvs ∧ P (.val (.dat (.int (f m)))) ε3) : W2 (mDGet2 mo mk mx ε) P := by
  refine w_dget2 (W2.mono h fun r ε1 ⟨i, kvs0, e1, e2, h⟩ => ⟨i, kvs0, e1, e2, W2.mono h fun rk ε2 ⟨m, e3, h⟩ => ⟨_, .inl m, e3, rfl, W2.mono h fun rx ε3 ⟨e4, kvs, f, n, e5, hn, q⟩ => ⟨kvs, e5, ?_⟩⟩⟩)
  subst e4
  rcases hn.get m with e | ⟨e, e0⟩
  · rw [e]; exact q
  · rw [e]; rw [e0] at q; exact q
end
theorem n_ixA {o : O} {ds : List D} {i : Int} {d : D} {Q : O → Prop} (ho : Arr o ds) (h : L2.atI ds i = some d) (q : Q (.dat d)) : W1 (pIx o (.dat (.int i))) Q := by
  refine ⟨_, ?_, q⟩
  rcases ho with rfl | rfl
  · simp only [pIx, asL_map, h]
  · simp only [pIx, M.asL, h]
theorem at_zero {d : D} {ds : List D} : L2.atI (d :: ds) 0 = some d := by unfold L2.atI L2.ixN; simp
theorem ix_zero {d : D} {ds : List D} : L2.ixN (d :: ds).length 0 = some 0 := by unfold L2.ixN; simp
theorem at_nat {ds : List D} {i : Nat} {d : D} (h : ds[i]? = some d) : L2.atI ds (i : Int) = some d := by
  have hl := get_lt h
  unfold L2.atI L2.ixN
  rw [if_pos (by omega), if_pos (by omega)]
  show ds[(i : Int).toNat]? = some d
  exact h
theorem n_sortD {ds : List D} {Q : O → Prop} (h : ordB ds = true) (q : Q (.lst ((srtD ds).map .dat))) : W1 (one pSortD [.lst (ds.map .dat)]) Q := ⟨_, by simp only [one, pSortD, asL_map, if_pos h], q⟩
theorem tru_nil {Q : Bool → Prop} (q : Q false) : W1 (truO (.lst [])) Q := ⟨_, rfl, q⟩
theorem tru_map {d : D} {ds : List D} {Q : Bool → Prop} (q : Q true) : W1 (truO (.lst ((d :: ds).map .dat))) Q := ⟨_, by simp only [truO, asL_map]; rfl, q⟩
theorem eqv_str {s t : Str} : PyData.eqv (.str s) (.str t) = decide (s = t) := by simp only [PyData.eqv]; rfl
theorem n_eqS {s t : Str} {b : Bool} {Q : O → Prop} (h1 : PyData.strOk s = true) (h2 : PyData.strOk t = true) (h : decide (s = t) = b) (q : Q (.dat (.bool b))) : W1 (pEq (.dat (.str s)) (.dat (.str t))) Q := by
  refine ⟨_, ?_, q⟩
  have e := eqv_str (s := s) (t := t)
  simp only [pEq, shp, O.pl, O.er, SeqAt.shaped, PyData.canLay0, PyData.depth, e, h, h1, h2]
  rfl
def hasOf (b : Bool) : D := if b = true then .str "has" else .str "owes"
theorem n_had {b : Bool} {Q : O → Prop} (q : Q (.dat (.bool b))) : W1 (pEq (.dat (wordOf b)) (.dat (.str "had"))) Q := by
  cases b
  · exact n_eqS (s := "owed") (by decide +kernel) (by decide +kernel) (by decide) q
  · exact n_eqS (s := "had") (by decide +kernel) (by decide +kernel) (by decide) q
theorem n_has {b : Bool} {Q : O → Prop} (q : Q (.dat (.bool b))) : W1 (pEq (.dat (hasOf b)) (.dat (.str "has"))) Q := by
  cases b
  · exact n_eqS (s := "owes") (by decide +kernel) (by decide +kernel) (by decide) q
  · exact n_eqS (s := "has") (by decide +kernel) (by decide +kernel) (by decide) q
theorem Arr.nil {o : O} (h : o = .lst []) : Arr o [] := .inl h
end M
/-! stepping rules: sorted(set()), max of two, a for over parts of one's own -/
namespace M
open PySem PySem.Spec L2 Z
section
variable {ε : Env} {P : Rs → Env → Prop} {PS : Fl → Env → Prop} {m : mA} {mg : mG} {mb : mS} {Q : O → Prop}
theorem n_setSort {is : List Int} (h : is.length ≤ 4000) (q : Q (.lst (((setI is).map .int).map .dat))) : W1 (one pSetSort [.lst ((is.map .int).map .dat)]) Q :=
  ⟨_, by simp only [one, pSetSort, asL_map, asI_map, if_pos h], q⟩
theorem n_max2 {p q : Int × Int} (g : Q (.dat (e2 (if lt2 p q then q else p)))) : W1 (two pMax2D [.dat (e2 p), .dat (e2 q)]) Q := by
  refine ⟨_, ?_, g⟩
  have h := ord_two (ps := [p, q]) (by show 2 ≤ 10000000; omega)
  have e := max_two (ps := [q]) (p := p)
  simp only [List.map_cons, List.map_nil] at h e
  simp only [two, pMax2D, h, if_true, e]
  rfl
theorem w_forO (h : W2 (m ε) fun rs ε1 => W2 (outAll rs ε1) fun os ε2 => os.length ≤ lim ∧ W2 (forO mg mb os ε2) PS) : W2 (mForO m mg mb ε) PS := by
  obtain ⟨rs, ε1, e1, os, ε2, e2, hl, f, ε3, e3, q⟩ := h
  exact ⟨_, _, by simp only [mForO, mTupO, e1, e2, if_pos hl, e3], q⟩
theorem w_forO0 (q : PS .nx ε) : W2 (forO mg mb [] ε) PS := ⟨_, _, rfl, q⟩
theorem w_forO1 {o : O} {os : List O} (h : W1 (mg o ε) fun ε1 => W2 (mb ε1) fun f ε2 => f = .nx ∧ W2 (forO mg mb os ε2) PS) : W2 (forO mg mb (o :: os) ε) PS := by
  obtain ⟨ε1, e1, f, ε2, e2, rfl, g, ε3, e3, q⟩ := h
  exact ⟨_, _, by simp only [forO, e1, e2, e3], q⟩
end
end M
namespace K10
open PySem M K36
local macro_rules | `(tactic| walk_at "s") => `(tactic| (first | with_reducible refine w_op2 rfl rfl ?_ | (with_reducible show W2 (mVar _ _) _; first | refine w_varD rfl ?_ | refine w_varL rfl ?_ | refine w_varT rfl ?_ | refine w_varM rfl ?_ | refine w_varK rfl ?_ | refine w_varN rfl ?_ | refine w_varNK rfl ?_) | (with_reducible show W2 (mLockE _ _ _) _; refine w_lock rfl ?_) | (with_reducible show W2 (mLockS _ _ _) _; refine w_lockS rfl ?_) | (with_reducible show W2 (mLcO _ _ _ _ _ _) _; first | refine w_lcO rfl rfl ?_ | refine w_lcO rfl (allDat_map _) ?_) | with_reducible refine w_seq ?_ | with_reducible refine w_set ?_ | with_reducible refine w_op ?_ | with_reducible refine w_c ?_ | with_reducible refine w_test ?_ | with_reducible refine w_bool ?_ | with_reducible refine w_ifS ?_ | with_reducible refine w_ret ?_ | with_reducible refine w_drop ?_ | with_reducible refine w_asg ?_ | with_reducible refine w_call ?_ | with_reducible refine w_cons ?_ | with_reducible refine w_nil ?_ | with_reducible refine w_tup ?_ | with_reducible refine w_lst ?_ | with_reducible refine w_cb ?_ | with_reducible refine w_isi ?_ | with_reducible refine w_un ?_ | with_reducible refine w_and ?_ | with_reducible refine w_or ?_ | with_reducible refine w_not ?_ | with_reducible refine w_yes ?_ | with_reducible refine w_andV ?_ | with_reducible refine w_orV ?_ | with_reducible refine w_notV ?_ | with_reducible refine w_if ?_ | with_reducible refine w_chain ?_ | with_reducible refine w_sl ?_ | with_reducible refine w_part ?_ | with_reducible refine w_noPart ?_ | with_reducible refine w_put ?_ | with_reducible refine w_app ?_ | with_reducible refine w_ext ?_ | with_reducible refine w_aug ?_ | with_reducible refine w_next ?_ | with_reducible refine w_cont ?_ | with_reducible refine w_brk ?_ | with_reducible refine w_retN ?_ | with_reducible refine w_for ?_ | with_reducible refine w_rng1 ?_ | with_reducible refine w_rng2 ?_ | with_reducible refine w_lrg1 ?_ | with_reducible refine w_lrg2 ?_ | with_reducible refine w_iL ?_ | with_reducible refine w_iT ?_ | with_reducible refine w_lc ?_ | with_reducible refine w_enum ?_ | with_reducible refine w_dnew ?_ | with_reducible refine w_dget2 ?_ | with_reducible refine w_dix ?_ | with_reducible refine w_dput ?_ | with_reducible refine w_sortK ?_ | with_reducible refine w_tru ?_ | with_reducible refine w_orT ?_ | with_reducible refine w_walkD ?_ | with_reducible refine w_ins ?_ | with_reducible refine w_del ?_ | with_reducible refine w_tupO ?_ | with_reducible refine w_appM ?_ | with_reducible refine w_popAt ?_ | with_reducible refine w_ofB ?_ | with_reducible refine w_isiB ?_ | with_reducible refine w_slB ?_ | with_reducible refine w_appU ?_ | with_reducible refine w_putU ?_ | with_reducible refine w_nnew ?_ | with_reducible refine w_none ?_ | with_reducible refine w_nix ?_ | with_reducible refine w_nin ?_ | with_reducible refine w_nget1 ?_ | with_reducible refine w_nget2 ?_ | with_reducible refine w_nput ?_ | with_reducible refine w_zip ?_ | with_reducible refine w_rem ?_ | with_reducible refine w_naug ?_ | with_reducible refine w_walkN ?_ | with_reducible refine w_lc2 ?_ | (with_reducible refine sk_nx ?_; try dsimp only [List.set_cons_zero, List.set_cons_succ, inAll, List.getElem?_cons_zero, List.getElem?_cons_succ, wipeE, restE]) | with_reducible refine sk_ret ?_ | with_reducible refine sk_ct ?_ | with_reducible refine sk_bk ?_ | with_reducible refine fk_nx ?_ | with_reducible refine fk_ret ?_ | with_reducible refine fk_ct ?_ | with_reducible refine fk_bk ?_ | with_reducible refine dk_ret ?_ | with_reducible refine dk_nx ?_ | with_reducible refine i_t ?_ | with_reducible refine i_f ?_ | with_reducible refine i_nF ?_ | with_reducible refine i_nT ?_ | with_reducible refine f_val ?_ | with_reducible refine fa_cons ?_ | with_reducible refine fa_nil ?_ | with_reducible refine t_val ?_ | with_reducible refine o_val ?_ | with_reducible refine oa_val ?_ | with_reducible refine oa_nil ?_ | with_reducible refine ga_val ?_ | with_reducible refine ga_nil ?_ | with_reducible refine g_n ?_ | with_reducible refine g_sc ?_ | with_reducible refine g_sn ?_ | with_reducible refine lc_nil ?_ | with_reducible refine lc_cons ?_ | (with_reducible show W2 (outAll (Rs.slot _ :: _) _) _; refine oa_slot rfl ?_) | (with_reducible show W2 (outR (Rs.slot _) _) _; refine o_slot rfl ?_) | (with_reducible show W1 (getAll (Rs.slot _ :: _) _) _; refine ga_slot rfl ?_) | (with_reducible show W2 (frzR (Rs.slot _) _) _; first | refine f_slot rfl rfl ?_ | refine f_slot rfl (allDat_map _) ?_) | (with_reducible show W2 (takR (Rs.slot _) _) _; first | refine t_slot rfl rfl ?_ | refine t_slot rfl (allDat_map _) ?_) | (with_reducible show W2 (frzR (Rs.val (O.lst _)) _) _; first | refine f_lst rfl ?_ | refine f_lst (allDat_map _) ?_) | (with_reducible show W1 (gT _ _ _ _) _; refine g_t rfl ?_) | with_reducible refine W1.eq (isi_int _) ?_ | with_reducible refine W1.eq (isi_bool _) ?_ | with_reducible refine W1.eq (isi_str _) ?_ | with_reducible refine W1.eq (isi_tuple _) ?_ | with_reducible refine W1.eq (isi_list _) ?_ | with_reducible refine n_mod (by first | assumption | decide | omega) ?_ | with_reducible refine n_div (by first | assumption | decide | omega) (by first | assumption | decide) ?_ | with_reducible refine n_mulS (by first | assumption | decide | omega) (by first | assumption | decide | omega) ?_ | with_reducible refine n_mul (by decide) ?_ | with_reducible refine W1.eq pw_5 ?_ | with_reducible refine W1.eq pw_6 ?_ | with_reducible refine W1.eq pw_8 ?_ | with_reducible refine W1.eq pw_9 ?_ | with_reducible refine W1.eq pw_19 ?_ | with_reducible refine n_pow (by decide) ?_ | (with_reducible show W1 (pIn (O.dat _) (O.lst _)) _; refine n_inL rfl (by first | assumption | decide +kernel) (by first | assumption | decide +kernel) ?_) | (with_reducible show W1 (pNotIn (O.dat _) (O.lst _)) _; refine n_notInL rfl (by first | assumption | decide +kernel) (by first | assumption | decide +kernel) ?_) | (with_reducible show W1 (pIn (O.dat _) (O.dat (PyData.tuple _))) _; refine n_inT (by first | assumption | with_unfolding_all rfl) (by first | assumption | with_unfolding_all rfl) ?_) | with_reducible refine n_addT (by first | assumption | decide | (show _ ≤ 10000000; simp only [Z.cutD, List.length_append, List.length_cons, List.length_nil, List.length_take, List.length_drop, List.length_reverse]; omega)) ?_ | with_reducible refine n_ixTM (by first | assumption | omega) (by first | assumption | omega) (fun d hd => ?_) | (with_reducible show W1 (one pTuple [O.lst _]) _; first | refine n_tupleL rfl ?_ | refine n_tupleL asL_map ?_) | (with_reducible show W1 (one pLen [O.lst _]) _; first | refine n_lenL rfl ?_ | refine n_lenL asL_map ?_) | (with_reducible show W1 (one pList [O.lst _]) _; first | refine n_listL rfl ?_ | refine n_listL asL_map ?_) | (with_reducible show W1 (pNe (O.dat _) (O.dat _)) _; refine n_neRefl (by first | assumption | with_unfolding_all rfl) ?_) | with_reducible refine n_eqI ?_ | with_reducible refine n_neI ?_ | (with_reducible show W1 _ _; refine W1.eq rfl ?_) | (with_reducible show ite _ _ _; first | refine i_T rfl ?_ | refine i_F rfl ?_) | (with_reducible show Exists _; first | refine ⟨_, rfl, ?_⟩ | refine ⟨_, Or.inr rfl, ?_⟩ | refine ⟨_, Or.inl rfl, ?_⟩ | refine ⟨_, _, rfl, rfl, ?_⟩ | refine ⟨_, _, _, rfl, rfl, rfl, ?_⟩) | (with_reducible show And (_ ≤ lim) _; refine ⟨Nat.le_of_ble_eq_true rfl, ?_⟩)))
local macro_rules | `(tactic| walk_at "r") => `(tactic| repeat walk_at "s")
local macro_rules | `(tactic| walk_at "t") => `(tactic| (refine W2.mono (take_ok ⟨_, _, rfl, by assumption, by assumption⟩ (by first | decide | omega) (by first | decide | assumption)) ?_; rintro _ _ ⟨x, o', e1, e2, hx0, hx1, a', b', e3, hb0, hb1⟩; subst e1; subst e2; subst e3))
local macro_rules | `(tactic| walk_at "r") => `(tactic| repeat (first | walk_at "s" | walk_at "t"))
abbrev OkP (p : T3) : Prop := 0 ≤ p.1 ∧ 0 < p.2.2 ∧ p.2.2 ≤ 1000000
theorem prints_ok {o : O} (hb : Bag o) : W2 (f_z_prints [o]) fun r os => (∃ l : List T3, r = .lst ((l.map e3).map .dat) ∧ l.length ≤ 1000 ∧ ∀ p ∈ l, OkP p) ∧ ∃ o', os = [some o'] ∧ Bag o' := by
  obtain ⟨a, b, rfl, h1, h2⟩ := hb
  refine d_z_prints ?_
  walk_at "r"
  refine n_ixM rfl (by split <;> omega) (by show _ < (3 : Int); split <;> omega) fun dm hdm => ?_
  obtain ⟨m, rfl, hm0, hm1⟩ : ∃ m : Int, dm = .int m ∧ 0 ≤ m ∧ m ≤ 400 := by
    simp only [List.mem_cons, List.not_mem_nil, or_false] at hdm
    rcases hdm with rfl | rfl | rfl
    · exact ⟨_, rfl, by omega, by omega⟩
    · exact ⟨_, rfl, by omega, by omega⟩
    · exact ⟨_, rfl, by omega, by omega⟩
  walk_at "r"
  refine ⟨by omega, by omega, ?_⟩
  refine w_forI (fun i ε => ∃ l : List T3, ∃ a b t k x, l.length = i ∧ (∀ p ∈ l, OkP p) ∧ 0 ≤ b ∧ b < 2147483648 ∧ ε = [some (.lst [.dat (.int a), .dat (.int b)]), some (.dat (.int m)), some (.lst ((l.map e3).map .dat)), some (.dat (.int t)), k, x]) ⟨[], _, _, _, _, _, rfl, (fun p hp => by cases hp), by assumption, by assumption, rfl⟩ (fun ε h => ?_) (fun i d ε hd h => ?_)
  · obtain ⟨l, a, b, t, k, x, hl, hp, h0, h1, rfl⟩ := h
    rw [show (intsD 0 m.toNat).length = m.toNat by simp [intsD]] at hl
    walk_at "r"
    exact ⟨⟨l, rfl, by omega, hp⟩, _, rfl, _, _, rfl, h0, h1⟩
  · obtain ⟨l, a, b, t, k, x, hl, hp, h0, h1, rfl⟩ := h
    obtain ⟨rfl, hi⟩ := ints_get hd
    have l6 : (1000000 : Int).natAbs.log2 < 9000 := by decide
    walk_at "r"
    refine n_ixM rfl (by split <;> omega) (by show _ < (2 : Int); split <;> omega) fun dp hdp => ?_
    obtain ⟨y, rfl⟩ : ∃ y : Int, dp = .int y := by
      simp only [List.mem_cons, List.not_mem_nil, or_false] at hdp
      rcases hdp with rfl | rfl <;> exact ⟨_, rfl⟩
    generalize ht : (if _ > (0 : Int) then _ else (0 : Int)) = t'
    have ht' : 0 ≤ t' := by rw [← ht]; split <;> omega
    walk_at "r"
    refine n_ixM rfl (by split <;> omega) (by show _ < (2 : Int); split <;> omega) fun dc hdc => ?_
    obtain ⟨c, rfl, hc0, hc1⟩ : ∃ c : Int, dc = .int c ∧ 0 < c ∧ c ≤ 1000000 := by
      simp only [List.mem_cons, List.not_mem_nil, or_false] at hdc
      rcases hdc with rfl | rfl <;> exact ⟨_, rfl, by omega, by omega⟩
    have lc := log_small hc0 (by omega)
    walk_at "r"
    refine ⟨_, _, rfl, allDat_map _, ?_, ?_⟩
    · rw [List.length_map]; show _ ≤ 10000000; omega
    walk_at "r"
    rw [show ∀ (d : Int), l.map e3 ++ [PyData.tuple [.int t', .int y, .int d]] = (l ++ [(t', y, d)]).map e3 from fun d => by rw [List.map_append]; rfl]
    refine ⟨_, _, _, _, _, _, by simp [hl], fun p hp' => ?_, by assumption, by assumption, rfl⟩
    rcases List.mem_append.mp hp' with z | z
    · exact hp p z
    · simp at z; subst z; exact ⟨ht', by show 0 < 1 + _; omega, by show 1 + _ ≤ 1000000; omega⟩

local macro_rules | `(tactic| walk_at "r") => `(tactic| repeat (first | walk_at "s" | walk_at "t"))
theorem shuf_ok {o : O} {ds : List D} (hb : Bag o) (hl : ds.length ≤ 1000) : W2 (f_z_shuffled [o, .dat (.list ds)]) fun r os => (∃ es : List D, r = .lst (es.map .dat) ∧ es.Perm ds) ∧ ∃ o', os = [some o', some (.dat (.list ds))] ∧ Bag o' := by
  obtain ⟨a, b, rfl, h1, h2⟩ := hb
  refine d_z_shuffled ?_
  walk_at "r"
  refine w_forI (fun i ε => ∃ es : List D, ∃ a b k, es.Perm (ds.take i) ∧ 0 ≤ b ∧ b < 2147483648 ∧ ε = [some (.lst [.dat (.int a), .dat (.int b)]), some (.dat (.list ds)), some (.lst (es.map .dat)), k]) ⟨[], _, _, _, .refl _, by assumption, by assumption, rfl⟩ (fun ε h => ?_) (fun i d ε hd h => ?_)
  · obtain ⟨es, a, b, k, hp, h0, h1, rfl⟩ := h
    rw [List.take_length] at hp
    walk_at "r"
    exact ⟨⟨es, rfl, hp⟩, _, rfl, _, _, rfl, h0, h1⟩
  · obtain ⟨es, a, b, k, hp, h0, h1, rfl⟩ := h
    have hi := get_lt hd
    have hle : es.length ≤ 1000 := by rw [hp.length_eq, List.length_take]; omega
    have hlog := log_small (m := (es.length : Int) + 1) (by omega) (by omega)
    walk_at "r"
    refine ⟨_, _, rfl, ?_⟩
    walk_at "r"
    refine ⟨_, _, rfl, allDat_map _, ⟨?_, by assumption, ?_⟩, ?_⟩
    · show _ ≤ 10000000; omega
    · show _ ≤ (10000000 : Int); omega
    walk_at "r"
    refine ⟨_, _, _, _, ?_, by assumption, by assumption, rfl⟩
    rw [take_one hd]
    exact put_perm.trans ((hp.cons d).trans (List.perm_append_comm (l₁ := [d])))
/-! ### the rows, told by the law -/
theorem low_is {is : List Int} {n : Int} (h : lowI is = some n) : n ∈ is ∧ ∀ k ∈ is, n ≤ k := by
  cases is with
  | nil => cases h
  | cons x xs =>
    cases h
    obtain ⟨h1, h2, h3⟩ := foldl_min (xs := xs) (x := x)
    refine ⟨?_, fun k hk => ?_⟩
    · rcases h1 with z | z
      · rw [z]; simp
      · exact List.mem_cons_of_mem _ z
    · rcases List.mem_cons.mp hk with z | z
      · rw [z]; exact h2
      · exact h3 k z
theorem top_is {is : List Int} {n : Int} (h : topI is = some n) : n ∈ is ∧ ∀ k ∈ is, k ≤ n := by
  cases is with
  | nil => cases h
  | cons x xs =>
    cases h
    obtain ⟨h1, h2, h3⟩ := foldl_max (xs := xs) (x := x)
    refine ⟨?_, fun k hk => ?_⟩
    · rcases h1 with z | z
      · rw [z]; simp
      · exact List.mem_cons_of_mem _ z
    · rcases List.mem_cons.mp hk with z | z
      · rw [z]; exact h2
      · exact h3 k z
abbrev atM (l : List T3) (m : Int) : List T3 := l.filter fun p => decide (p.1 = m)
theorem stat_at {l : List T3} {m lo hi : Int} (h1 : lowI ((atM l m).map (·.2.1)) = some lo) (h2 : topI ((atM l m).map (·.2.1)) = some hi) : Stat l m (lo, hi, sm l m) := by
  obtain ⟨a1, a2⟩ := low_is h1
  obtain ⟨b1, b2⟩ := top_is h2
  have key : ∀ {p : T3}, p ∈ atM l m ↔ p ∈ l ∧ p.1 = m := by intro p; simp [atM]
  refine ⟨?_, fun p hp e => a2 _ (List.mem_map.mpr ⟨p, key.mpr ⟨hp, e⟩, rfl⟩), ?_, fun p hp e => b2 _ (List.mem_map.mpr ⟨p, key.mpr ⟨hp, e⟩, rfl⟩), rfl⟩
  · obtain ⟨p, hp, e⟩ := List.mem_map.mp a1
    exact ⟨p, (key.mp hp).1, (key.mp hp).2, e⟩
  · obtain ⟨p, hp, e⟩ := List.mem_map.mp b1
    exact ⟨p, (key.mp hp).1, (key.mp hp).2, e⟩
theorem at_ne {l : List T3} {m : Int} (h : Has l m) : (atM l m).map (·.2.1) ≠ [] := by
  obtain ⟨p, hp, e⟩ := h
  intro z
  have : p ∈ atM l m := by simp [atM, hp, e]
  rw [List.map_eq_nil_iff.mp z] at this
  cases this
abbrev momL (l : List T3) : List Int := setI (l.map (·.1))
theorem mem_mom {l : List T3} {m : Int} : m ∈ momL l ↔ Has l m := by
  rw [mem_setI, List.mem_map]
  exact ⟨fun ⟨p, h, e⟩ => ⟨p, h, e⟩, fun ⟨p, h, e⟩ => ⟨p, h, e⟩⟩
theorem rows_set {l : List T3} : IsRows l ((momL l).map (rowOf l)) := by
  have e : ((momL l).map (rowOf l)).map (·.1) = momL l := by rw [List.map_map]; exact (List.map_congr_left fun m _ => rfl).trans (List.map_id _)
  refine ⟨by rw [e]; exact lt_setI, fun m => by rw [e, mem_mom], fun r hr => ?_⟩
  obtain ⟨m, hm, rfl⟩ := List.mem_map.mp hr
  obtain ⟨s, hs, k⟩ := stat_has (mem_mom.mp hm)
  show Stat l m ((stat l m).getD _)
  rw [hs]; exact k
theorem lrows_ok {o : O} {l : List T3} (ho : Arr o (l.map e3)) (hl : l.length ≤ 1000) : W2 (f_z_rows [o]) fun r os => (∃ rs, IsRows l rs ∧ rs.length ≤ 1000 ∧ r = .lst ((rs.map e4).map .dat)) ∧ os = [some (.dat (.list (l.map e3)))] := by
  refine d_z_rows ?_
  have hm : (momL l).length ≤ 1000 := by show (setI (l.map (·.1))).length ≤ 1000; have := len_setI (ks := l.map (·.1)); rw [List.length_map] at this; omega
  rcases ho with rfl | rfl
  all_goals
    walk_at "r"
    refine lc_map e3 (fun p => .int p.1) hl (fun p => ?_) ?_
    · walk_at "r"
      exact ⟨rfl, rfl⟩
    rw [show l.map (fun p => PyData.int p.1) = (l.map (·.1)).map .int by rw [List.map_map]; rfl]
    walk_at "r"
    refine n_setSort (by rw [List.length_map]; omega) ?_
    walk_at "r"
    refine w_forI (fun i ε => ∃ a b c, ε = [some (.dat (.list (l.map e3))), some (.lst (((((momL l).take i).map (rowOf l)).map e4).map .dat)), a, b, c, none]) ⟨_, _, _, rfl⟩ (fun ε h => ?_) (fun i d ε hd h => ?_)
    · obtain ⟨a, b, c, rfl⟩ := h
      rw [List.length_map, List.take_length]
      walk_at "r"
      exact ⟨⟨_, rows_set, by rw [List.length_map]; exact hm, rfl⟩, rfl⟩
    · obtain ⟨a, b, c, rfl⟩ := h
      rw [List.getElem?_map] at hd
      cases hq : (momL l)[i]? with
      | none => rw [hq] at hd; cases hd
      | some m =>
        rw [hq] at hd
        cases hd
        have hh := mem_mom.mp (List.mem_of_getElem? hq)
        have hi := lt_of_get hq
        obtain ⟨lo, h1⟩ := low_some (at_ne hh)
        obtain ⟨hi', h2⟩ := top_some (at_ne hh)
        have hst := (stat_at h1 h2).is
        walk_at "r"
        refine lc_fm e3 (fun p => decide (p.1 = m)) e3 (by omega) (fun p _ => ?_) ?_
        · walk_at "r"
          refine ⟨rfl, ?_⟩
          refine i_d (fun z => ?_) fun z => ?_
          · walk_at "r"
            exact ⟨rfl, rfl⟩
          · rfl
        walk_at "r"
        refine lc_map e3 (fun p => .int p.2.1) (Nat.le_trans (List.length_filter_le _ _) hl) (fun p => ?_) ?_
        · walk_at "r"
          exact ⟨rfl, rfl⟩
        rw [show (atM l m).map (fun p => PyData.int p.2.1) = ((atM l m).map (·.2.1)).map .int by rw [List.map_map]; rfl]
        walk_at "r"
        refine n_low h1 ?_
        walk_at "r"
        refine n_top h2 ?_
        walk_at "r"
        refine lc_map e3 (fun p => .int p.2.2) (Nat.le_trans (List.length_filter_le _ _) hl) (fun p => ?_) ?_
        · walk_at "r"
          exact ⟨rfl, rfl⟩
        rw [show (atM l m).map (fun p => PyData.int p.2.2) = ((atM l m).map (·.2.2)).map .int by rw [List.map_map]; rfl]
        walk_at "r"
        refine n_sum ?_
        walk_at "r"
        refine ⟨_, _, rfl, allDat_map _, ?_, ?_⟩
        · rw [List.length_map, List.length_map, List.length_take]; show _ ≤ 10000000; omega
        walk_at "r"
        have e1 : (((momL l).take (i + 1)).map (rowOf l)).map e4 = (((momL l).take i).map (rowOf l)).map e4 ++ [.tuple [.int m, .int lo, .int hi', .int ((atM l m).map (·.2.2)).sum]] := by
          rw [List.take_add_one, hq]
          simp only [Option.toList, List.map_append, List.map_cons, List.map_nil]
          rw [show rowOf l m = (m, lo, hi', sm l m) by unfold rowOf; rw [hst]; rfl]
          rfl
        rw [e1]
        exact ⟨_, _, _, rfl⟩
end K10
namespace K10
open PySem M K36
local macro_rules | `(tactic| walk_at "s") => `(tactic| (first | with_reducible refine w_op2 rfl rfl ?_ | (with_reducible show W2 (mVar _ _) _; first | refine w_varD rfl ?_ | refine w_varL rfl ?_ | refine w_varT rfl ?_ | refine w_varM rfl ?_ | refine w_varK rfl ?_ | refine w_varN rfl ?_ | refine w_varNK rfl ?_) | (with_reducible show W2 (mLockE _ _ _) _; refine w_lock rfl ?_) | (with_reducible show W2 (mLockS _ _ _) _; refine w_lockS rfl ?_) | (with_reducible show W2 (mLcO _ _ _ _ _ _) _; first | refine w_lcO rfl rfl ?_ | refine w_lcO rfl (allDat_map _) ?_) | with_reducible refine w_seq ?_ | with_reducible refine w_set ?_ | with_reducible refine w_op ?_ | with_reducible refine w_c ?_ | with_reducible refine w_test ?_ | with_reducible refine w_bool ?_ | with_reducible refine w_ifS ?_ | with_reducible refine w_ret ?_ | with_reducible refine w_drop ?_ | with_reducible refine w_asg ?_ | with_reducible refine w_call ?_ | with_reducible refine w_cons ?_ | with_reducible refine w_nil ?_ | with_reducible refine w_tup ?_ | with_reducible refine w_lst ?_ | with_reducible refine w_cb ?_ | with_reducible refine w_isi ?_ | with_reducible refine w_un ?_ | with_reducible refine w_and ?_ | with_reducible refine w_or ?_ | with_reducible refine w_not ?_ | with_reducible refine w_yes ?_ | with_reducible refine w_andV ?_ | with_reducible refine w_orV ?_ | with_reducible refine w_notV ?_ | with_reducible refine w_if ?_ | with_reducible refine w_chain ?_ | with_reducible refine w_sl ?_ | with_reducible refine w_part ?_ | with_reducible refine w_noPart ?_ | with_reducible refine w_put ?_ | with_reducible refine w_app ?_ | with_reducible refine w_ext ?_ | with_reducible refine w_aug ?_ | with_reducible refine w_next ?_ | with_reducible refine w_cont ?_ | with_reducible refine w_brk ?_ | with_reducible refine w_retN ?_ | with_reducible refine w_for ?_ | with_reducible refine w_rng1 ?_ | with_reducible refine w_rng2 ?_ | with_reducible refine w_lrg1 ?_ | with_reducible refine w_lrg2 ?_ | with_reducible refine w_iL ?_ | with_reducible refine w_iT ?_ | with_reducible refine w_lc ?_ | with_reducible refine w_enum ?_ | with_reducible refine w_dnew ?_ | with_reducible refine w_dget2 ?_ | with_reducible refine w_dix ?_ | with_reducible refine w_dput ?_ | with_reducible refine w_sortK ?_ | with_reducible refine w_tru ?_ | with_reducible refine w_orT ?_ | with_reducible refine w_walkD ?_ | with_reducible refine w_ins ?_ | with_reducible refine w_del ?_ | with_reducible refine w_tupO ?_ | with_reducible refine w_appM ?_ | with_reducible refine w_popAt ?_ | with_reducible refine w_ofB ?_ | with_reducible refine w_isiB ?_ | with_reducible refine w_slB ?_ | with_reducible refine w_appU ?_ | with_reducible refine w_putU ?_ | with_reducible refine w_nnew ?_ | with_reducible refine w_none ?_ | with_reducible refine w_nix ?_ | with_reducible refine w_nin ?_ | with_reducible refine w_nget1 ?_ | with_reducible refine w_nget2 ?_ | with_reducible refine w_nput ?_ | with_reducible refine w_zip ?_ | with_reducible refine w_rem ?_ | with_reducible refine w_naug ?_ | with_reducible refine w_walkN ?_ | with_reducible refine w_lc2 ?_ | (with_reducible refine sk_nx ?_; try dsimp only [List.set_cons_zero, List.set_cons_succ, inAll, List.getElem?_cons_zero, List.getElem?_cons_succ, wipeE, restE]) | with_reducible refine sk_ret ?_ | with_reducible refine sk_ct ?_ | with_reducible refine sk_bk ?_ | with_reducible refine fk_nx ?_ | with_reducible refine fk_ret ?_ | with_reducible refine fk_ct ?_ | with_reducible refine fk_bk ?_ | with_reducible refine dk_ret ?_ | with_reducible refine dk_nx ?_ | with_reducible refine i_t ?_ | with_reducible refine i_f ?_ | with_reducible refine i_nF ?_ | with_reducible refine i_nT ?_ | with_reducible refine f_val ?_ | with_reducible refine fa_cons ?_ | with_reducible refine fa_nil ?_ | with_reducible refine t_val ?_ | with_reducible refine o_val ?_ | with_reducible refine oa_val ?_ | with_reducible refine oa_nil ?_ | with_reducible refine ga_val ?_ | with_reducible refine ga_nil ?_ | with_reducible refine g_n ?_ | with_reducible refine g_sc ?_ | with_reducible refine g_sn ?_ | with_reducible refine lc_nil ?_ | with_reducible refine lc_cons ?_ | (with_reducible show W2 (outAll (Rs.slot _ :: _) _) _; refine oa_slot rfl ?_) | (with_reducible show W2 (outR (Rs.slot _) _) _; refine o_slot rfl ?_) | (with_reducible show W1 (getAll (Rs.slot _ :: _) _) _; refine ga_slot rfl ?_) | (with_reducible show W2 (frzR (Rs.slot _) _) _; first | refine f_slot rfl rfl ?_ | refine f_slot rfl (allDat_map _) ?_) | (with_reducible show W2 (takR (Rs.slot _) _) _; first | refine t_slot rfl rfl ?_ | refine t_slot rfl (allDat_map _) ?_) | (with_reducible show W2 (frzR (Rs.val (O.lst _)) _) _; first | refine f_lst rfl ?_ | refine f_lst (allDat_map _) ?_) | (with_reducible show W1 (gT _ _ _ _) _; refine g_t rfl ?_) | with_reducible refine W1.eq (isi_int _) ?_ | with_reducible refine W1.eq (isi_bool _) ?_ | with_reducible refine W1.eq (isi_str _) ?_ | with_reducible refine W1.eq (isi_tuple _) ?_ | with_reducible refine W1.eq (isi_list _) ?_ | with_reducible refine n_mod (by first | assumption | decide | omega) ?_ | with_reducible refine n_div (by first | assumption | decide | omega) (by first | assumption | decide) ?_ | with_reducible refine n_mulS (by first | assumption | decide | omega) (by first | assumption | decide | omega) ?_ | with_reducible refine n_mul (by decide) ?_ | with_reducible refine W1.eq pw_5 ?_ | with_reducible refine W1.eq pw_6 ?_ | with_reducible refine W1.eq pw_8 ?_ | with_reducible refine W1.eq pw_9 ?_ | with_reducible refine W1.eq pw_19 ?_ | with_reducible refine n_pow (by decide) ?_ | (with_reducible show W1 (pIn (O.dat _) (O.lst _)) _; refine n_inL rfl (by first | assumption | decide +kernel) (by first | assumption | decide +kernel) ?_) | (with_reducible show W1 (pNotIn (O.dat _) (O.lst _)) _; refine n_notInL rfl (by first | assumption | decide +kernel) (by first | assumption | decide +kernel) ?_) | (with_reducible show W1 (pIn (O.dat _) (O.dat (PyData.tuple _))) _; refine n_inT (by first | assumption | with_unfolding_all rfl) (by first | assumption | with_unfolding_all rfl) ?_) | with_reducible refine n_addT (by first | assumption | decide | (show _ ≤ 10000000; simp only [Z.cutD, List.length_append, List.length_cons, List.length_nil, List.length_take, List.length_drop, List.length_reverse]; omega)) ?_ | with_reducible refine n_ixTM (by first | assumption | omega) (by first | assumption | omega) (fun d hd => ?_) | (with_reducible show W1 (one pTuple [O.lst _]) _; first | refine n_tupleL rfl ?_ | refine n_tupleL asL_map ?_) | (with_reducible show W1 (one pLen [O.lst _]) _; first | refine n_lenL rfl ?_ | refine n_lenL asL_map ?_) | (with_reducible show W1 (one pList [O.lst _]) _; first | refine n_listL rfl ?_ | refine n_listL asL_map ?_) | (with_reducible show W1 (pNe (O.dat _) (O.dat _)) _; refine n_neRefl (by first | assumption | with_unfolding_all rfl) ?_) | with_reducible refine n_eqI ?_ | with_reducible refine n_neI ?_ | (with_reducible show W1 _ _; refine W1.eq rfl ?_) | (with_reducible show ite _ _ _; first | refine i_T rfl ?_ | refine i_F rfl ?_) | (with_reducible show Exists _; first | refine ⟨_, rfl, ?_⟩ | refine ⟨_, Or.inr rfl, ?_⟩ | refine ⟨_, Or.inl rfl, ?_⟩ | refine ⟨_, _, rfl, rfl, ?_⟩ | refine ⟨_, _, _, rfl, rfl, rfl, ?_⟩) | (with_reducible show And (_ ≤ lim) _; refine ⟨Nat.le_of_ble_eq_true rfl, ?_⟩)))
local macro_rules | `(tactic| walk_at "r") => `(tactic| repeat walk_at "s")
/-! ### the price called, told by the law -/
/-- the best of those met -/
def bestOf (l : List T3) (t : Int) (qs : List T3) : Int × Int := qs.foldl (fun a p => if p.1 = t then (if lt2 a (cnt l t p.2.1, p.2.1) then (cnt l t p.2.1, p.2.1) else a) else a) (0, 0)
theorem best_snoc {l : List T3} {t : Int} {qs : List T3} {p : T3} : bestOf l t (qs ++ [p]) = if p.1 = t then (if lt2 (bestOf l t qs) (cnt l t p.2.1, p.2.1) then (cnt l t p.2.1, p.2.1) else bestOf l t qs) else bestOf l t qs := by
  unfold bestOf; rw [List.foldl_append]; rfl
theorem lt2_trans {a b c : Int × Int} (h : ¬ lt2 b a) (k : lt2 b c) : lt2 a c := by
  unfold lt2 at *; omega
theorem snocRec {α : Type} {P : List α → Prop} (h0 : P []) (h1 : ∀ xs x, P xs → P (xs ++ [x])) (l : List α) : P l := by
  have key : ∀ ys : List α, P ys.reverse := by
    intro ys
    induction ys with
    | nil => exact h0
    | cons y ys ih => rw [List.reverse_cons]; exact h1 _ _ ih
  have := key l.reverse
  rwa [List.reverse_reverse] at this
theorem best_is {l : List T3} {t : Int} : ∀ {qs : List T3}, (∀ p ∈ qs, p ∈ l) → (bestOf l t qs = (0, 0) ∨ ∃ x, HasP qs t x ∧ bestOf l t qs = (cnt l t x, x)) ∧ ∀ y, HasP qs t y → ¬ lt2 (bestOf l t qs) (cnt l t y, y) := by
  intro qs
  refine snocRec (P := fun qs => (∀ p ∈ qs, p ∈ l) → (bestOf l t qs = (0, 0) ∨ ∃ x, HasP qs t x ∧ bestOf l t qs = (cnt l t x, x)) ∧ ∀ y, HasP qs t y → ¬ lt2 (bestOf l t qs) (cnt l t y, y)) ?_ ?_ qs
  · exact fun _ => ⟨.inl rfl, fun y ⟨p, hp, _⟩ => by cases hp⟩
  · intro qs p ih hm
    obtain ⟨h1, h2⟩ := ih fun q hq => hm q (by simp [hq])
    rw [best_snoc]
    have up : ∀ {x}, HasP qs t x → HasP (qs ++ [p]) t x := fun ⟨q, hq, e⟩ => ⟨q, by simp [hq], e⟩
    by_cases z : p.1 = t
    · rw [if_pos z]
      by_cases w : lt2 (bestOf l t qs) (cnt l t p.2.1, p.2.1)
      · rw [if_pos w]
        refine ⟨.inr ⟨p.2.1, ⟨p, by simp, z, rfl⟩, rfl⟩, fun y hy => ?_⟩
        obtain ⟨q, hq, e1, e2⟩ := hy
        rcases List.mem_append.mp hq with v | v
        · intro lt
          exact h2 y ⟨q, v, e1, e2⟩ (by unfold lt2 at *; omega)
        · simp at v; subst v; subst e2
          unfold lt2; omega
      · rw [if_neg w]
        refine ⟨h1.imp id fun ⟨x, hx, e⟩ => ⟨x, up hx, e⟩, fun y hy => ?_⟩
        obtain ⟨q, hq, e1, e2⟩ := hy
        rcases List.mem_append.mp hq with v | v
        · exact h2 y ⟨q, v, e1, e2⟩
        · simp at v; subst v; subst e2; exact w
    · rw [if_neg z]
      refine ⟨h1.imp id fun ⟨x, hx, e⟩ => ⟨x, up hx, e⟩, fun y hy => ?_⟩
      obtain ⟨q, hq, e1, e2⟩ := hy
      rcases List.mem_append.mp hq with v | v
      · exact h2 y ⟨q, v, e1, e2⟩
      · simp at v; subst v; exact absurd e1 z
theorem cnt_pos {l : List T3} {t x : Int} (hok : ∀ p ∈ l, 0 < p.2.2) (h : HasP l t x) : 0 < cnt l t x := by
  obtain ⟨p, hp, e1, e2⟩ := h
  unfold cnt
  have key : ∀ (qs : List T3), (∀ q ∈ qs, 0 < q.2.2) → p ∈ qs → 0 < (qs.map (·.2.2)).sum := by
    intro qs
    induction qs with
    | nil => intro _ h; cases h
    | cons q qs ih =>
      intro hq hp
      have nn : ∀ (rs : List T3), (∀ r ∈ rs, 0 < r.2.2) → 0 ≤ (rs.map (·.2.2)).sum := by
        intro rs
        induction rs with
        | nil => intro _; simp
        | cons r rs ih => intro h; have := h r (by simp); have := ih fun x hx => h x (by simp [hx]); simp only [List.map_cons, List.sum_cons]; omega
      have a := hq q (by simp)
      have b := nn qs fun x hx => hq x (by simp [hx])
      simp only [List.map_cons, List.sum_cons]
      omega
  exact key _ (fun q hq => hok q (List.mem_filter.mp hq).1) (List.mem_filter.mpr ⟨hp, by simp [e1, e2]⟩)
theorem best_called {l : List T3} {t : Int} (hok : ∀ p ∈ l, 0 < p.2.2) (ht : topI (l.map (·.1)) = some t) : Called l (bestOf l t l).2 := by
  obtain ⟨h1, h2⟩ := best_is (l := l) (t := t) (qs := l) fun p hp => hp
  obtain ⟨a, _⟩ := top_is ht
  obtain ⟨p, hp, e⟩ := List.mem_map.mp a
  have hP : HasP l t p.2.1 := ⟨p, hp, e, rfl⟩
  rcases h1 with z | ⟨x, hx, e⟩
  · have := h2 _ hP
    rw [z] at this
    have := cnt_pos hok hP
    unfold lt2 at *
    simp only at *
    omega
  · rw [e]
    rw [e] at h2
    exact ⟨t, ht, hx, h2⟩
theorem n_eqE {a b : O} {ds : List D} {Q : O → Prop} (ha : Arr a ds) (hb : Arr b []) (hg : ∀ e ∈ ds, Good e) (q : Q (.dat (.bool (decide (ds = []))))) : W1 (pEq a b) Q := by
  refine ⟨_, ?_, q⟩
  have h3 : SeqAt.shaped (.list []) = true := by with_unfolding_all rfl
  simp only [pEq, shp, ha.er, hb.er, shapedL hg, h3, Bool.true_and, if_true]
  cases ds <;> simp [PyData.eqv, PyData.eqvAll]
theorem good_l {l : List T3} : ∀ e ∈ l.map e3, Good e := fun e he => by
  obtain ⟨p, _, rfl⟩ := List.mem_map.mp he
  exact good_e3 p
theorem lcalled_ok {o : O} {l : List T3} {f : Int} (ho : o = .dat (.list (l.map e3))) (hl : l.length ≤ 1000) (hok : ∀ p ∈ l, 0 < p.2.2) :
    W2 (f_z_called [o, .dat (.int f)]) fun r os => (∃ x, (if l = [] then x = f else Called l x) ∧ r = .dat (.int x)) ∧ os = [some (.dat (.list (l.map e3))), some (.dat (.int f))] := by
  refine d_z_called ?_
  by_cases hz : l = []
  · subst hz
    subst ho
    all_goals
      walk_at "r"
      exact ⟨⟨f, by rw [if_pos rfl], rfl⟩, rfl⟩
  · obtain ⟨t, ht⟩ := top_some (xs := l.map (·.1)) (by simpa using hz)
    subst ho
    all_goals
      walk_at "r"
      refine n_eqE (ds := l.map e3) (by first | exact .inl rfl | exact .inr rfl) (.inl rfl) good_l ?_
      rw [show decide (l.map e3 = []) = false by simpa using hz]
      walk_at "r"
      refine lc_map e3 (fun p => .int p.1) hl (fun p => ?_) ?_
      · walk_at "r"
        exact ⟨rfl, rfl⟩
      rw [show l.map (fun p => PyData.int p.1) = (l.map (·.1)).map .int by rw [List.map_map]; rfl]
      walk_at "r"
      refine n_top ht ?_
      walk_at "r"
      refine w_forI (fun i ε => ∃ a b, ε = [some (.dat (.list (l.map e3))), some (.dat (.int f)), some (.dat (.int t)), some (.dat (e2 (bestOf l t (l.take i)))), a, b, none]) ⟨_, _, rfl⟩ (fun ε h => ?_) (fun i d ε hd h => ?_)
      · obtain ⟨a, b, rfl⟩ := h
        rw [List.length_map, List.take_length]
        walk_at "r"
        exact ⟨⟨_, by rw [if_neg hz]; exact best_called hok ht, rfl⟩, rfl⟩
      · obtain ⟨a, b, rfl⟩ := h
        obtain ⟨p, hp, rfl⟩ := get_e3 hd
        have hi := lt_of_get hp
        walk_at "r"
        refine i_d (fun z => ?_) fun z => ?_
        · walk_at "r"
          refine lc_fm e3 (fun q => decide (q.1 = t) && decide (q.2.1 = p.2.1)) (fun q => .int q.2.2) (by omega) (fun q _ => ?_) ?_
          · walk_at "r"
            by_cases z1 : q.1 = t
            · rw [show decide (q.1 = t) = true from decide_eq_true z1]
              walk_at "r"
              refine ⟨rfl, ?_⟩
              refine i_d (fun z2 => ?_) fun z2 => ?_
              · walk_at "r"
                exact ⟨rfl, rfl⟩
              · rfl
            · rw [show decide (q.1 = t) = false from decide_eq_false z1]
              walk_at "r"
              exact ⟨rfl, rfl⟩
          rw [show ∀ xs : List T3, xs.map (fun q => PyData.int q.2.2) = (xs.map (·.2.2)).map .int from fun xs => by rw [List.map_map]; rfl]
          walk_at "r"
          refine n_sum ?_
          walk_at "r"
          rw [take_snoc hp, best_snoc, if_pos z]
          have e1 := max_two (ps := [(cnt l t p.2.1, p.2.1)]) (p := bestOf l t (l.take i))
          rw [show e2 (if lt2 (bestOf l t (l.take i)) (cnt l t p.2.1, p.2.1) then (cnt l t p.2.1, p.2.1) else bestOf l t (l.take i)) = PySem.W.maxD (e2 (bestOf l t (l.take i))) [.tuple [.int (cnt l t p.2.1), .int p.2.1]] from e1.symm]
          exact ⟨_, _, rfl⟩
        · walk_at "r"
          rw [take_snoc hp, best_snoc, if_neg z]
          exact ⟨_, _, rfl⟩
end K10
namespace K10
open PySem M K36
local macro_rules | `(tactic| walk_at "s") => `(tactic| (first | with_reducible refine w_op2 rfl rfl ?_ | (with_reducible show W2 (mVar _ _) _; first | refine w_varD rfl ?_ | refine w_varL rfl ?_ | refine w_varT rfl ?_ | refine w_varM rfl ?_ | refine w_varK rfl ?_ | refine w_varN rfl ?_ | refine w_varNK rfl ?_) | (with_reducible show W2 (mLockE _ _ _) _; refine w_lock rfl ?_) | (with_reducible show W2 (mLockS _ _ _) _; refine w_lockS rfl ?_) | (with_reducible show W2 (mLcO _ _ _ _ _ _) _; first | refine w_lcO rfl rfl ?_ | refine w_lcO rfl (allDat_map _) ?_) | with_reducible refine w_seq ?_ | with_reducible refine w_set ?_ | with_reducible refine w_op ?_ | with_reducible refine w_c ?_ | with_reducible refine w_test ?_ | with_reducible refine w_bool ?_ | with_reducible refine w_ifS ?_ | with_reducible refine w_ret ?_ | with_reducible refine w_drop ?_ | with_reducible refine w_asg ?_ | with_reducible refine w_call ?_ | with_reducible refine w_cons ?_ | with_reducible refine w_nil ?_ | with_reducible refine w_tup ?_ | with_reducible refine w_lst ?_ | with_reducible refine w_cb ?_ | with_reducible refine w_isi ?_ | with_reducible refine w_un ?_ | with_reducible refine w_and ?_ | with_reducible refine w_or ?_ | with_reducible refine w_not ?_ | with_reducible refine w_yes ?_ | with_reducible refine w_andV ?_ | with_reducible refine w_orV ?_ | with_reducible refine w_notV ?_ | with_reducible refine w_if ?_ | with_reducible refine w_chain ?_ | with_reducible refine w_sl ?_ | with_reducible refine w_part ?_ | with_reducible refine w_noPart ?_ | with_reducible refine w_put ?_ | with_reducible refine w_app ?_ | with_reducible refine w_ext ?_ | with_reducible refine w_aug ?_ | with_reducible refine w_next ?_ | with_reducible refine w_cont ?_ | with_reducible refine w_brk ?_ | with_reducible refine w_retN ?_ | with_reducible refine w_for ?_ | with_reducible refine w_rng1 ?_ | with_reducible refine w_rng2 ?_ | with_reducible refine w_lrg1 ?_ | with_reducible refine w_lrg2 ?_ | with_reducible refine w_iL ?_ | with_reducible refine w_iT ?_ | with_reducible refine w_lc ?_ | with_reducible refine w_enum ?_ | with_reducible refine w_dnew ?_ | with_reducible refine w_dget2 ?_ | with_reducible refine w_dix ?_ | with_reducible refine w_dput ?_ | with_reducible refine w_sortK ?_ | with_reducible refine w_tru ?_ | with_reducible refine w_orT ?_ | with_reducible refine w_walkD ?_ | with_reducible refine w_ins ?_ | with_reducible refine w_del ?_ | with_reducible refine w_tupO ?_ | with_reducible refine w_appM ?_ | with_reducible refine w_popAt ?_ | with_reducible refine w_ofB ?_ | with_reducible refine w_isiB ?_ | with_reducible refine w_slB ?_ | with_reducible refine w_appU ?_ | with_reducible refine w_putU ?_ | with_reducible refine w_nnew ?_ | with_reducible refine w_none ?_ | with_reducible refine w_nix ?_ | with_reducible refine w_nin ?_ | with_reducible refine w_nget1 ?_ | with_reducible refine w_nget2 ?_ | with_reducible refine w_nput ?_ | with_reducible refine w_zip ?_ | with_reducible refine w_rem ?_ | with_reducible refine w_naug ?_ | with_reducible refine w_walkN ?_ | with_reducible refine w_lc2 ?_ | (with_reducible refine sk_nx ?_; try dsimp only [List.set_cons_zero, List.set_cons_succ, inAll, List.getElem?_cons_zero, List.getElem?_cons_succ, wipeE, restE]) | with_reducible refine sk_ret ?_ | with_reducible refine sk_ct ?_ | with_reducible refine sk_bk ?_ | with_reducible refine fk_nx ?_ | with_reducible refine fk_ret ?_ | with_reducible refine fk_ct ?_ | with_reducible refine fk_bk ?_ | with_reducible refine dk_ret ?_ | with_reducible refine dk_nx ?_ | with_reducible refine i_t ?_ | with_reducible refine i_f ?_ | with_reducible refine i_nF ?_ | with_reducible refine i_nT ?_ | with_reducible refine f_val ?_ | with_reducible refine fa_cons ?_ | with_reducible refine fa_nil ?_ | with_reducible refine t_val ?_ | with_reducible refine o_val ?_ | with_reducible refine oa_val ?_ | with_reducible refine oa_nil ?_ | with_reducible refine ga_val ?_ | with_reducible refine ga_nil ?_ | with_reducible refine g_n ?_ | with_reducible refine g_sc ?_ | with_reducible refine g_sn ?_ | with_reducible refine lc_nil ?_ | with_reducible refine lc_cons ?_ | (with_reducible show W2 (outAll (Rs.slot _ :: _) _) _; refine oa_slot rfl ?_) | (with_reducible show W2 (outR (Rs.slot _) _) _; refine o_slot rfl ?_) | (with_reducible show W1 (getAll (Rs.slot _ :: _) _) _; refine ga_slot rfl ?_) | (with_reducible show W2 (frzR (Rs.slot _) _) _; first | refine f_slot rfl rfl ?_ | refine f_slot rfl (allDat_map _) ?_) | (with_reducible show W2 (takR (Rs.slot _) _) _; first | refine t_slot rfl rfl ?_ | refine t_slot rfl (allDat_map _) ?_) | (with_reducible show W2 (frzR (Rs.val (O.lst _)) _) _; first | refine f_lst rfl ?_ | refine f_lst (allDat_map _) ?_) | (with_reducible show W1 (gT _ _ _ _) _; refine g_t rfl ?_) | with_reducible refine W1.eq (isi_int _) ?_ | with_reducible refine W1.eq (isi_bool _) ?_ | with_reducible refine W1.eq (isi_str _) ?_ | with_reducible refine W1.eq (isi_tuple _) ?_ | with_reducible refine W1.eq (isi_list _) ?_ | with_reducible refine n_mod (by first | assumption | decide | omega) ?_ | with_reducible refine n_div (by first | assumption | decide | omega) (by first | assumption | decide) ?_ | with_reducible refine n_mulS (by first | assumption | decide | omega) (by first | assumption | decide | omega) ?_ | with_reducible refine n_mul (by decide) ?_ | with_reducible refine W1.eq pw_5 ?_ | with_reducible refine W1.eq pw_6 ?_ | with_reducible refine W1.eq pw_8 ?_ | with_reducible refine W1.eq pw_9 ?_ | with_reducible refine W1.eq pw_19 ?_ | with_reducible refine n_pow (by decide) ?_ | (with_reducible show W1 (pIn (O.dat _) (O.lst _)) _; refine n_inL rfl (by first | assumption | decide +kernel) (by first | assumption | decide +kernel) ?_) | (with_reducible show W1 (pNotIn (O.dat _) (O.lst _)) _; refine n_notInL rfl (by first | assumption | decide +kernel) (by first | assumption | decide +kernel) ?_) | (with_reducible show W1 (pIn (O.dat _) (O.dat (PyData.tuple _))) _; refine n_inT (by first | assumption | with_unfolding_all rfl) (by first | assumption | with_unfolding_all rfl) ?_) | with_reducible refine n_addT (by first | assumption | decide | (show _ ≤ 10000000; simp only [Z.cutD, List.length_append, List.length_cons, List.length_nil, List.length_take, List.length_drop, List.length_reverse]; omega)) ?_ | with_reducible refine n_ixTM (by first | assumption | omega) (by first | assumption | omega) (fun d hd => ?_) | (with_reducible show W1 (one pTuple [O.lst _]) _; first | refine n_tupleL rfl ?_ | refine n_tupleL asL_map ?_) | (with_reducible show W1 (one pLen [O.lst _]) _; first | refine n_lenL rfl ?_ | refine n_lenL asL_map ?_) | (with_reducible show W1 (one pList [O.lst _]) _; first | refine n_listL rfl ?_ | refine n_listL asL_map ?_) | (with_reducible show W1 (pNe (O.dat _) (O.dat _)) _; refine n_neRefl (by first | assumption | with_unfolding_all rfl) ?_) | with_reducible refine n_eqI ?_ | with_reducible refine n_neI ?_ | (with_reducible show W1 _ _; refine W1.eq rfl ?_) | (with_reducible show ite _ _ _; first | refine i_T rfl ?_ | refine i_F rfl ?_) | (with_reducible show Exists _; first | refine ⟨_, rfl, ?_⟩ | refine ⟨_, Or.inr rfl, ?_⟩ | refine ⟨_, Or.inl rfl, ?_⟩ | refine ⟨_, _, rfl, rfl, ?_⟩ | refine ⟨_, _, _, rfl, rfl, rfl, ?_⟩) | (with_reducible show And (_ ≤ lim) _; refine ⟨Nat.le_of_ble_eq_true rfl, ?_⟩)))
local macro_rules | `(tactic| walk_at "r") => `(tactic| repeat walk_at "s")
/-! ### lates, told by the law -/
theorem last_is {l : List T3} : (∀ q ∈ l, q.1 ≤ lastM l) ∧ 0 ≤ lastM l ∧ (lastM l = 0 ∨ ∃ q ∈ l, q.1 = lastM l) := by
  refine snocRec (P := fun l : List T3 => (∀ q ∈ l, q.1 ≤ lastM l) ∧ 0 ≤ lastM l ∧ (lastM l = 0 ∨ ∃ q ∈ l, q.1 = lastM l)) ?_ ?_ l
  · exact ⟨(fun q hq => by cases hq), Int.le_refl _, .inl rfl⟩
  · rintro l p ⟨h1, h0, h2⟩
    rw [lastM_snoc]
    by_cases z : p.1 < lastM l
    · rw [if_pos z]
      refine ⟨fun q hq => ?_, h0, h2.imp id fun ⟨q, hq, e⟩ => ⟨q, by simp [hq], e⟩⟩
      rcases List.mem_append.mp hq with w | w
      · exact h1 q w
      · simp at w; subst w; omega
    · rw [if_neg z]
      refine ⟨fun q hq => ?_, by omega, .inr ⟨p, by simp, rfl⟩⟩
      rcases List.mem_append.mp hq with w | w
      · have := h1 q w; omega
      · simp at w; subst w; omega
theorem late_iff {l : List T3} {p : T3} (h0 : 0 ≤ p.1) : (l.filter fun q => decide (q.1 > p.1)) = [] ↔ ¬ p.1 < lastM l := by
  obtain ⟨h1, h2, h3⟩ := last_is (l := l)
  rw [List.filter_eq_nil_iff]
  constructor
  · intro h z
    rcases h3 with w | ⟨q, hq, e⟩
    · omega
    · exact h q hq (by simp; omega)
  · intro z q hq
    have := h1 q hq
    simp; omega
theorem llates_ok {l : List T3} (hl : l.length ≤ 1000) (hok : ∀ p ∈ l, 0 ≤ p.1) : W2 (f_z_lates [.dat (.list (l.map e3))]) fun r os => r = .lst (((latesF 0 0 l).map .int).map .dat) ∧ os = [some (.dat (.list (l.map e3)))] := by
  refine d_z_lates ?_
  walk_at "r"
  rw [List.length_map]
  refine ⟨by omega, by omega, ?_⟩
  refine w_forI (fun i ε => ∃ a, ε = [some (.dat (.list (l.map e3))), some (.lst (((latesF 0 0 (l.take i)).map .int).map .dat)), a, none]) ⟨_, rfl⟩ (fun ε h => ?_) (fun i d ε hd h => ?_)
  · obtain ⟨a, rfl⟩ := h
    rw [show (intsD 0 ((l.length : Int)).toNat).length = l.length by simp [intsD], List.take_length]
    walk_at "r"
    exact ⟨rfl, rfl⟩
  · obtain ⟨a, rfl⟩ := h
    obtain ⟨rfl, hi⟩ := ints_get hd
    have hi2 : i < l.length := by simpa using hi
    obtain ⟨p, hp⟩ : ∃ p, l[i]? = some p := ⟨_, List.getElem?_eq_getElem hi2⟩
    have ht : (l.take i).length = i := by rw [List.length_take]; omega
    have h0 := hok p (List.mem_of_getElem? hp)
    have hat : L2.atI (l.map e3) ((i : Nat) : Int) = some (e3 p) := at_nat (by rw [List.getElem?_map, hp]; rfl)
    walk_at "r"
    rw [cut_to, ← List.map_take]
    refine lc_fm e3 (fun q => decide (q.1 > p.1)) e3 (by omega) (fun q _ => ?_) ?_
    · walk_at "r"
      refine n_ixA (.inr rfl) hat ?_
      walk_at "r"
      refine ⟨rfl, ?_⟩
      refine i_d (fun z => ?_) fun z => ?_
      · walk_at "r"
        exact ⟨rfl, rfl⟩
      · rfl
    walk_at "r"
    refine W1.eq (ne_nilL (es := ((l.take i).filter fun q => decide (q.1 > p.1)).map e3) good_l) ?_
    walk_at "r"
    have key := late_iff (l := l.take i) h0
    refine i_nd (fun z => ?_) fun z => ?_
    · have z2 : p.1 < lastM (l.take i) := Decidable.not_not.mp fun w => z (by rw [key.mpr w]; rfl)
      walk_at "r"
      refine ⟨_, _, rfl, allDat_map _, ?_, ?_⟩
      · have := lates_len (l := l.take i) (t := 0) (i := 0)
        rw [List.length_map]; show _ ≤ 10000000; omega
      walk_at "r"
      rw [take_snoc hp, lates_up, if_pos z2, ht]
      rw [show (latesF 0 0 (l.take i) ++ [(i : Int)]).map PyData.int = (latesF 0 0 (l.take i)).map .int ++ [.int (i : Int)] by rw [List.map_append]; rfl]
      exact ⟨_, rfl⟩
    · have z2 := key.mp (List.map_eq_nil_iff.mp z)
      walk_at "r"
      rw [take_snoc hp, lates_up, if_neg z2, List.append_nil]
      exact ⟨_, rfl⟩
/-! ### the board, told by the law -/
theorem head_low {l : List T3} {rs : List R4} {a : R4} {m : Int} (h : IsRows l rs) (ha : rs.head? = some a) (hm : lowI (l.map (·.1)) = some m) : m = a.1 := by
  obtain ⟨h1, h2⟩ := low_is hm
  cases rs with
  | nil => cases ha
  | cons r rs =>
    cases ha
    have hp := List.pairwise_cons.mp h.up
    obtain ⟨p, hp1, e⟩ := List.mem_map.mp h1
    have g := (h.mem m).mpr ⟨p, hp1, e⟩
    obtain ⟨q, hq, e2⟩ := (h.mem a.1).mp (by simp)
    have g2 := h2 a.1 (List.mem_map.mpr ⟨q, hq, e2⟩)
    rcases List.mem_cons.mp g with z | z
    · exact z
    · have : a.1 < m := hp.1 m z
      omega
theorem last_top {l : List T3} {rs : List R4} {b : R4} {m : Int} (h : IsRows l rs) (hb : rs.getLast? = some b) (hm : topI (l.map (·.1)) = some m) : m = b.1 := by
  obtain ⟨h1, h2⟩ := top_is hm
  obtain ⟨xs, rfl⟩ := List.getLast?_eq_some_iff.mp hb
  have hp := h.up
  rw [List.map_append, List.pairwise_append] at hp
  obtain ⟨p, hp1, e⟩ := List.mem_map.mp h1
  have g := (h.mem m).mpr ⟨p, hp1, e⟩
  obtain ⟨q, hq, e2⟩ := (h.mem b.1).mp (by simp)
  have g2 := h2 b.1 (List.mem_map.mpr ⟨q, hq, e2⟩)
  rw [List.map_append] at g
  rcases List.mem_append.mp g with z | z
  · have : m < b.1 := hp.2.2 m z b.1 (by simp)
    omega
  · simpa using z
theorem row_ends {l : List T3} {rs : List R4} {r : R4} (h : IsRows l rs) (hr : r ∈ rs) : lowI ((atM l r.1).map (·.2.1)) = some r.2.1 ∧ topI ((atM l r.1).map (·.2.1)) = some r.2.2.1 := by
  have hh := (h.mem r.1).mp (List.mem_map.mpr ⟨r, hr, rfl⟩)
  obtain ⟨lo, h1⟩ := low_some (at_ne hh)
  obtain ⟨hi, h2⟩ := top_some (at_ne hh)
  have e := (stat_at h1 h2).one (h.st r hr)
  rw [h1, h2, ← e]
  exact ⟨rfl, rfl⟩
theorem lboard_ok {o : O} {l : List T3} {rs : List R4} {a b : R4} {n k : Int} (ho : Arr o (l.map e3)) (hl : l.length ≤ 1000) (hz : l ≠ []) (h : IsRows l rs) (ha : rs.head? = some a) (hb : rs.getLast? = some b) (hn : topI (l.map (·.2.1)) = some n) (hk : lowI (l.map (·.2.1)) = some k) :
    W2 (f_z_board [o]) fun r os => r = .dat (bd a b n k (l.map (·.2.2)).sum) ∧ os = [some (.dat (.list (l.map e3)))] := by
  refine d_z_board ?_
  obtain ⟨m0, hm0⟩ := low_some (xs := l.map (·.1)) (by simpa using hz)
  obtain ⟨m1, hm1⟩ := top_some (xs := l.map (·.1)) (by simpa using hz)
  cases head_low h ha hm0
  cases last_top h hb hm1
  have ma : a ∈ rs := List.mem_of_mem_head? ha
  have mb : b ∈ rs := List.mem_of_getLast? hb
  rcases ho with rfl | rfl
  all_goals
    walk_at "r"
    refine n_eqE (ds := l.map e3) (by first | exact .inl rfl | exact .inr rfl) (.inl rfl) good_l ?_
    rw [show decide (l.map e3 = []) = false by simpa using hz]
    walk_at "r"
    refine lc_map e3 (fun p => .int p.1) hl (fun p => ?_) ?_
    · walk_at "r"
      exact ⟨rfl, rfl⟩
    rw [show l.map (fun p => PyData.int p.1) = (l.map (·.1)).map .int by rw [List.map_map]; rfl]
    walk_at "r"
    refine n_low hm0 ?_
    walk_at "r"
    refine n_top hm1 ?_
    walk_at "r"
    refine w_forI (fun i ε => ∃ v3 v4, ε = [some (.dat (.list (l.map e3))), some (.lst (((l.map (·.1)).map .int).map .dat)), some (.lst ((([a, b].take i).map pairR).map .dat)), v3, v4, none]) ⟨_, _, rfl⟩ (fun ε h => ?_) (fun i d ε hd g => ?_)
    · obtain ⟨v3, v4, rfl⟩ := h
      walk_at "r"
      rw [show [a, b].take [PyData.int a.1, PyData.int b.1].length = [a, b] from rfl]
      refine lc_map e3 (fun p => .int p.2.1) hl (fun p => ?_) ?_
      · walk_at "r"
        exact ⟨rfl, rfl⟩
      rw [show l.map (fun p => PyData.int p.2.1) = (l.map (·.2.1)).map .int by rw [List.map_map]; rfl]
      walk_at "r"
      try (refine n_ixA (d := pairR a) (.inl rfl) rfl ?_; walk_at "r")
      refine n_top hn ?_
      walk_at "r"
      refine n_low hk ?_
      walk_at "r"
      try (refine n_ixA (d := pairR b) (.inl rfl) rfl ?_; walk_at "r")
      refine lc_map e3 (fun p => .int p.2.2) hl (fun p => ?_) ?_
      · walk_at "r"
        exact ⟨rfl, rfl⟩
      rw [show l.map (fun p => PyData.int p.2.2) = (l.map (·.2.2)).map .int by rw [List.map_map]; rfl]
      walk_at "r"
      refine n_sum ?_
      walk_at "r"
      exact ⟨rfl, rfl⟩
    · obtain ⟨v3, v4, rfl⟩ := g
      obtain ⟨r, hr, hr2, rfl⟩ : ∃ r, [a, b][i]? = some r ∧ r ∈ rs ∧ d = .int r.1 := by
        match i, hd with
        | 0, hd => cases hd; exact ⟨a, rfl, ma, rfl⟩
        | 1, hd => cases hd; exact ⟨b, rfl, mb, rfl⟩
        | i + 2, hd => cases hd
      obtain ⟨h1, h2⟩ := row_ends h hr2
      walk_at "r"
      refine lc_fm e3 (fun p => decide (p.1 = r.1)) (fun p => .int p.2.1) (by omega) (fun p _ => ?_) ?_
      · walk_at "r"
        refine ⟨rfl, ?_⟩
        refine i_d (fun z => ?_) fun z => ?_
        · walk_at "r"
          exact ⟨rfl, rfl⟩
        · rfl
      rw [show (atM l r.1).map (fun p => PyData.int p.2.1) = ((atM l r.1).map (·.2.1)).map .int by rw [List.map_map]; rfl]
      walk_at "r"
      refine n_low h1 ?_
      walk_at "r"
      refine n_top h2 ?_
      walk_at "r"
      refine ⟨_, _, rfl, allDat_map _, ?_, ?_⟩
      · rw [List.length_map, List.length_take]; show _ ≤ 10000000; simp; omega
      walk_at "r"
      have e1 : ([a, b].take (i + 1)).map pairR = ([a, b].take i).map pairR ++ [.tuple [.int r.2.1, .int r.2.2.1]] := by
        rw [List.take_add_one, hr]
        simp only [Option.toList, List.map_append, List.map_cons, List.map_nil]
      rw [e1]
      exact ⟨_, _, rfl⟩
end K10
namespace K10
open PySem M K36
local macro_rules | `(tactic| walk_at "s") => `(tactic| (first | with_reducible refine w_op2 rfl rfl ?_ | (with_reducible show W2 (mVar _ _) _; first | refine w_varD rfl ?_ | refine w_varL rfl ?_ | refine w_varT rfl ?_ | refine w_varM rfl ?_ | refine w_varK rfl ?_ | refine w_varN rfl ?_ | refine w_varNK rfl ?_) | (with_reducible show W2 (mLockE _ _ _) _; refine w_lock rfl ?_) | (with_reducible show W2 (mLockS _ _ _) _; refine w_lockS rfl ?_) | (with_reducible show W2 (mLcO _ _ _ _ _ _) _; first | refine w_lcO rfl rfl ?_ | refine w_lcO rfl (allDat_map _) ?_) | with_reducible refine w_seq ?_ | with_reducible refine w_set ?_ | with_reducible refine w_op ?_ | with_reducible refine w_c ?_ | with_reducible refine w_test ?_ | with_reducible refine w_bool ?_ | with_reducible refine w_ifS ?_ | with_reducible refine w_ret ?_ | with_reducible refine w_drop ?_ | with_reducible refine w_asg ?_ | with_reducible refine w_call ?_ | with_reducible refine w_cons ?_ | with_reducible refine w_nil ?_ | with_reducible refine w_tup ?_ | with_reducible refine w_lst ?_ | with_reducible refine w_cb ?_ | with_reducible refine w_isi ?_ | with_reducible refine w_un ?_ | with_reducible refine w_and ?_ | with_reducible refine w_or ?_ | with_reducible refine w_not ?_ | with_reducible refine w_yes ?_ | with_reducible refine w_andV ?_ | with_reducible refine w_orV ?_ | with_reducible refine w_notV ?_ | with_reducible refine w_if ?_ | with_reducible refine w_chain ?_ | with_reducible refine w_sl ?_ | with_reducible refine w_part ?_ | with_reducible refine w_noPart ?_ | with_reducible refine w_put ?_ | with_reducible refine w_app ?_ | with_reducible refine w_ext ?_ | with_reducible refine w_aug ?_ | with_reducible refine w_next ?_ | with_reducible refine w_cont ?_ | with_reducible refine w_brk ?_ | with_reducible refine w_retN ?_ | with_reducible refine w_for ?_ | with_reducible refine w_rng1 ?_ | with_reducible refine w_rng2 ?_ | with_reducible refine w_lrg1 ?_ | with_reducible refine w_lrg2 ?_ | with_reducible refine w_iL ?_ | with_reducible refine w_iT ?_ | with_reducible refine w_lc ?_ | with_reducible refine w_enum ?_ | with_reducible refine w_dnew ?_ | with_reducible refine w_dget2 ?_ | with_reducible refine w_dix ?_ | with_reducible refine w_dput ?_ | with_reducible refine w_sortK ?_ | with_reducible refine w_tru ?_ | with_reducible refine w_orT ?_ | with_reducible refine w_walkD ?_ | with_reducible refine w_ins ?_ | with_reducible refine w_del ?_ | with_reducible refine w_tupO ?_ | with_reducible refine w_appM ?_ | with_reducible refine w_popAt ?_ | with_reducible refine w_ofB ?_ | with_reducible refine w_isiB ?_ | with_reducible refine w_slB ?_ | with_reducible refine w_appU ?_ | with_reducible refine w_putU ?_ | with_reducible refine w_nnew ?_ | with_reducible refine w_none ?_ | with_reducible refine w_nix ?_ | with_reducible refine w_nin ?_ | with_reducible refine w_nget1 ?_ | with_reducible refine w_nget2 ?_ | with_reducible refine w_nput ?_ | with_reducible refine w_zip ?_ | with_reducible refine w_rem ?_ | with_reducible refine w_naug ?_ | with_reducible refine w_walkN ?_ | with_reducible refine w_lc2 ?_ | (with_reducible refine sk_nx ?_; try dsimp only [List.set_cons_zero, List.set_cons_succ, inAll, List.getElem?_cons_zero, List.getElem?_cons_succ, wipeE, restE]) | with_reducible refine sk_ret ?_ | with_reducible refine sk_ct ?_ | with_reducible refine sk_bk ?_ | with_reducible refine fk_nx ?_ | with_reducible refine fk_ret ?_ | with_reducible refine fk_ct ?_ | with_reducible refine fk_bk ?_ | with_reducible refine dk_ret ?_ | with_reducible refine dk_nx ?_ | with_reducible refine i_t ?_ | with_reducible refine i_f ?_ | with_reducible refine i_nF ?_ | with_reducible refine i_nT ?_ | with_reducible refine f_val ?_ | with_reducible refine fa_cons ?_ | with_reducible refine fa_nil ?_ | with_reducible refine t_val ?_ | with_reducible refine o_val ?_ | with_reducible refine oa_val ?_ | with_reducible refine oa_nil ?_ | with_reducible refine ga_val ?_ | with_reducible refine ga_nil ?_ | with_reducible refine g_n ?_ | with_reducible refine g_sc ?_ | with_reducible refine g_sn ?_ | with_reducible refine lc_nil ?_ | with_reducible refine lc_cons ?_ | (with_reducible show W2 (outAll (Rs.slot _ :: _) _) _; refine oa_slot rfl ?_) | (with_reducible show W2 (outR (Rs.slot _) _) _; refine o_slot rfl ?_) | (with_reducible show W1 (getAll (Rs.slot _ :: _) _) _; refine ga_slot rfl ?_) | (with_reducible show W2 (frzR (Rs.slot _) _) _; first | refine f_slot rfl rfl ?_ | refine f_slot rfl (allDat_map _) ?_) | (with_reducible show W2 (takR (Rs.slot _) _) _; first | refine t_slot rfl rfl ?_ | refine t_slot rfl (allDat_map _) ?_) | (with_reducible show W2 (frzR (Rs.val (O.lst _)) _) _; first | refine f_lst rfl ?_ | refine f_lst (allDat_map _) ?_) | (with_reducible show W1 (gT _ _ _ _) _; refine g_t rfl ?_) | with_reducible refine W1.eq (isi_int _) ?_ | with_reducible refine W1.eq (isi_bool _) ?_ | with_reducible refine W1.eq (isi_str _) ?_ | with_reducible refine W1.eq (isi_tuple _) ?_ | with_reducible refine W1.eq (isi_list _) ?_ | with_reducible refine n_mod (by first | assumption | decide | omega) ?_ | with_reducible refine n_div (by first | assumption | decide | omega) (by first | assumption | decide) ?_ | with_reducible refine n_mulS (by first | assumption | decide | omega) (by first | assumption | decide | omega) ?_ | with_reducible refine n_mul (by decide) ?_ | with_reducible refine W1.eq pw_5 ?_ | with_reducible refine W1.eq pw_6 ?_ | with_reducible refine W1.eq pw_8 ?_ | with_reducible refine W1.eq pw_9 ?_ | with_reducible refine W1.eq pw_19 ?_ | with_reducible refine n_pow (by decide) ?_ | (with_reducible show W1 (pIn (O.dat _) (O.lst _)) _; refine n_inL rfl (by first | assumption | decide +kernel) (by first | assumption | decide +kernel) ?_) | (with_reducible show W1 (pNotIn (O.dat _) (O.lst _)) _; refine n_notInL rfl (by first | assumption | decide +kernel) (by first | assumption | decide +kernel) ?_) | (with_reducible show W1 (pIn (O.dat _) (O.dat (PyData.tuple _))) _; refine n_inT (by first | assumption | with_unfolding_all rfl) (by first | assumption | with_unfolding_all rfl) ?_) | with_reducible refine n_addT (by first | assumption | decide | (show _ ≤ 10000000; simp only [Z.cutD, List.length_append, List.length_cons, List.length_nil, List.length_take, List.length_drop, List.length_reverse]; omega)) ?_ | with_reducible refine n_ixTM (by first | assumption | omega) (by first | assumption | omega) (fun d hd => ?_) | (with_reducible show W1 (one pTuple [O.lst _]) _; first | refine n_tupleL rfl ?_ | refine n_tupleL asL_map ?_) | (with_reducible show W1 (one pLen [O.lst _]) _; first | refine n_lenL rfl ?_ | refine n_lenL asL_map ?_) | (with_reducible show W1 (one pList [O.lst _]) _; first | refine n_listL rfl ?_ | refine n_listL asL_map ?_) | (with_reducible show W1 (pNe (O.dat _) (O.dat _)) _; refine n_neRefl (by first | assumption | with_unfolding_all rfl) ?_) | with_reducible refine n_eqI ?_ | with_reducible refine n_neI ?_ | (with_reducible show W1 _ _; refine W1.eq rfl ?_) | (with_reducible show ite _ _ _; first | refine i_T rfl ?_ | refine i_F rfl ?_) | (with_reducible show Exists _; first | refine ⟨_, rfl, ?_⟩ | refine ⟨_, Or.inr rfl, ?_⟩ | refine ⟨_, Or.inl rfl, ?_⟩ | refine ⟨_, _, rfl, rfl, ?_⟩ | refine ⟨_, _, _, rfl, rfl, rfl, ?_⟩) | (with_reducible show And (_ ≤ lim) _; refine ⟨Nat.le_of_ble_eq_true rfl, ?_⟩)))
local macro_rules | `(tactic| walk_at "r") => `(tactic| repeat walk_at "s")
local macro_rules | `(tactic| walk_at "t") => `(tactic| (refine W2.mono (take_ok ⟨_, _, rfl, by assumption, by assumption⟩ (by first | decide | omega) (by first | decide | assumption)) ?_; rintro _ _ ⟨x, o', e1, e2, hx0, hx1, a', b', e3, hb0, hb1⟩; subst e1; subst e2; subst e3))
local macro_rules | `(tactic| walk_at "r") => `(tactic| repeat (first | walk_at "s" | walk_at "t"))
/-! ### the same prints in another order -/
theorem has_pm {l l' : List T3} (h : l.Perm l') {m : Int} : Has l m ↔ Has l' m :=
  ⟨fun ⟨p, hp, e⟩ => ⟨p, h.mem_iff.mp hp, e⟩, fun ⟨p, hp, e⟩ => ⟨p, h.mem_iff.mpr hp, e⟩⟩
theorem sm_pm {l l' : List T3} (h : l.Perm l') {m : Int} : sm l m = sm l' m := S.sum_perm ((h.filter _).map _)
theorem stat_pm {l l' : List T3} (h : l.Perm l') {m : Int} {s : T3} (g : Stat l m s) : Stat l' m s := by
  obtain ⟨⟨p, hp, e⟩, l2, ⟨q, hq, e'⟩, h2, c⟩ := g
  exact ⟨⟨p, h.mem_iff.mp hp, e⟩, fun r hr => l2 r (h.mem_iff.mpr hr), ⟨q, h.mem_iff.mp hq, e'⟩, fun r hr => h2 r (h.mem_iff.mpr hr), by rw [c, sm_pm h]⟩
theorem rows_pm {l l' : List T3} (h : l.Perm l') {rs : List R4} (g : IsRows l rs) : IsRows l' rs :=
  ⟨g.up, fun m => by rw [g.mem, has_pm h], fun r hr => stat_pm h (g.st r hr)⟩
theorem top_pm {is js : List Int} (h : is.Perm js) {n : Int} (g : topI is = some n) : topI js = some n := by
  obtain ⟨a1, a2⟩ := top_is g
  obtain ⟨m, hm⟩ := top_some (xs := js) (fun z => by rw [z] at h; rw [h.eq_nil] at a1; cases a1)
  obtain ⟨b1, b2⟩ := top_is hm
  have := a2 m (h.mem_iff.mpr b1)
  have := b2 n (h.mem_iff.mp a1)
  rw [hm]
  congr 1
  omega
theorem low_pm {is js : List Int} (h : is.Perm js) {n : Int} (g : lowI is = some n) : lowI js = some n := by
  obtain ⟨a1, a2⟩ := low_is g
  obtain ⟨m, hm⟩ := low_some (xs := js) (fun z => by rw [z] at h; rw [h.eq_nil] at a1; cases a1)
  obtain ⟨b1, b2⟩ := low_is hm
  have := a2 m (h.mem_iff.mpr b1)
  have := b2 n (h.mem_iff.mp a1)
  rw [hm]
  congr 1
  omega
theorem cnt_pm {l l' : List T3} (h : l.Perm l') {t x : Int} : cnt l t x = cnt l' t x := S.sum_perm ((h.filter _).map _)
theorem called_pm {l l' : List T3} (h : l.Perm l') {x : Int} (g : Called l x) : Called l' x := by
  obtain ⟨t, h1, ⟨p, hp, e⟩, h3⟩ := g.is
  refine ⟨t, top_pm (h.map _) h1, ⟨p, h.mem_iff.mp hp, e⟩, fun y ⟨q, hq, e2⟩ => ?_⟩
  rw [← cnt_pm h, ← cnt_pm h]
  exact h3 y ⟨q, h.mem_iff.mpr hq, e2⟩
def Brd (l : List T3) (d : D) : Prop := if l = [] then d = .none else ∃ rs a b n k, IsRows l rs ∧ rs.head? = some a ∧ rs.getLast? = some b ∧ topI (l.map (·.2.1)) = some n ∧ lowI (l.map (·.2.1)) = some k ∧ d = bd a b n k (l.map (·.2.2)).sum
theorem brd_one {l l' : List T3} {d e : D} (h : l.Perm l') (g : Brd l d) (k : Brd l' e) : d = e := by
  unfold Brd at g k
  by_cases z : l = []
  · subst z
    rw [if_pos rfl] at g
    rw [h.symm.eq_nil, if_pos rfl] at k
    rw [g, k]
  · have z' : l' ≠ [] := fun w => z (by rw [w] at h; exact h.eq_nil)
    rw [if_neg z] at g
    rw [if_neg z'] at k
    obtain ⟨rs, a, b, n, m, g1, g2, g3, g4, g5, rfl⟩ := g
    obtain ⟨ts, a', b', n', m', k1, k2, k3, k4, k5, rfl⟩ := k
    cases (rows_pm h g1).one k1
    rw [g2] at k2; cases k2
    rw [g3] at k3; cases k3
    rw [top_pm (h.map _) g4] at k4; cases k4
    rw [low_pm (h.map _) g5] at k5; cases k5
    rw [S.sum_perm (h.map _)]
theorem good_brd {l : List T3} {d : D} (g : Brd l d) : Good d := by
  unfold Brd at g
  split at g
  · subst g; rfl
  · obtain ⟨rs, a, b, n, m, -, -, -, -, -, rfl⟩ := g
    exact good_bd
/-- the price called, or the first where there is no print -/
def Cld (l : List T3) (f x : Int) : Prop := if l = [] then x = f else Called l x
theorem cld_one {l l' : List T3} {f x y : Int} (h : l.Perm l') (g : Cld l f x) (k : Cld l' f y) : x = y := by
  unfold Cld at g k
  by_cases z : l = []
  · subst z
    rw [if_pos rfl] at g
    rw [h.symm.eq_nil, if_pos rfl] at k
    rw [g, k]
  · have z' : l' ≠ [] := fun w => z (by rw [w] at h; exact h.eq_nil)
    rw [if_neg z] at g
    rw [if_neg z'] at k
    exact (called_pm h g).one k
theorem brd_ok {l : List T3} (hl : l.length ≤ 1000) : W2 (f_board [.dat (.list (l.map e3))]) fun r os => (∃ d, Brd l d ∧ r = .dat d) ∧ os = [some (.dat (.list (l.map e3)))] := by
  refine W2.mono (board_ok (.inr rfl) hl) ?_
  rintro r os ⟨h, rfl⟩
  refine ⟨?_, rfl⟩
  by_cases z : l = []
  · rw [if_pos z] at h
    exact ⟨.none, by unfold Brd; rw [if_pos z], h⟩
  · rw [if_neg z] at h
    obtain ⟨rs, a, b, n, k, h1, h2, h3, h4, h5, rfl⟩ := h
    exact ⟨_, by unfold Brd; rw [if_neg z]; exact ⟨rs, a, b, n, k, h1, h2, h3, h4, h5, rfl⟩, rfl⟩
theorem lbrd_ok {o : O} {l : List T3} (ho : Arr o (l.map e3)) (hl : l.length ≤ 1000) : W2 (f_z_board [o]) fun r os => (∃ d, Brd l d ∧ r = .dat d) ∧ ∃ o', os = [some o'] ∧ Arr o' (l.map e3) := by
  by_cases z : l = []
  · subst z
    refine d_z_board ?_
    rcases ho with rfl | rfl
    all_goals
      walk_at "r"
      exact ⟨⟨.none, by unfold Brd; rw [if_pos rfl], rfl⟩, _, rfl, by first | exact .inl rfl | exact .inr rfl⟩
  · have hr := rows_set (l := l)
    have hne := hr.ne z
    obtain ⟨a, ha⟩ : ∃ a, ((momL l).map (rowOf l)).head? = some a := by cases h : (momL l).map (rowOf l) <;> first | exact absurd h hne | exact ⟨_, rfl⟩
    obtain ⟨b, hb⟩ : ∃ b, ((momL l).map (rowOf l)).getLast? = some b := ⟨_, List.getLast?_eq_some_getLast hne⟩
    obtain ⟨n, hn⟩ := top_some (xs := l.map (·.2.1)) (by simpa using z)
    obtain ⟨k, hk⟩ := low_some (xs := l.map (·.2.1)) (by simpa using z)
    refine W2.mono (lboard_ok ho hl z hr ha hb hn hk) ?_
    rintro _ _ ⟨rfl, rfl⟩
    exact ⟨⟨_, by unfold Brd; rw [if_neg z]; exact ⟨_, a, b, n, k, hr, ha, hb, hn, hk, rfl⟩, rfl⟩, _, rfl, .inr rfl⟩
theorem cld_ok {l : List T3} {f : Int} (hl : l.length ≤ 1000) : W2 (f_called_price [.dat (.list (l.map e3)), .dat (.int f)]) fun r os => (∃ x, Cld l f x ∧ r = .dat (.int x)) ∧ os = [some (.dat (.list (l.map e3))), some (.dat (.int f))] := by
  by_cases z : l = []
  · subst z
    refine d_called_price ?_
    walk_at "r"
    exact ⟨⟨f, by unfold Cld; rw [if_pos rfl], rfl⟩, rfl⟩
  · refine W2.mono (called_ok (.inr rfl) hl z) ?_
    rintro _ _ ⟨⟨x, hx, rfl⟩, rfl⟩
    exact ⟨⟨x, by unfold Cld; rw [if_neg z]; exact hx, rfl⟩, rfl⟩
end K10
namespace K10
open PySem M K36
local macro_rules | `(tactic| walk_at "s") => `(tactic| (first | with_reducible refine w_op2 rfl rfl ?_ | (with_reducible show W2 (mVar _ _) _; first | refine w_varD rfl ?_ | refine w_varL rfl ?_ | refine w_varT rfl ?_ | refine w_varM rfl ?_ | refine w_varK rfl ?_ | refine w_varN rfl ?_ | refine w_varNK rfl ?_) | (with_reducible show W2 (mLockE _ _ _) _; refine w_lock rfl ?_) | (with_reducible show W2 (mLockS _ _ _) _; refine w_lockS rfl ?_) | (with_reducible show W2 (mLcO _ _ _ _ _ _) _; first | refine w_lcO rfl rfl ?_ | refine w_lcO rfl (allDat_map _) ?_) | with_reducible refine w_seq ?_ | with_reducible refine w_set ?_ | with_reducible refine w_op ?_ | with_reducible refine w_c ?_ | with_reducible refine w_test ?_ | with_reducible refine w_bool ?_ | with_reducible refine w_ifS ?_ | with_reducible refine w_ret ?_ | with_reducible refine w_drop ?_ | with_reducible refine w_asg ?_ | with_reducible refine w_call ?_ | with_reducible refine w_cons ?_ | with_reducible refine w_nil ?_ | with_reducible refine w_tup ?_ | with_reducible refine w_lst ?_ | with_reducible refine w_cb ?_ | with_reducible refine w_isi ?_ | with_reducible refine w_un ?_ | with_reducible refine w_and ?_ | with_reducible refine w_or ?_ | with_reducible refine w_not ?_ | with_reducible refine w_yes ?_ | with_reducible refine w_andV ?_ | with_reducible refine w_orV ?_ | with_reducible refine w_notV ?_ | with_reducible refine w_if ?_ | with_reducible refine w_chain ?_ | with_reducible refine w_sl ?_ | with_reducible refine w_part ?_ | with_reducible refine w_noPart ?_ | with_reducible refine w_put ?_ | with_reducible refine w_app ?_ | with_reducible refine w_ext ?_ | with_reducible refine w_aug ?_ | with_reducible refine w_next ?_ | with_reducible refine w_cont ?_ | with_reducible refine w_brk ?_ | with_reducible refine w_retN ?_ | with_reducible refine w_for ?_ | with_reducible refine w_rng1 ?_ | with_reducible refine w_rng2 ?_ | with_reducible refine w_lrg1 ?_ | with_reducible refine w_lrg2 ?_ | with_reducible refine w_iL ?_ | with_reducible refine w_iT ?_ | with_reducible refine w_lc ?_ | with_reducible refine w_enum ?_ | with_reducible refine w_dnew ?_ | with_reducible refine w_dget2 ?_ | with_reducible refine w_dix ?_ | with_reducible refine w_dput ?_ | with_reducible refine w_sortK ?_ | with_reducible refine w_tru ?_ | with_reducible refine w_orT ?_ | with_reducible refine w_walkD ?_ | with_reducible refine w_ins ?_ | with_reducible refine w_del ?_ | with_reducible refine w_tupO ?_ | with_reducible refine w_appM ?_ | with_reducible refine w_popAt ?_ | with_reducible refine w_ofB ?_ | with_reducible refine w_isiB ?_ | with_reducible refine w_slB ?_ | with_reducible refine w_appU ?_ | with_reducible refine w_putU ?_ | with_reducible refine w_nnew ?_ | with_reducible refine w_none ?_ | with_reducible refine w_nix ?_ | with_reducible refine w_nin ?_ | with_reducible refine w_nget1 ?_ | with_reducible refine w_nget2 ?_ | with_reducible refine w_nput ?_ | with_reducible refine w_zip ?_ | with_reducible refine w_rem ?_ | with_reducible refine w_naug ?_ | with_reducible refine w_walkN ?_ | with_reducible refine w_lc2 ?_ | (with_reducible refine sk_nx ?_; try dsimp only [List.set_cons_zero, List.set_cons_succ, inAll, List.getElem?_cons_zero, List.getElem?_cons_succ, wipeE, restE]) | with_reducible refine sk_ret ?_ | with_reducible refine sk_ct ?_ | with_reducible refine sk_bk ?_ | with_reducible refine fk_nx ?_ | with_reducible refine fk_ret ?_ | with_reducible refine fk_ct ?_ | with_reducible refine fk_bk ?_ | with_reducible refine dk_ret ?_ | with_reducible refine dk_nx ?_ | with_reducible refine i_t ?_ | with_reducible refine i_f ?_ | with_reducible refine i_nF ?_ | with_reducible refine i_nT ?_ | with_reducible refine f_val ?_ | with_reducible refine fa_cons ?_ | with_reducible refine fa_nil ?_ | with_reducible refine t_val ?_ | with_reducible refine o_val ?_ | with_reducible refine oa_val ?_ | with_reducible refine oa_nil ?_ | with_reducible refine ga_val ?_ | with_reducible refine ga_nil ?_ | with_reducible refine g_n ?_ | with_reducible refine g_sc ?_ | with_reducible refine g_sn ?_ | with_reducible refine lc_nil ?_ | with_reducible refine lc_cons ?_ | (with_reducible show W2 (outAll (Rs.slot _ :: _) _) _; refine oa_slot rfl ?_) | (with_reducible show W2 (outR (Rs.slot _) _) _; refine o_slot rfl ?_) | (with_reducible show W1 (getAll (Rs.slot _ :: _) _) _; refine ga_slot rfl ?_) | (with_reducible show W2 (frzR (Rs.slot _) _) _; first | refine f_slot rfl rfl ?_ | refine f_slot rfl (allDat_map _) ?_) | (with_reducible show W2 (takR (Rs.slot _) _) _; first | refine t_slot rfl rfl ?_ | refine t_slot rfl (allDat_map _) ?_) | (with_reducible show W2 (frzR (Rs.val (O.lst _)) _) _; first | refine f_lst rfl ?_ | refine f_lst (allDat_map _) ?_) | (with_reducible show W1 (gT _ _ _ _) _; refine g_t rfl ?_) | with_reducible refine W1.eq (isi_int _) ?_ | with_reducible refine W1.eq (isi_bool _) ?_ | with_reducible refine W1.eq (isi_str _) ?_ | with_reducible refine W1.eq (isi_tuple _) ?_ | with_reducible refine W1.eq (isi_list _) ?_ | with_reducible refine n_mod (by first | assumption | decide | omega) ?_ | with_reducible refine n_div (by first | assumption | decide | omega) (by first | assumption | decide) ?_ | with_reducible refine n_mulS (by first | assumption | decide | omega) (by first | assumption | decide | omega) ?_ | with_reducible refine n_mul (by decide) ?_ | with_reducible refine W1.eq pw_5 ?_ | with_reducible refine W1.eq pw_6 ?_ | with_reducible refine W1.eq pw_8 ?_ | with_reducible refine W1.eq pw_9 ?_ | with_reducible refine W1.eq pw_19 ?_ | with_reducible refine n_pow (by decide) ?_ | (with_reducible show W1 (pIn (O.dat _) (O.lst _)) _; refine n_inL rfl (by first | assumption | decide +kernel) (by first | assumption | decide +kernel) ?_) | (with_reducible show W1 (pNotIn (O.dat _) (O.lst _)) _; refine n_notInL rfl (by first | assumption | decide +kernel) (by first | assumption | decide +kernel) ?_) | (with_reducible show W1 (pIn (O.dat _) (O.dat (PyData.tuple _))) _; refine n_inT (by first | assumption | with_unfolding_all rfl) (by first | assumption | with_unfolding_all rfl) ?_) | with_reducible refine n_addT (by first | assumption | decide | (show _ ≤ 10000000; simp only [Z.cutD, List.length_append, List.length_cons, List.length_nil, List.length_take, List.length_drop, List.length_reverse]; omega)) ?_ | with_reducible refine n_ixTM (by first | assumption | omega) (by first | assumption | omega) (fun d hd => ?_) | (with_reducible show W1 (one pTuple [O.lst _]) _; first | refine n_tupleL rfl ?_ | refine n_tupleL asL_map ?_) | (with_reducible show W1 (one pLen [O.lst _]) _; first | refine n_lenL rfl ?_ | refine n_lenL asL_map ?_) | (with_reducible show W1 (one pList [O.lst _]) _; first | refine n_listL rfl ?_ | refine n_listL asL_map ?_) | (with_reducible show W1 (pNe (O.dat _) (O.dat _)) _; refine n_neRefl (by first | assumption | with_unfolding_all rfl) ?_) | with_reducible refine n_eqI ?_ | with_reducible refine n_neI ?_ | (with_reducible show W1 _ _; refine W1.eq rfl ?_) | (with_reducible show ite _ _ _; first | refine i_T rfl ?_ | refine i_F rfl ?_) | (with_reducible show Exists _; first | refine ⟨_, rfl, ?_⟩ | refine ⟨_, Or.inr rfl, ?_⟩ | refine ⟨_, Or.inl rfl, ?_⟩ | refine ⟨_, _, rfl, rfl, ?_⟩ | refine ⟨_, _, _, rfl, rfl, rfl, ?_⟩) | (with_reducible show And (_ ≤ lim) _; refine ⟨Nat.le_of_ble_eq_true rfl, ?_⟩)))
local macro_rules | `(tactic| walk_at "r") => `(tactic| repeat walk_at "s")
local macro_rules | `(tactic| walk_at "t") => `(tactic| (refine W2.mono (take_ok ⟨_, _, rfl, by assumption, by assumption⟩ (by first | decide | omega) (by first | decide | assumption)) ?_; rintro _ _ ⟨x, o', e1, e2, hx0, hx1, a', b', e3, hb0, hb1⟩; subst e1; subst e2; subst e3))
local macro_rules | `(tactic| walk_at "r") => `(tactic| repeat (first | walk_at "s" | walk_at "t"))
theorem good_rows {rs : List R4} : Good (.list (rs.map e4)) := by
  have hg : ∀ e ∈ rs.map e4, Good e ∧ e.depth ≤ 1 := fun e he => by
    obtain ⟨r, _, rfl⟩ := List.mem_map.mp he
    exact ⟨good_e4 r, Nat.le_refl 1⟩
  have h1 := layAll fun e he => (hg e he).1
  have h2 := dep_le fun e he => (hg e he).2
  have h3 : (PyData.list (rs.map e4)).depth ≤ 5 := by rw [PyData.depth]; omega
  have h4 : (PyData.list (rs.map e4)).canLay0 = true := by rw [PyData.canLay0]; exact h1
  show (_ && _) = true
  rw [h4, decide_eq_true h3]
  rfl
theorem good_due {d : D} {rs : List R4} {x : Int} (h : Good d) : ∀ e ∈ [d, .list (rs.map e4), .int x], Good e := fun e he => by
  simp only [List.mem_cons, List.not_mem_nil, or_false] at he
  rcases he with rfl | rfl | rfl
  · exact h
  · exact good_rows
  · exact good_int _
theorem f_slotD {ε : M.Env} {i : Nat} {d : D} {P : D → M.Env → Prop} (h : M.slotAt ε i = some (.dat d)) (q : P d (ε.set i (some (.dat d)))) : W2 (frzR (.slot i) ε) P := by
  refine ⟨_, _, ?_, q⟩
  simp only [frzR, h, O.pl, O.er, if_true]
theorem turn_ok {l l2 : List T3} {ns : List Int} {a b f x : Int} {i : Nat} {dB : D} {rs : List R4} {v7 v8 : Option O} {PS : Fl → M.Env → Prop} (hl : l2.length ≤ 1000) (hok : ∀ p ∈ l2, 0 ≤ p.1) (hp : l.Perm l2) (hB : Brd l dB) (hr : IsRows l rs) (hx : Cld l f x)
    (q : ∀ v7 v8, PS .nx [some (.dat (.list (ns.map .int))), some (.dat (.int i)), some (.lst [.dat (.int a), .dat (.int b)]), some (.dat (.list (l.map e3))), some (.dat (.int f)), some (.dat (.list (l.map e3))), some (.lst ([dB, .list (rs.map e4), .int x].map .dat)), v7, v8]) :
    W1 (gN 7 (.dat (.list (l2.map e3))) [some (.dat (.list (ns.map .int))), some (.dat (.int i)), some (.lst [.dat (.int a), .dat (.int b)]), some (.dat (.list (l.map e3))), some (.dat (.int f)), some (.dat (.list (l.map e3))), some (.lst ([dB, .list (rs.map e4), .int x].map .dat)), v7, v8]) fun ε1 => W2 (l_law_2 ε1) PS := by
  have hg := good_due (rs := rs) (x := x) (good_brd hB)
  walk_at "r"
  refine W2.mono (brd_ok hl) ?_
  rintro _ _ ⟨⟨d2, hB2, rfl⟩, rfl⟩
  cases brd_one hp hB hB2
  walk_at "r"
  refine W2.mono (rows_ok (.inr rfl) hl) ?_
  rintro _ _ ⟨⟨ts, ht, htl, rfl⟩, rfl⟩
  cases (rows_pm hp hr).one ht
  walk_at "r"
  refine W2.mono (cld_ok hl) ?_
  rintro _ _ ⟨⟨y, hy, rfl⟩, rfl⟩
  cases cld_one hp hx hy
  walk_at "r"
  refine n_neL (.inl rfl) (.inl rfl) hg ?_
  walk_at "r"
  refine W2.mono (lates_ok (.inr rfl) hl) ?_
  rintro _ _ ⟨rfl, rfl⟩
  repeat walk_at "s"
  refine W2.mono (llates_ok hl hok) ?_
  rintro _ _ ⟨rfl, rfl⟩
  walk_at "r"
  refine n_neL (.inl rfl) (.inl rfl) (fun e he => by obtain ⟨k, _, rfl⟩ := List.mem_map.mp he; exact good_int k) ?_
  walk_at "r"
  refine w_forO ?_
  walk_at "r"
  refine W2.mono (rows_ok (.inr rfl) hl) ?_
  rintro _ _ ⟨⟨us, hu, hul, rfl⟩, rfl⟩
  walk_at "r"
  refine W2.mono (lates_ok (.inr rfl) hl) ?_
  rintro _ _ ⟨rfl, rfl⟩
  walk_at "r"
  have hll := lates_len (l := l2) (t := 0) (i := 0)
  refine w_forO1 ?_
  walk_at "r"
  refine ⟨_, _, rfl, allDat_map _, by rw [List.length_map]; show _ ≤ 10000000; omega, ?_⟩
  walk_at "r"
  refine ⟨rfl, ?_⟩
  refine w_forO1 ?_
  walk_at "r"
  refine ⟨_, _, rfl, allDat_map _, by rw [List.length_map]; show _ ≤ 10000000; omega, ?_⟩
  walk_at "r"
  refine ⟨rfl, ?_⟩
  refine w_forO0 ?_
  walk_at "r"
  exact q _ _
theorem cell_ok {ns : List Int} {i : Nat} {v2 v3 v4 v5 v6 v7 v8 : Option O} {PS : Fl → M.Env → Prop} (hi : i < 1000) (q : ∀ v2 v3 v4 v5 v6 v7 v8, PS .nx [some (.dat (.list (ns.map .int))), some (.dat (.int i)), v2, v3, v4, v5, v6, v7, v8]) :
    W2 (l_law_3 [some (.dat (.list (ns.map .int))), some (.dat (.int i)), v2, v3, v4, v5, v6, v7, v8]) PS := by
  walk_at "r"
  refine W2.mono (bag_ok hi) ?_
  rintro _ _ ⟨⟨a1, b1, rfl, h1, h2⟩, rfl⟩
  walk_at "r"
  refine W2.mono (prints_ok ⟨_, _, rfl, h1, h2⟩) ?_
  rintro _ _ ⟨⟨l, rfl, hl, hok⟩, _, rfl, ⟨a2, b2, rfl, h3, h4⟩⟩
  walk_at "r"
  rename_i f0 u0 u1 a4 b4 u2 u3
  refine W2.mono (lbrd_ok (.inl rfl) hl) ?_
  rintro _ _ ⟨⟨dB, hB, rfl⟩, o', rfl, ho⟩
  rcases ho with rfl | rfl
  all_goals
    walk_at "r"
    refine W2.mono (lrows_ok (by first | exact .inl rfl | exact .inr rfl) hl) ?_
    rintro _ _ ⟨⟨rs, hr, hrl, rfl⟩, rfl⟩
    walk_at "r"
    refine W2.mono (lcalled_ok rfl hl fun p hp => (hok p hp).2.1) ?_
    rintro _ _ ⟨⟨x, hx, rfl⟩, rfl⟩
    walk_at "r"
    refine W2.mono (shuf_ok ⟨_, _, rfl, by assumption, by assumption⟩ (by rw [List.length_map]; exact hl)) ?_
    rintro _ _ ⟨⟨es, rfl, hp⟩, _, rfl, ⟨a3, b3, rfl, h5, h6⟩⟩
    obtain ⟨l', rfl, hp'⟩ := perm_map hp
    walk_at "r"
    refine f_slotD rfl ?_
    walk_at "r"
    refine w_forI (fun j ε => ∃ v7 v8, ε = [some (.dat (.list (ns.map .int))), some (.dat (.int i)), some (.lst [.dat (.int a3), .dat (.int b3)]), some (.dat (.list (l.map e3))), some (.dat (.int f0)), some (.dat (.list (l.map e3))), some (.lst ([dB, .list (rs.map e4), .int x].map .dat)), v7, v8]) ⟨_, _, rfl⟩ (fun ε h => ?_) (fun j d ε hd h => ?_)
    · obtain ⟨v7, v8, rfl⟩ := h
      have hsh := shapedL (good_l (l := l))
      walk_at "r"
      exact q _ _ _ _ _ _ _
    · obtain ⟨v7, v8, rfl⟩ := h
      obtain ⟨l2, hp2, rfl⟩ : ∃ l2 : List T3, l.Perm l2 ∧ d = .list (l2.map e3) := by
        match j, hd with
        | 0, hd => cases hd; exact ⟨l, .refl _, rfl⟩
        | 1, hd => cases hd; exact ⟨l', hp'.symm, rfl⟩
        | 2, hd => cases hd; exact ⟨l, .refl _, rfl⟩
        | j + 3, hd => cases hd
      refine turn_ok (hp2.length_eq ▸ hl) (fun p hm => (hok p (hp2.mem_iff.mpr hm)).1) hp2 hB hr hx ?_
      intro v7 v8
      exact ⟨_, _, rfl⟩
end K10
namespace K10
open PySem M K36
local macro_rules | `(tactic| walk_at "s") => `(tactic| (first | with_reducible refine w_op2 rfl rfl ?_ | (with_reducible show W2 (mVar _ _) _; first | refine w_varD rfl ?_ | refine w_varL rfl ?_ | refine w_varT rfl ?_ | refine w_varM rfl ?_ | refine w_varK rfl ?_ | refine w_varN rfl ?_ | refine w_varNK rfl ?_) | (with_reducible show W2 (mLockE _ _ _) _; refine w_lock rfl ?_) | (with_reducible show W2 (mLockS _ _ _) _; refine w_lockS rfl ?_) | (with_reducible show W2 (mLcO _ _ _ _ _ _) _; first | refine w_lcO rfl rfl ?_ | refine w_lcO rfl (allDat_map _) ?_) | with_reducible refine w_seq ?_ | with_reducible refine w_set ?_ | with_reducible refine w_op ?_ | with_reducible refine w_c ?_ | with_reducible refine w_test ?_ | with_reducible refine w_bool ?_ | with_reducible refine w_ifS ?_ | with_reducible refine w_ret ?_ | with_reducible refine w_drop ?_ | with_reducible refine w_asg ?_ | with_reducible refine w_call ?_ | with_reducible refine w_cons ?_ | with_reducible refine w_nil ?_ | with_reducible refine w_tup ?_ | with_reducible refine w_lst ?_ | with_reducible refine w_cb ?_ | with_reducible refine w_isi ?_ | with_reducible refine w_un ?_ | with_reducible refine w_and ?_ | with_reducible refine w_or ?_ | with_reducible refine w_not ?_ | with_reducible refine w_yes ?_ | with_reducible refine w_andV ?_ | with_reducible refine w_orV ?_ | with_reducible refine w_notV ?_ | with_reducible refine w_if ?_ | with_reducible refine w_chain ?_ | with_reducible refine w_sl ?_ | with_reducible refine w_part ?_ | with_reducible refine w_noPart ?_ | with_reducible refine w_put ?_ | with_reducible refine w_app ?_ | with_reducible refine w_ext ?_ | with_reducible refine w_aug ?_ | with_reducible refine w_next ?_ | with_reducible refine w_cont ?_ | with_reducible refine w_brk ?_ | with_reducible refine w_retN ?_ | with_reducible refine w_for ?_ | with_reducible refine w_rng1 ?_ | with_reducible refine w_rng2 ?_ | with_reducible refine w_lrg1 ?_ | with_reducible refine w_lrg2 ?_ | with_reducible refine w_iL ?_ | with_reducible refine w_iT ?_ | with_reducible refine w_lc ?_ | with_reducible refine w_enum ?_ | with_reducible refine w_dnew ?_ | with_reducible refine w_dget2 ?_ | with_reducible refine w_dix ?_ | with_reducible refine w_dput ?_ | with_reducible refine w_sortK ?_ | with_reducible refine w_tru ?_ | with_reducible refine w_orT ?_ | with_reducible refine w_walkD ?_ | with_reducible refine w_ins ?_ | with_reducible refine w_del ?_ | with_reducible refine w_tupO ?_ | with_reducible refine w_appM ?_ | with_reducible refine w_popAt ?_ | with_reducible refine w_ofB ?_ | with_reducible refine w_isiB ?_ | with_reducible refine w_slB ?_ | with_reducible refine w_appU ?_ | with_reducible refine w_putU ?_ | with_reducible refine w_nnew ?_ | with_reducible refine w_none ?_ | with_reducible refine w_nix ?_ | with_reducible refine w_nin ?_ | with_reducible refine w_nget1 ?_ | with_reducible refine w_nget2 ?_ | with_reducible refine w_nput ?_ | with_reducible refine w_zip ?_ | with_reducible refine w_rem ?_ | with_reducible refine w_naug ?_ | with_reducible refine w_walkN ?_ | with_reducible refine w_lc2 ?_ | (with_reducible refine sk_nx ?_; try dsimp only [List.set_cons_zero, List.set_cons_succ, inAll, List.getElem?_cons_zero, List.getElem?_cons_succ, wipeE, restE]) | with_reducible refine sk_ret ?_ | with_reducible refine sk_ct ?_ | with_reducible refine sk_bk ?_ | with_reducible refine fk_nx ?_ | with_reducible refine fk_ret ?_ | with_reducible refine fk_ct ?_ | with_reducible refine fk_bk ?_ | with_reducible refine dk_ret ?_ | with_reducible refine dk_nx ?_ | with_reducible refine i_t ?_ | with_reducible refine i_f ?_ | with_reducible refine i_nF ?_ | with_reducible refine i_nT ?_ | with_reducible refine f_val ?_ | with_reducible refine fa_cons ?_ | with_reducible refine fa_nil ?_ | with_reducible refine t_val ?_ | with_reducible refine o_val ?_ | with_reducible refine oa_val ?_ | with_reducible refine oa_nil ?_ | with_reducible refine ga_val ?_ | with_reducible refine ga_nil ?_ | with_reducible refine g_n ?_ | with_reducible refine g_sc ?_ | with_reducible refine g_sn ?_ | with_reducible refine lc_nil ?_ | with_reducible refine lc_cons ?_ | (with_reducible show W2 (outAll (Rs.slot _ :: _) _) _; refine oa_slot rfl ?_) | (with_reducible show W2 (outR (Rs.slot _) _) _; refine o_slot rfl ?_) | (with_reducible show W1 (getAll (Rs.slot _ :: _) _) _; refine ga_slot rfl ?_) | (with_reducible show W2 (frzR (Rs.slot _) _) _; first | refine f_slot rfl rfl ?_ | refine f_slot rfl (allDat_map _) ?_) | (with_reducible show W2 (takR (Rs.slot _) _) _; first | refine t_slot rfl rfl ?_ | refine t_slot rfl (allDat_map _) ?_) | (with_reducible show W2 (frzR (Rs.val (O.lst _)) _) _; first | refine f_lst rfl ?_ | refine f_lst (allDat_map _) ?_) | (with_reducible show W1 (gT _ _ _ _) _; refine g_t rfl ?_) | with_reducible refine W1.eq (isi_int _) ?_ | with_reducible refine W1.eq (isi_bool _) ?_ | with_reducible refine W1.eq (isi_str _) ?_ | with_reducible refine W1.eq (isi_tuple _) ?_ | with_reducible refine W1.eq (isi_list _) ?_ | with_reducible refine n_mod (by first | assumption | decide | omega) ?_ | with_reducible refine n_div (by first | assumption | decide | omega) (by first | assumption | decide) ?_ | with_reducible refine n_mulS (by first | assumption | decide | omega) (by first | assumption | decide | omega) ?_ | with_reducible refine n_mul (by decide) ?_ | with_reducible refine W1.eq pw_5 ?_ | with_reducible refine W1.eq pw_6 ?_ | with_reducible refine W1.eq pw_8 ?_ | with_reducible refine W1.eq pw_9 ?_ | with_reducible refine W1.eq pw_19 ?_ | with_reducible refine n_pow (by decide) ?_ | (with_reducible show W1 (pIn (O.dat _) (O.lst _)) _; refine n_inL rfl (by first | assumption | decide +kernel) (by first | assumption | decide +kernel) ?_) | (with_reducible show W1 (pNotIn (O.dat _) (O.lst _)) _; refine n_notInL rfl (by first | assumption | decide +kernel) (by first | assumption | decide +kernel) ?_) | (with_reducible show W1 (pIn (O.dat _) (O.dat (PyData.tuple _))) _; refine n_inT (by first | assumption | with_unfolding_all rfl) (by first | assumption | with_unfolding_all rfl) ?_) | with_reducible refine n_addT (by first | assumption | decide | (show _ ≤ 10000000; simp only [Z.cutD, List.length_append, List.length_cons, List.length_nil, List.length_take, List.length_drop, List.length_reverse]; omega)) ?_ | with_reducible refine n_ixTM (by first | assumption | omega) (by first | assumption | omega) (fun d hd => ?_) | (with_reducible show W1 (one pTuple [O.lst _]) _; first | refine n_tupleL rfl ?_ | refine n_tupleL asL_map ?_) | (with_reducible show W1 (one pLen [O.lst _]) _; first | refine n_lenL rfl ?_ | refine n_lenL asL_map ?_) | (with_reducible show W1 (one pList [O.lst _]) _; first | refine n_listL rfl ?_ | refine n_listL asL_map ?_) | (with_reducible show W1 (pNe (O.dat _) (O.dat _)) _; refine n_neRefl (by first | assumption | with_unfolding_all rfl) ?_) | with_reducible refine n_eqI ?_ | with_reducible refine n_neI ?_ | (with_reducible show W1 _ _; refine W1.eq rfl ?_) | (with_reducible show ite _ _ _; first | refine i_T rfl ?_ | refine i_F rfl ?_) | (with_reducible show Exists _; first | refine ⟨_, rfl, ?_⟩ | refine ⟨_, Or.inr rfl, ?_⟩ | refine ⟨_, Or.inl rfl, ?_⟩ | refine ⟨_, _, rfl, rfl, ?_⟩ | refine ⟨_, _, _, rfl, rfl, rfl, ?_⟩) | (with_reducible show And (_ ≤ lim) _; refine ⟨Nat.le_of_ble_eq_true rfl, ?_⟩)))
local macro_rules | `(tactic| walk_at "r") => `(tactic| repeat walk_at "s")
theorem law_ok (ns : List Int) (hl : ns.length ≤ 63) : W2 (f_law [.dat (.list (ns.map .int))]) fun r os => r = .dat (.bool true) := by
  refine d_law ?_
  walk_at "r"
  refine ⟨by split <;> omega, by split <;> omega, ?_⟩
  generalize hm : ((1 : Int) + if 10 < ((ns.map PyData.int).length : Int) then 10 else ((ns.map PyData.int).length : Int)).toNat = m
  have hm2 : m ≤ 11 := by rw [← hm]; split <;> omega
  refine w_forI (fun i ε => ∃ e1 e2 e3 e4 e5 e6 e7 e8, ε = [some (.dat (.list (ns.map .int))), e1, e2, e3, e4, e5, e6, e7, e8]) ⟨_, _, _, _, _, _, _, _, rfl⟩ (fun ε h => ?_) (fun i d ε hd h => ?_)
  · obtain ⟨e1, e2, e3, e4, e5, e6, e7, e8, rfl⟩ := h
    walk_at "r"
    rfl
  · obtain ⟨e1, e2, e3, e4, e5, e6, e7, e8, rfl⟩ := h
    obtain ⟨rfl, hi⟩ := ints_get hd
    walk_at "s"
    exact cell_ok (by omega) fun e2 e3 e4 e5 e6 e7 e8 => ⟨_, _, _, _, _, _, _, _, rfl⟩
theorem law_true (ns : List Int) (hl : ns.length ≤ 63) : ∃ os', f_law [.dat (.list (ns.map .int))] = some (.dat (.bool true), os') := by
  obtain ⟨r, os, e, rfl⟩ := law_ok ns hl
  exact ⟨os, e⟩
end K10
open PySem PySem.W PyProof.Rows
set_option maxHeartbeats 0 in
theorem PySem.Challenge.cw_palmhall_k10_the_board_holds : PySem.Challenge.rw_palmhall_k10_the_board.Holds := by
  w_on; o_law; k_head; (case hw => w_witness2)
  k_fill
  refine L2.walk_ofK (l := PySem.Challenge.rw_palmhall_k10_the_board) (n := 63) (k := 3) (x := "script") (CX := L2.CX0) (sp := fun K => Z.conc (M.saM K 1 K10.f_law)) rfl (by decide) rfl ⟨rfl, by decide, by decide⟩ (fun w h Y => PySem.W.kIn_of Y) ?F (fun K H a ns hl _ hS => M.law_start K10.law_true hl hS) (fun _ _ _ _ h => h)
  case F =>
    intro w mg fa h KX G hmg
    refine' K10.all_mk KX G hmg ?a1 ?l1 ?c1 ?k1 ?a2 ?l2 ?c2 ?k2 ?a3 ?l3 ?c3 ?k3 ?a4 ?l4 ?c4 ?k4 ?a5 ?l5 ?c5 ?k5 ?a6 ?l6 ?c6 ?k6 ?a7 ?l7 ?c7 ?k7 ?a8 ?l8 ?c8 ?k8 ?a9 ?l9 ?c9 ?k9 ?a10 ?l10 ?c10 ?k10 ?a11 ?l11 ?c11 ?k11 ?a12 ?l12 ?c12 ?k12 ?a13 ?l13 ?c13 ?k13 ?z_enumerate ?z_min ?z_max ?z_sum ?z_sorted ?z_set ?z_len ?z_range ?z_int ?z_list
    (case a1 => k_is); (case l1 => k_is); (case c1 => k_is); (case k1 => k_is); (case a2 => k_is); (case l2 => k_is); (case c2 => k_is); (case k2 => k_is); (case a3 => k_is); (case l3 => k_is); (case c3 => k_is); (case k3 => k_is); (case a4 => k_is); (case l4 => k_is); (case c4 => k_is); (case k4 => k_is); (case a5 => k_is); (case l5 => k_is); (case c5 => k_is); (case k5 => k_is); (case a6 => k_is); (case l6 => k_is); (case c6 => k_is); (case k6 => k_is); (case a7 => k_is); (case l7 => k_is); (case c7 => k_is); (case k7 => k_is); (case a8 => k_is); (case l8 => k_is); (case c8 => k_is); (case k8 => k_is); (case a9 => k_is); (case l9 => k_is); (case c9 => k_is); (case k9 => k_is); (case a10 => k_is); (case l10 => k_is); (case c10 => k_is); (case k10 => k_is); (case a11 => k_is); (case l11 => k_is); (case c11 => k_is); (case k11 => k_is); (case a12 => k_is); (case l12 => k_is); (case c12 => k_is); (case k12 => k_is); (case a13 => k_is); (case l13 => k_is); (case c13 => k_is); (case k13 => k_is); (case z_enumerate => k_is); (case z_min => k_is); (case z_max => k_is); (case z_sum => k_is); (case z_sorted => k_is); (case z_set => k_is); (case z_len => k_is); (case z_range => k_is); (case z_int => k_is); (case z_list => k_is)
